import PyProof.Rows.All
import Wide.All
import OpenK.AllK
import Wide.FinOn
import KE.KStateDown
import Lean
import HandS.ForMost
import HandS.ForExc
import HandS.Words
import HandS.WordsExc
import HandS.Defaults
import HandS.ExcInit
import HandS.ExcIs
import HandS.ExcField
import HandS.Lambda
import HandS.Head0
import HandS.Head1
import HandS.Head2
import HandS.HeadEnd
import HandS.HeadHook1
import HandS.HeadHook2
import HandS.HeadHook3
import HandS.HeadHook4
import HandS.EndTab
import PySem.Challenge.RW_eithershown_k02_whole_theories
import HandS.Evl
import HandS.IsInst
import HandS.More
import HandS.StrMore
import PyProof.AutoSeq1
import HandS.CallLocal
import HandS.Walk
import HandS.DictComp
import HandS.Zip
import KE.GoesMore
import HandS.ExcOwn
import HandS.Wide
import HandS.TryMany
import HandS.ListItems
import HandS.Deep
import HandS.Iter
import HandS.TryOnly
import HandS.TupAny
import KE.KSortTupUse
import HandS.Nested
import HandS.OwnEq
import PyProof.InstEq
import HandS.MakeKwOnly
import HandS.AnyAll
import HandS.HeadWalk
set_option Elab.async false
set_option linter.all false
set_option maxRecDepth 100000
set_option maxHeartbeats 0
/-! The text by places, the head's looks. -/
namespace K02
open PySem PySem.Spec PyProof.Rows L2
def top (i : Nat) : Stmt := PySem.Challenge.pw_eithershown_k02_whole_theories.main.body.getD i (.Pass ⟨0, 0, 0, 0⟩)
abbrev FnP (K : PySem.W.Frag) (x : Str) (st : Stmt) (f : Addr) (fd : FuncData) : Prop := FunD K x x (defArgs st) (defBody st) (defScope st) [] [] f fd
abbrev s_is_integer : Stmt := top 14
abbrev s_is_number : Stmt := top 15
abbrev s_is_arity : Stmt := top 16
abbrev s_is_list : Stmt := top 17
abbrev s_is_pair : Stmt := top 18
abbrev s_is_spelled : Stmt := top 19
abbrev s_is_name : Stmt := top 20
abbrev s_is_variable : Stmt := top 21
abbrev s_bad_pair : Stmt := top 22
abbrev s_has_lists : Stmt := top 23
abbrev s_frozen : Stmt := top 24
abbrev s_has_places : Stmt := top 28
abbrev s_words_fit : Stmt := top 29
abbrev s_is_equality : Stmt := top 30
abbrev s_atom_fits : Stmt := top 31
abbrev s_scope_within : Stmt := top 32
abbrev s_sentence_fits : Stmt := top 33
abbrev s_check_names : Stmt := top 36
abbrev s_is_closed : Stmt := top 38
abbrev s_bad_axiom : Stmt := top 40
abbrev s_check_theory : Stmt := top 43
abbrev s__law_a_raw : Stmt := top 45
abbrev s__law_a_made : Stmt := top 46
abbrev s__law_a_word : Stmt := top 47
abbrev s__law_a_atom : Stmt := top 48
abbrev s__law_a_sentence : Stmt := top 49
abbrev s__law_a_axioms : Stmt := top 50
abbrev s__law_a_spoiled : Stmt := top 51
abbrev s__law_start : Stmt := top 52
abbrev s__law_draw : Stmt := top 53
abbrev s__law_pick : Stmt := top 54
abbrev s__law_mixed : Stmt := top 55
abbrev s__law_same : Stmt := top 56
abbrev s__law_loose : Stmt := top 57
abbrev s__law_met : Stmt := top 58
abbrev s__law_told_right : Stmt := top 59
abbrev s__law_refused_right : Stmt := top 60
abbrev s_law : Stmt := top 61
def dN (x : Str) (st : Stmt) : He.DefD := ⟨(x, none), x, x, defArgs st, defBody st, defScope st, [], []⟩
def fnA0 : List (He.DefD) := [dN "is_integer" s_is_integer, dN "is_number" s_is_number, dN "is_arity" s_is_arity, dN "is_list" s_is_list, dN "is_pair" s_is_pair, dN "is_spelled" s_is_spelled, dN "is_name" s_is_name, dN "is_variable" s_is_variable, dN "bad_pair" s_bad_pair, dN "has_lists" s_has_lists, dN "frozen" s_frozen, dN "has_places" s_has_places, dN "words_fit" s_words_fit, dN "is_equality" s_is_equality, dN "atom_fits" s_atom_fits, dN "scope_within" s_scope_within, dN "sentence_fits" s_sentence_fits, dN "check_names" s_check_names, dN "is_closed" s_is_closed, dN "bad_axiom" s_bad_axiom]
def fnA1 : List (He.DefD) := [dN "check_theory" s_check_theory, dN "_law_a_raw" s__law_a_raw, dN "_law_a_made" s__law_a_made, dN "_law_a_word" s__law_a_word, dN "_law_a_atom" s__law_a_atom, dN "_law_a_sentence" s__law_a_sentence, dN "_law_a_axioms" s__law_a_axioms, dN "_law_a_spoiled" s__law_a_spoiled, dN "_law_start" s__law_start, dN "_law_draw" s__law_draw, dN "_law_pick" s__law_pick, dN "_law_mixed" s__law_mixed, dN "_law_same" s__law_same, dN "_law_loose" s__law_loose, dN "_law_met" s__law_met, dN "_law_told_right" s__law_told_right, dN "_law_refused_right" s__law_refused_right, dN "law" s_law]
def fnA : List (He.DefD) := fnA0 ++ fnA1
def loose0 : List (Str) := ["__name__", "ShowError", "BadAxioms", "BadFunctions", "BadGoal", "BadNames", "BadPredicates", "BadTheory", "LETTERS", "CAPITALS", "LONGEST", "MOST_PLACES", "KEPT", "is_integer", "is_number", "is_arity", "is_list", "is_pair", "is_spelled", "is_name", "is_variable", "bad_pair", "has_lists", "frozen", "BINDERS", "JOINERS", "has_places", "words_fit", "is_equality", "atom_fits"]
def loose1 : List (Str) := ["scope_within", "sentence_fits", "Names", "check_names", "is_closed", "bad_axiom", "Theory", "Problem", "check_theory", "_law_a_raw", "_law_a_made", "_law_a_word", "_law_a_atom", "_law_a_sentence", "_law_a_axioms", "_law_a_spoiled", "_law_start", "_law_draw", "_law_pick", "_law_mixed", "_law_same", "_law_loose", "_law_met", "_law_told_right", "_law_refused_right"]
def loose : List (Str) := loose0 ++ loose1
/-- walking names to what they stand for -/
def nv (g : Addr → Option Obj) (x : Str) : Addr := He.ga (He.frG g [mainGlobals]) x
def codeOf (g : Addr → Option Obj) (f : Addr) : List Addr := match g f with
  | some ⟨_, _, .func fd, _⟩ => He.refV fd.code
  | _ => []
def objsM (g : Addr → Option Obj) (ms : List Str) (x : Str) : List Addr := match g (nv g x) with
  | some ⟨_, _, .cls cd, _⟩ => nv g x :: cd.ns :: ms.flatMap fun m => (match PySem.W.nsIn (He.frG g [cd.ns]) cd.ns m with
    | some (some (.ref f)) => f :: codeOf g f
    | _ => [])
  | _ => []
def objsC (g : Addr → Option Obj) (x : Str) : List Addr := objsM g ["__init__"] x
def objsF (g : Addr → Option Obj) (x : Str) : List Addr := nv g x :: codeOf g (nv g x)
def dnms : List Str := fnA.map (·.name)
abbrev sI (i : Nat) : Stmt := inClass (top i) 0
def dI (x : Str) (i : Nat) : He.DefD := ⟨(x, some "__init__"), "__init__", x ++ ".__init__", defArgs (sI i), defBody (sI i), defScope (sI i), [], []⟩
abbrev s_Names_init : Stmt := inClass (top 35) 0
abbrev s_Names_functions : Stmt := inClass (top 35) 1
abbrev s_Names_predicates : Stmt := inClass (top 35) 2
abbrev s_Names_eq : Stmt := inClass (top 35) 3
abbrev s_Theory_init : Stmt := inClass (top 41) 0
abbrev s_Theory_names : Stmt := inClass (top 41) 1
abbrev s_Theory_axioms : Stmt := inClass (top 41) 2
abbrev s_Theory_eq : Stmt := inClass (top 41) 3
abbrev s_Problem_init : Stmt := inClass (top 42) 0
abbrev s_Problem_theory : Stmt := inClass (top 42) 1
abbrev s_Problem_goal : Stmt := inClass (top 42) 2
abbrev s_Problem_eq : Stmt := inClass (top 42) 3
def dM (x m : Str) (st : Stmt) : He.DefD := ⟨(x, some m), m, x ++ ("." : Str) ++ m, defArgs st, defBody st, defScope st, [], []⟩
def fnI : List He.DefD := [dI "BadAxioms" 2, dI "BadFunctions" 3, dI "BadGoal" 4, dI "BadNames" 5, dI "BadPredicates" 6, dI "BadTheory" 7, dM "Names" "__init__" s_Names_init, dM "Names" "functions" s_Names_functions, dM "Names" "predicates" s_Names_predicates, dM "Names" "__eq__" s_Names_eq, dM "Theory" "__init__" s_Theory_init, dM "Theory" "names" s_Theory_names, dM "Theory" "axioms" s_Theory_axioms, dM "Theory" "__eq__" s_Theory_eq, dM "Problem" "__init__" s_Problem_init, dM "Problem" "theory" s_Problem_theory, dM "Problem" "goal" s_Problem_goal, dM "Problem" "__eq__" s_Problem_eq]
def fn : List He.DefD := fnA ++ fnI
def cnms : List Str := ["BadAxioms", "BadFunctions", "BadGoal", "BadNames", "BadPredicates", "BadTheory"]
def onms : List Str := ["Names", "Theory", "Problem"]
def asK (g : Addr → Option Obj) : List Addr := mainGlobals :: sysModules :: nv g "KEPT" :: nv g "BINDERS" :: nv g "JOINERS" :: (objsC g "ShowError" ++ cnms.flatMap (objsC g) ++ objsM g ["__init__", "functions", "predicates", "__eq__"] "Names" ++ objsM g ["__init__", "names", "axioms", "__eq__"] "Theory" ++ objsM g ["__init__", "theory", "goal", "__eq__"] "Problem") ++ dnms.flatMap (objsF g)
def fK (g : Addr → Option Obj) : PySem.W.Frag := He.frT g (asK g)
def fBl : List Str := ["all", "any", "bool", "dict", "enumerate", "int", "isinstance", "len", "list", "max", "range", "repr", "sorted", "str", "tuple", "zip"]
def faG : List He.Fa := dnms.map He.Fa.glo
def faC : List He.Fa := cnms.map He.Fa.glo
def faF : List He.Fa := fBl.map He.Fa.free
def faO : List He.Fa := [.glo "KEPT", .str "LETTERS" "abcdefghijklmnopqrstuvwxyz", .str "CAPITALS" "ABCDEFGHIJKLMNOPQRSTUVWXYZ", .int "LONGEST" 8, .int "MOST_PLACES" 6, .glo "BINDERS", .glo "JOINERS", .glo "Names", .cls "Names", .noat "Names" "_functions", .noat "Names" "_predicates", .mkr "Names", .meth "Names" "functions", .meth "Names" "predicates", .meth "Names" "__eq__", .glo "Theory", .cls "Theory", .noat "Theory" "_names", .noat "Theory" "_axioms", .mkr "Theory", .meth "Theory" "names", .meth "Theory" "axioms", .meth "Theory" "__eq__", .glo "Problem", .cls "Problem", .noat "Problem" "_theory", .noat "Problem" "_goal", .mkr "Problem", .meth "Problem" "theory", .meth "Problem" "goal", .meth "Problem" "__eq__"]
def fa : List He.Fa := faG ++ (faC ++ (faF ++ faO))
def kept0 : List Str := ["all", "some", "not", "and", "or", "then", "iff", "false", "axiom", "goal", "function", "predicate", "things", "is", "by", "on", "of", "put", "for", "in", "at"]
def kept1 : List Str := ["into", "given", "instance", "resolve", "replace", "same", "alike", "either", "turned", "chained", "parts", "holds", "class", "fact", "cell", "clash", "size", "follows", "fails", "open", "watch", "hold"]
def kept : List Str := kept0 ++ kept1
def ts : List He.Tab := [(fun K => He.ga K "KEPT", kept)]
/-- the defs that make lambdas -/
def tf : List He.Defn := [("bad_axiom", none), ("_law_refused_right", none)]
abbrev R : PySem.W.OpenRow := PySem.W.OpenLaw.row PySem.Challenge.rw_eithershown_k02_whole_theories
/-- names that are heads of words -/
def hds0 : List Str := ["c", "d", "a", "b", "f", "g", "h", "next", "plus", "c1", "zero", "eightsgn", "p", "q", "r", "s", "less", "even"]
def hds1 : List Str := ["odd9", "man", "p1", "late9", "a1", "a2", "a3", "top", "base", "rule1", "zz", "last9", "b1", "p9", "c9", "x", "y", "ab", "names", "theory"]
def hds : List Str := hds0 ++ hds1
def bmS (S : Addr) : List Value := .ref S :: PySem.HandSPX.veTail
def shapeB (K : PySem.W.Frag) (C : Addr) (bm : List Value) : Bool := match K.lookup C with
  | some ⟨.type "type", _, .cls cd, sl⟩ => (match sl.toList with
    | [_, _, _, _, some (.builtin n), _] => n == "ValueError.__new__" && (!cd.hasDel && (cd.hasDict && cd.mro == .ref C :: bm))
    | _ => false)
  | _ => false
/-- what is asked of each such class: C, its mro, the names that it must not have -/
def clB (K : PySem.W.Frag) (bm : List Value) (C : Addr) (fs : List Str) : Bool :=
  shapeB K C bm && (He.eqO (PySem.W.findIn K (.ref C) "__setattr__") (some (some (.builtin "object.__setattr__"))) &&
  (He.eqO (PySem.W.findIn K (.ref C) "__getattribute__") (some (some (.builtin "BaseException.__getattribute__"))) &&
  (He.eqO (PySem.W.findIn K (.ref C) "__getattr__") (some none) &&
  (He.eqO (PySem.W.findIn K (.ref C) "__class__") (some (some (.builtin "object.__class__"))) &&
  (PySem.W.keepIn K (.ref C) && fs.all fun f => He.eqO (PySem.W.findIn K (.ref C) f) (some none))))))
def exC (K : PySem.W.Frag) (x z : Str) : Bool := clB K (bmS (He.ga K "ShowError")) (He.ga K x) [z] && (He.eqO (PySem.W.findIn K (.ref (He.ga K x)) "__init__") (some (some (.ref (He.ma K (He.ga K x) "__init__")))) &&
  (decide (PySem.W.typeIn K (.ref (He.ma K (He.ga K x) "__init__")) = some (.type "function")) && (decide (PySem.W.exmOne K (.ref (He.ga K x)) (.ref (He.ga K x)) = some true) &&
  decide (PySem.W.subIn K (.ref (He.ga K x)) (.type "BaseException") = some true))))
/-- the errors that are raised, with the name of what they keep -/
def xnm : List (Str × Str) := [("BadAxioms", "index"), ("BadFunctions", "index"), ("BadGoal", "thing"), ("BadNames", "thing"), ("BadPredicates", "index"), ("BadTheory", "thing")]
def exO1 (K : PySem.W.Frag) (x : Str) : Bool := He.eqO (PySem.W.findIn K (.ref (He.ga K x)) "__class__") (some (some (.builtin "object.__class__"))) && (decide (PySem.W.mroIn K (He.ga K x) (.type "object") = some true) && (decide (PySem.W.typeIn K (.ref (He.ga K x)) = some (.type "type")) && (He.eqO (PySem.W.findIn K (.ref (He.ga K x)) "__ne__") (some (some (.builtin "object.__ne__"))) &&
  (decide (PySem.W.subIn K (.ref (He.ga K x)) (.type "object") = some true) && ((["int", "str", "list", "tuple", "dict"] : List String).all (fun t => decide (PySem.W.subIn K (.ref (He.ga K x)) (.type t) = some false)) &&
  onms.all fun y => decide (x = y) || decide (PySem.W.subIn K (.ref (He.ga K x)) (.ref (He.ga K y)) = some false))))))
def exO (K : PySem.W.Frag) : Bool := onms.all (exO1 K)
def txtO : Value → Option Str
  | .str x _ => some x
  | _ => none
/-- a tuple of texts of the module -/
def tupB (K : PySem.W.Frag) (a : Addr) (xs : List Str) : Bool := match K.lookup a with
  | some ⟨.type c, _, .seq its _, _⟩ => decide (c = "tuple") && (decide (its.size = xs.length) && decide (its.toList.map txtO = xs.map some))
  | _ => false
def exT (K : PySem.W.Frag) : Bool := tupB K (He.ga K "BINDERS") ["all", "some"] && tupB K (He.ga K "JOINERS") ["and", "or", "then", "iff"]
def exP (K : PySem.W.Frag) : Bool := xnm.all fun p => cnms.all fun y => decide (PySem.W.exmOne K (.ref (He.ga K p.1)) (.ref (He.ga K y)) = some (decide (p.1 = y)))
/-- kept words that stand in data -/
def kws : List Str := ["not", "all", "some", "and", "or", "then", "iff"]
def isIn : Option (Option Value) → Bool
  | some (some _) => true
  | _ => false
def exN (K : PySem.W.Frag) : Bool := (hds.all fun x => He.eqO (PySem.W.nsIn K (He.ga K "KEPT") x) (some none)) && kws.all fun x => isIn (PySem.W.nsIn K (He.ga K "KEPT") x)
def exU (K : PySem.W.Frag) : Bool := decide ((He.cT K ("bad_axiom", none)).2 ≠ (He.cT K ("_law_refused_right", none)).2)
def exA (K : PySem.W.Frag) : Bool := (xnm.all fun p => exC K p.1 p.2) && (exO K && (exT K && (exP K && (exN K && exU K))))
def obA (g : Addr → Option Obj) : He.AlT × Bool := (He.obsT fa fn ts (fK g), exA (fK g) && He.tabsB g tf (fK g))
def valA (w : World) : He.AlT × Bool := (He.valT fn ts w, true)
noncomputable abbrev gT (s : PySem.W.SharedT) : Addr → Option Obj := HandSHeadRun.getT s
structure SaysA (w : World) (h : Heap) (K : PySem.W.Frag) : Prop where
  t : He.SaysT fa fn ts w K
  ex : exA K = true
  hd : ∀ p ∈ tf, PySem.W.codeHdIn K (He.cT K p).1 (He.cT K p).2 = true
  out : ∀ p ∈ tf, K.lookup (He.cT K p).2 = none
  empty : ∀ p ∈ tf, h.get? (He.cT K p).2 = some { cls := .none, data := .fields #[] }
theorem says_of {w : World} {h : Heap} (e : obA h.get? = valA w) : SaysA w h (fK h.get?) := by
  have e2 := congrArg (fun z : He.AlT × Bool => z.2) e
  obtain ⟨h1, h2⟩ := Bool.and_eq_true_iff.mp e2
  have key : ∀ p ∈ tf, PySem.W.codeHdIn (fK h.get?) (He.cT (fK h.get?) p).1 (He.cT (fK h.get?) p).2 = true ∧ ∃ o, h.get? (He.cT (fK h.get?) p).2 = some o ∧ He.emptyTab o = true := fun p hp => by
    obtain ⟨a1, a2⟩ := Bool.and_eq_true_iff.mp (List.all_eq_true.mp h2 p hp)
    refine ⟨a1, ?_⟩
    cases q : h.get? (He.cT (fK h.get?) p).2 with
    | none =>
      rw [q] at a2
      cases a2
    | some o =>
      rw [q] at a2
      exact ⟨o, rfl, a2⟩
  exact ⟨congrArg (fun z : He.AlT × Bool => z.1) e, h1, fun p hp => (key p hp).1, fun p hp => by
    obtain ⟨_, o, q, z⟩ := key p hp
    exact He.frT_none q z, fun p hp => by
    obtain ⟨_, o, q, z⟩ := key p hp
    rw [q, He.emptyTab_eq z]⟩
def hookA : PySem.W.Hook where
  α := He.AlT × Bool
  obs := fun s => obA s.heap.get?
  val := fun w => valA w
  says := fun w h => ∃ K : PySem.W.Frag, K.In h ∧ SaysA w h K
  of := fun _ _ e => ⟨_, He.frT_in, says_of e⟩
  keeps := fun _ _ _ ⟨K, hK, c⟩ k => ⟨K, PySem.W.Frag.In.keeps hK k, ⟨c.t, c.ex, c.hd, c.out, fun p hp => k _ _ (c.empty p hp)⟩⟩
theorem obA_eq {g : Addr → Option Obj} {s : Shared} (h : ∀ a, g a = s.heap.get? a) : obA g = hookA.obs s := by
  have e : g = s.heap.get? := funext h
  rw [e] <;> rfl
end K02

set_option Elab.async false
set_option linter.all false
set_option maxRecDepth 100000
set_option maxHeartbeats 0
namespace K02
open PySem PySem.Spec PyProof.Rows L2
theorem run_f (w : World) : HandSHeadRun.RunEq R (PySem.W.view R.prog [61]) hookA (fun s => obA (gT s)) 9000 loose (w.withFollow "special-get-raises" false) := by
  intro os
  kernel_rfl
theorem run_t (w : World) : HandSHeadRun.RunEq R (PySem.W.view R.prog [61]) hookA (fun s => obA (gT s)) 9000 loose (w.withFollow "special-get-raises" true) := by
  intro os
  kernel_rfl
theorem run (w : World) : HandSHeadRun.RunEq R (PySem.W.view R.prog [61]) hookA (fun s => obA (gT s)) 9000 loose w :=
  PySem.W.byRow2 "special-get-raises" (P := fun w => HandSHeadRun.RunEq R (PySem.W.view R.prog [61]) hookA (fun s => obA (gT s)) 9000 loose w) run_f run_t w
end K02

set_option Elab.async false
set_option linter.all false
set_option maxRecDepth 100000
set_option maxHeartbeats 4000000
/-! What serves any def: isinstance, lists, walks. -/
namespace K02
open PySem PySem.Spec PyProof.Rows L2 Evl
section
variable {H G : Hp}
/-- all tuples stay -/
def Tx (H G : Hp) : Prop := ∀ a xs, H a = some (.tup xs) → G a = some (.tup xs)
theorem Tx.of (e : Ex H G) : Tx H G := fun a xs h => e a _ h
theorem Tx.refl (H : Hp) : Tx H H := fun _ _ h => h
theorem Tx.trans {J : Hp} (a : Tx H G) (b : Tx G J) : Tx H J := fun c xs h => b c xs (a c xs h)
theorem Tx.lst {p : Addr} {xs : List V} {o : HO} (h : H p = some (.lst xs)) : Tx H (upd H p o) := fun a ys e => by
  rw [upd_ne (ne_of e h (by intro z; cases z))]
  exact e
theorem Tx.dct {p : Addr} {xs : List (Key × V)} {o : HO} (h : H p = some (.dK xs)) : Tx H (upd H p o) := fun a ys e => by
  rw [upd_ne (ne_of e h (by intro z; cases z))]
  exact e
end
/-! ### isinstance(e, C), C a built-in; (list, tuple) -/
abbrev tIsi (K : PySem.W.Frag) (t : String) (te : TE) : TE := tCB (rIsi K) (tCons te (tCons (tC (.ty t)) tNil))
abbrev tIsi2 (K : PySem.W.Frag) (te : TE) : TE := tCB (rIsiT K) (tCons te (tCons (tTup (tCons (tC (.ty "list")) (tCons (tC (.ty "tuple")) tNil))) tNil))
section
variable {X : Cx} {e : Expr} {te : TE} {p q r q1 q2 pos : Pos}
theorem pe_isiB {n : Str} {t : String} (m1 : X.mg "isinstance" = none) (m2 : X.mg n = none) (hv : bootBuiltins n = some (.type t)) (he : PE X e te) (g1 : Gl X "isinstance" := by rfl) (g2 : Gl X n := by rfl) (hn : n ≠ "__name__" := by decide) (hd : (n == ("__debug__" : Str)) = false := by decide)
    (hs : starEach [e, .Name n q] X.env = (false, eval e X.env) :: starEach [.Name n q] X.env := by rfl) (hs2 : starEach [.Name n q] X.env = (false, eval (.Name n q) X.env) :: starEach [] X.env := by rfl) (hpl : (backTo pos (starEach [.Name n q] X.env)).any (·.1) = false := by rfl) :
    PE X (.Call (.Name "isinstance" p) [e, .Name n q] [] pos) (tIsi X.K t te) :=
  pe_callB call_isi g1 m1 PyProof.Rows.boot_isinstance (pa_cons he (pa_cons (pe_bltn (v := .ty t) g2 m2 hv rfl hn hd) pa_nil hs2) hs) (by decide) (by decide) hs hpl
theorem pe_isiLT (m1 : X.mg "isinstance" = none) (m2 : X.mg "list" = none) (m3 : X.mg "tuple" = none) (he : PE X e te) (g1 : Gl X "isinstance" := by rfl) (g2 : Gl X "list" := by rfl) (g3 : Gl X "tuple" := by rfl)
    (hs : starEach [e, .Tuple [.Name "list" q1, .Name "tuple" q2] x1 r] X.env = (false, eval e X.env) :: starEach [.Tuple [.Name "list" q1, .Name "tuple" q2] x1 r] X.env := by rfl)
    (hs2 : starEach [.Tuple [.Name "list" q1, .Name "tuple" q2] x1 r] X.env = (false, eval (.Tuple [.Name "list" q1, .Name "tuple" q2] x1 r) X.env) :: starEach [] X.env := by rfl)
    (hs3 : starEach [.Name "list" q1, .Name "tuple" q2] X.env = (false, eval (.Name "list" q1) X.env) :: starEach [.Name "tuple" q2] X.env := by rfl) (hs4 : starEach [.Name "tuple" q2] X.env = (false, eval (.Name "tuple" q2) X.env) :: starEach [] X.env := by rfl)
    (hpl : (backTo pos (starEach [.Tuple [.Name "list" q1, .Name "tuple" q2] x1 r] X.env)).any (·.1) = false := by rfl) :
    PE X (.Call (.Name "isinstance" p) [e, .Tuple [.Name "list" q1, .Name "tuple" q2] x1 r] [] pos) (tIsi2 X.K te) :=
  pe_callB call_isiT g1 m1 PyProof.Rows.boot_isinstance (pa_cons he (pa_cons (pe_tup (pa_cons (pe_bltn (v := .ty "list") g2 m2 PyProof.Rows.boot_list rfl (by decide) (by decide)) (pa_cons (pe_bltn (v := .ty "tuple") g3 m3 PyProof.Rows.boot_tuple rfl (by decide) (by decide)) pa_nil hs4) hs3)) pa_nil hs2) hs) (by decide) (by decide) hs hpl
end
theorem tyx_ext {K : PySem.W.Frag} {H G : Hp} {v : V} {t : Value} (e : Ex H G) (h : TyX K H v t) : TyX K G v t := by
  cases h with
  | base h =>
    refine .base ?_
    cases h with
    | non => exact .non
    | bl x => exact .bl x
    | int i => exact .int i
    | str x => exact .str x
    | flt x => exact .flt x
    | lst h => exact .lst (e _ _ h)
    | frz h => exact .frz (e _ _ h)
    | tup h => exact .tup (e _ _ h)
    | dK h => exact .dK (e _ _ h)
    | dT h => exact .dT (e _ _ h)
    | ins h a b c d f => exact .ins (e _ _ h) a b c d f
  | byt b => exact .byt b
  | set h => exact .set (e _ _ h)
  | kList a b => exact .kList a b
  | kTuple a b => exact .kTuple a b
  | kDict a b => exact .kDict a b
  | fTuple h => exact .fTuple (e _ _ h)
  | fDict h => exact .fDict (e _ _ h)
section
variable {K : PySem.W.Frag} {σ : L2.St} {H : Hp} {te : TE} {v : V}
theorem ev_isi {m n : String} {b : Bool} (h : Ev te σ H v) (ty : TyX K H v (.type m)) (e : kitB m n = some b) : Ev (tIsi K n te) σ H (.bl b) :=
  ev_cb (ea_cons h (ea_cons ev_c ea_nil)) fun H1 x Q q => ⟨v, .ty n, _, _, b, rfl, .ty n, tyx_ext x ty, kit_ty e, q H1 (Ex.refl H1)⟩
/-- is it a list or a tuple -/
def isLT (m : String) : Bool := m == "list" || m == "tuple"
theorem ev_isi2 {m : String} {b1 b2 : Bool} (h : Ev te σ H v) (ty : TyX K H v (.type m)) (e1 : kitB m "list" = some b1) (e2 : kitB m "tuple" = some b2) : Ev (tIsi2 K te) σ H (.bl (b1 || b2)) := fun H1 x Q q =>
  h H1 x _ fun H2 x2 => ⟨by show 2 ≤ sizeLine; decide, fun p hp => by
    have x3 : Ex H2 (upd H2 p (.tup [.ty "list", .ty "tuple"])) := Ex.new hp
    show rIsiT K [v, .ref p] _ Q
    refine ⟨v, p, [.ty "list", .ty "tuple"], _, [.type "list", .type "tuple"], b1 || b2, rfl, upd_same, .cons (.ty _) (.cons (.ty _) .nil), tyx_ext ((x.trans x2).trans x3) ty, ?_, q _ (x2.trans x3)⟩
    cases b1 with
    | true => exact kitAny_cons (kit_ty e1) (fun z => nomatch z) fun _ => rfl
    | false => exact kitAny_cons (kit_ty e1) (fun _ => by
        cases b2 with
        | true => exact kitAny_cons (kit_ty e2) (fun z => nomatch z) fun _ => rfl
        | false => exact kitAny_cons (kit_ty e2) (fun _ => kitAny_nil) fun z => nomatch z) fun z => nomatch z⟩
end
theorem extend_tup (l : Addr) (items : Array Value) (n : Nat) (b : Addr) (dd : Option Addr) (sl : Array (Option Value)) (items2 : Array Value) (n2 : Nat) (hs0 : ¬(!items.isEmpty && Builtin.List.listTooLong (items.size + items2.size)) = true) (hs1 : items.size ≤ sizeLine) (hs2 : items.size + items2.size ≤ sizeLine + 1) :
    Meets (Builtin.«list.extend» ⟨[.ref l, .ref b], []⟩) (fun _ R s => s.heap.get? l = some { cls := .type "list", dict := none, data := .seq items n, slots := #[] } ∧ s.heap.get? b = some { cls := .type "tuple", dict := dd, data := .seq items2 n2, slots := sl } ∧ R (.ok (.ret Value.none)) { s with heap := s.heap.update l (Obj.mapSeq fun x => x ++ items2), toks := s.toks }) :=
  .of_wp fun prog w A R s h => by
    obtain ⟨hp, g, d, tk, os⟩ := s
    obtain ⟨hl, hb, h⟩ := h
    have f1 := PySem.AutoSeq1.idx_int
    have f2 := PySem.AutoSeq1.sub_tuple_tuple
    have f3 := PySem.AutoSeq1.sub_list_list
    have f4 := PySem.AutoSeq1.sub_tuple_list
    have f5 := PySem.AutoSeq1.sub_list_tuple
    have hz' : (items ++ items2).size ≤ sizeLine + 1 := by rw [Array.size_append]; exact hs2
    wp_walk using (wpAny_updateSeq hl rfl (hz := hs1) (_hz' := hz')), PySem.AutoSeq1.wpAny_loadPart' hl, PySem.AutoSeq1.wpAny_loadPart' hb
    exact ⟨_, rfl, h⟩
def rExtT (K : PySem.W.Frag) : V → List V → Hp → VK → Prop := fun x vs H Q => ∃ l b xs zs, x = .ref l ∧ vs = [.ref b] ∧ H l = some (.lst xs) ∧ SqT K H b zs ∧ xs.length + zs.length ≤ sizeLine ∧ Q .non (upd H l (.lst (xs ++ zs)))
theorem mt_extT {X : Cx} : MtM X "list.extend" (rExtT X.K) := by
  intro pins s σ H x vs v us Q I rx rv h
  obtain ⟨l, b, xs, zs, rfl, rfl, hH, hB, hz, q⟩ := h
  cases rx
  obtain ⟨u, rfl, ru⟩ := rv.one
  cases ru
  obtain ⟨z, its, n, r, hl, e⟩ := I.lstM hH
  obtain ⟨its2, r2, ⟨o, e2, oc, n2, od⟩, hl2⟩ := I.tuple hB
  obtain ⟨oc', dd, dt, sl⟩ := o
  dsimp only at oc od
  subst oc od
  have h1 := r2.length
  have hsz : its.toArray.size + its2.toArray.size ≤ sizeLine := by rw [List.size_toArray, List.size_toArray]; omega
  have hlong : ¬ (!its.toArray.isEmpty && Builtin.List.listTooLong (its.toArray.size + its2.toArray.size)) = true := by
    rw [notLongL hsz, Bool.and_false]
    exact Bool.false_ne_true
  refine call_meets F.slot_list_extend ⟨_, e, rfl⟩ F.entry_list_extend (F.args_list_extend_2 _ _)
    (extend_tup l its.toArray n b dd sl its2.toArray n2 hlong (by rw [List.size_toArray]; omega) (by omega)) ⟨e, e2, ?_⟩
  refine ⟨.non, _, I.lset (its' := its ++ its2) hH e (by simp) (r.append r2) ?_, rfl, q⟩
  rw [List.length_append]
  omega
section
variable {K : PySem.W.Frag} {σ : L2.St} {H G : Hp} {te ta tb : TE} {v : V}
theorem et_truL {p : Addr} {xs : List V} (h : Ev te σ H (.ref p)) (hs : SqL K H p xs) : EvT (fun σ H Q => te σ H fun x H' => ∃ k, TruV K x H' k ∧ Q k H') σ H (!xs.isEmpty) :=
  fun H1 e Q q => h H1 e _ fun H2 e2 => ⟨_, .inl ⟨xs, ex_l (e.trans e2) hs, rfl⟩, q H2 e2⟩
abbrev tLen (K : PySem.W.Frag) (te : TE) : TE := tCB (fun xs H Q => ∃ x n, xs = [x] ∧ LenV K x H n ∧ Q (.int n) H) (tCons te tNil)
theorem ev_lenG {n : Nat} (h : Ev te σ H v) (l : ∀ G, Ex H G → LenV K v G n) : Ev (tLen K te) σ H (.int n) := fun H1 e Q q => h H1 e _ fun H2 e2 => ⟨v, n, rfl, l H2 (e.trans e2), q H2 e2⟩
theorem ev_lenT {p : Addr} {xs : List V} (h : Ev te σ H (.ref p)) (hs : SqT K H p xs) : Ev (tLen K te) σ H (.int (xs.length : Nat)) := ev_lenG h fun G e => .inr ⟨xs, ex_t e hs, rfl⟩
theorem ev_lenL {p : Addr} {xs : List V} (h : Ev te σ H (.ref p)) (hs : SqL K H p xs) : Ev (tLen K te) σ H (.int (xs.length : Nat)) := ev_lenG h fun G e => .inl ⟨xs, ex_l e hs, rfl⟩
theorem ev_lenS {x : Str} (h : Ev te σ H (.str x)) (l : x.length ≤ 1000) : Ev (tLen K te) σ H (.int (x.length : Nat)) := ev_lenG h fun G e => ⟨Nat.le_trans l (by decide), rfl⟩
end
section
variable {K : PySem.W.Frag} {σ : L2.St} {H G : Hp} {te ta tb : TE} {v : V} {D : Ends} {tz : TS}
theorem last_at {xs : List V} {y : V} : (xs ++ [y])[(xs ++ [y]).length - 1]? = some y := by simp
/-- y = xs.pop() -/
theorem q_pop {l : Addr} {xs : List V} {y : V} {j : Nat} (hl : H l = some (.lst (xs ++ [y]))) (ha : Ev ta σ H (.ref l)) (k : ∀ H1, Ex H H1 → tz D (σ.set j (some y)) (upd H1 l (.lst xs))) : tSeq (tAsg (tBM0 K "list" rPop ta) (gName j)) tz D σ H :=
  ha H (Ex.refl H) _ fun H1 e1 => ⟨.inl ⟨rfl, _, sq_of (e1 l _ hl)⟩, l, _, y, rfl, rfl, e1 l _ hl, last_at, by
    rw [List.dropLast_concat]
    exact k H1 e1⟩
/-- xs.extend(t), t a tuple -/
theorem s_extT {l b : Addr} {xs zs : List V} (hl : H l = some (.lst xs)) (ha : Ev ta σ H (.ref l)) (hb : Ev te σ H (.ref b)) (hz : SqT K H b zs) (hs : xs.length + zs.length ≤ 100000) (k : ∀ H1, Ex H H1 → D.nx σ (upd H1 l (.lst (xs ++ zs)))) :
    tDrop (tBM K "list" (rExtT K) ta (tCons te tNil)) D σ H := ha H (Ex.refl H) _ fun H1 e1 => ⟨.inl ⟨rfl, _, sq_of (e1 l _ hl)⟩, hb H1 e1 _ fun H2 e2 =>
  ⟨l, b, xs, zs, rfl, rfl, e2 l _ (e1 l _ hl), ex_t (e1.trans e2) hz, sz_of hs, k H2 (e1.trans e2)⟩⟩
theorem q_extT {l b : Addr} {xs zs : List V} (hl : H l = some (.lst xs)) (ha : Ev ta σ H (.ref l)) (hb : Ev te σ H (.ref b)) (hz : SqT K H b zs) (hs : xs.length + zs.length ≤ 100000) (k : ∀ H1, Ex H H1 → tz D σ (upd H1 l (.lst (xs ++ zs)))) :
    tSeq (tDrop (tBM K "list" (rExtT K) ta (tCons te tNil))) tz D σ H := s_extT (D := { D with nx := tz D }) hl ha hb hz hs k
/-- xs.extend(t), t a new list -/
theorem s_extL {l : Addr} {xs zs : List V} (hl : H l = some (.lst xs)) (ha : Ev ta σ H (.ref l)) (hb : EvL te σ H zs) (hs : xs.length + zs.length ≤ 100000) (k : ∀ H1, Ex H H1 → D.nx σ (upd H1 l (.lst (xs ++ zs)))) :
    tDrop (tBM K "list" rExtend ta (tCons te tNil)) D σ H := ha H (Ex.refl H) _ fun H1 e1 => ⟨.inl ⟨rfl, _, sq_of (e1 l _ hl)⟩, hb H1 e1 _ fun p H2 _ e2 hp =>
  ⟨l, p, xs, zs, rfl, rfl, e2 l _ (e1 l _ hl), hp, sz_of hs, k H2 (e1.trans e2)⟩⟩
theorem q_extL {l : Addr} {xs zs : List V} (hl : H l = some (.lst xs)) (ha : Ev ta σ H (.ref l)) (hb : EvL te σ H zs) (hs : xs.length + zs.length ≤ 100000) (k : ∀ H1, Ex H H1 → tz D σ (upd H1 l (.lst (xs ++ zs)))) :
    tSeq (tDrop (tBM K "list" rExtend ta (tCons te tNil))) tz D σ H := s_extL (D := { D with nx := tz D }) hl ha hb hs k
end
section
variable {K : PySem.W.Frag} {σ : L2.St} {H G : Hp} {te ta tb : TE} {v : V}
theorem ev_m0 {g : Str → Bool} {x : Str} (h : Ev te σ H (.str x)) : Ev (tM0 (fun x xs H Q => ∃ a, x = V.str a ∧ xs = [] ∧ True ∧ Q (.bl (g a)) H) te) σ H (.bl (g x)) := fun H1 e Q q =>
  h H1 e _ fun H2 e2 => ⟨⟨x, rfl⟩, x, rfl, rfl, trivial, q H2 e2⟩
theorem rv_insign {c : Nat} {z : Str} : RV (fun x y H Q => ∃ (c : Nat) (z : Str), x = .str ⟨#[c]⟩ ∧ y = .str z ∧ Q (.bl (decide (c ∈ z.cps.toList))) H) (.str ⟨#[c]⟩) (.str z) H (.bl (decide (c ∈ z.cps.toList))) := fun H1 _ _ q => ⟨c, z, rfl, rfl, q H1 (Ex.refl H1)⟩
theorem rv_notInKd {d : Addr} {x : Str} (h : PySem.W.nsIn K d x = some none) : RV (fun x y H Q => ∃ (z : Str) (r : Option Value), x = .str z ∧ y = .ref d ∧ PySem.W.nsIn K d z = some r ∧ Q (.bl (!r.isSome)) H) (.str x) (.ref d) H (.bl true) := fun H1 _ _ q => ⟨x, none, rfl, rfl, h, q H1 (Ex.refl H1)⟩
end
section
variable {K : PySem.W.Frag} {σ : L2.St} {H G : Hp} {te ta tb tl : TE} {v : V} {D : Ends} {tu tz : TS}
abbrev gPair (K : PySem.W.Frag) (j1 j2 : Nat) : TG := gTup K 2 (gCons (gName j1) (gCons (gName j2) gNil))
/-- for i, x in enumerate(xs) -/
theorem s_forEnum {a : Addr} {xs : List V} {j1 j2 : Nat} (h : Ev tl σ H (.ref a)) (hx : SqL K H a xs) (Pv : Nat → L2.St → Hp → Prop) (h0 : ∀ H1, Ex H H1 → Pv 0 σ H1) (hl : ∀ i σ' H', i ≤ xs.length → Pv i σ' H' → SqL K H' a xs)
    (hs : ∀ (i : Nat) x σ' H' H2, xs[i]? = some x → Pv i σ' H' → Ex H' H2 → tu { D with nx := Pv (i + 1), ct := Pv (i + 1), bk := D.nx } ((σ'.set j1 (some (.int i))).set j2 (some x)) H2) (hd : ∀ σ' H', Pv xs.length σ' H' → D.nx σ' H') : tFor (iEnum K (tCons tl tNil)) (gPair K j1 j2) tu D σ H :=
  h H (Ex.refl H) _ fun H1 e => ⟨a, xs, rfl, ex_l e hx, for_it walk_enum Pv (h0 H1 e) hl (fun i v σ' H' H2 hi p y => by
    obtain ⟨T, x, z, rfl, hT, rfl, e1, e2⟩ := y
    cases e1
    exact ⟨T, _, rfl, SqT.of upd_same, rfl, _, _, rfl, _, _, rfl, rfl, hs i z σ' H' _ e2 p (Ex.new hT)⟩) hd⟩
theorem q_forEnum {a : Addr} {xs : List V} {j1 j2 : Nat} (h : Ev tl σ H (.ref a)) (hx : SqL K H a xs) (Pv : Nat → L2.St → Hp → Prop) (h0 : ∀ H1, Ex H H1 → Pv 0 σ H1) (hl : ∀ i σ' H', i ≤ xs.length → Pv i σ' H' → SqL K H' a xs)
    (hs : ∀ (i : Nat) x σ' H' H2, xs[i]? = some x → Pv i σ' H' → Ex H' H2 → tu { D with nx := Pv (i + 1), ct := Pv (i + 1), bk := tz D } ((σ'.set j1 (some (.int i))).set j2 (some x)) H2) (hd : ∀ σ' H', Pv xs.length σ' H' → tz D σ' H') : tSeq (tFor (iEnum K (tCons tl tNil)) (gPair K j1 j2) tu) tz D σ H :=
  s_forEnum (D := { D with nx := tz D }) h hx Pv h0 hl hs hd
end
/-- a call of the def that a name holds -/
theorem ev_callL {σ : L2.St} {H : Hp} {i : Nat} {f : Addr} {sp : Sp} {dvs vs : List V} {E : XK} {ta : TA} {z : V} (hs : σ[i]? = some (some (.ref f))) (h : EvA ta σ H vs) (hp : SpV sp (vs ++ dvs) H z) : Ev (tCallL i f sp dvs E ta) σ H z := fun H1 e Q q =>
  ⟨hs, h H1 e _ fun H2 e2 => hp H2 (e.trans e2) Q (fun H3 e3 => q H3 (e2.trans e3)) E⟩
section
variable {K : PySem.W.Frag} {σ : L2.St} {H G : Hp} {te ta tb tl : TE} {v : V} {D : Ends} {tu tz : TS}
theorem cut1 {α : Type} (x : α) (xs : List α) : ((x :: xs).drop (HT.sIx (x :: xs).length 0 (some 1))).take (HT.sIx (x :: xs).length (x :: xs).length none - HT.sIx (x :: xs).length 0 (some 1)) = xs := by
  have e1 : HT.sIx (x :: xs).length 0 (some 1) = 1 := by simp [HT.sIx]
  have e2 : HT.sIx (x :: xs).length (x :: xs).length none = (x :: xs).length := by simp [HT.sIx]
  rw [e1, e2]
  simp
/-- t[1:] -/
theorem eu_tail {a : Addr} {x : V} {xs : List V} (h : Ev te σ H (.ref a)) (ha : SqT K H a (x :: xs)) : EvU (tSl (rSlT K) te (tPart (tC (.int 1))) tNoPart) σ H xs := fun H1 e Q q =>
  h H1 e _ fun H2 e2 => ⟨1, rfl, ⟨a, x :: xs, rfl, ex_t (e.trans e2) ha, fun z => by
    have e1 : HT.sIx (x :: xs).length 0 (some 1) = 1 := by simp [HT.sIx]
    rw [e1] at z
    exact absurd z.1 (by decide), fun p hp => by
    have e0 : cutV (x :: xs) (some 1) none = xs := cut1 x xs
    rw [e0]
    exact q p _ (fresh_back e2 hp) (e2.trans (Ex.new hp)) upd_same⟩⟩
/-- xs.extend(t), t a new tuple -/
theorem s_extU {l : Addr} {xs zs : List V} (hl : H l = some (.lst xs)) (ha : Ev ta σ H (.ref l)) (hb : EvU te σ H zs) (hs : xs.length + zs.length ≤ 100000) (k : ∀ H1, Ex H H1 → D.nx σ (upd H1 l (.lst (xs ++ zs)))) :
    tDrop (tBM K "list" (rExtT K) ta (tCons te tNil)) D σ H := ha H (Ex.refl H) _ fun H1 e1 => ⟨.inl ⟨rfl, _, sq_of (e1 l _ hl)⟩, hb H1 e1 _ fun p H2 _ e2 hp =>
  ⟨l, p, xs, zs, rfl, rfl, e2 l _ (e1 l _ hl), st_of hp, sz_of hs, k H2 (e1.trans e2)⟩⟩
/-- a call with a new list ahead -/
theorem ev_callNL {sp : Sp} {vs dvs xs : List V} {E : XK} {tr : TA} {z : V} (h : EvL te σ H xs) (hr : EvA tr σ H vs) (hp : ∀ p H1, Ex H H1 → H1 p = some (.lst xs) → SpV sp ((.ref p :: vs) ++ dvs) H1 z) : Ev (tCall sp dvs E (tCons te tr)) σ H z := fun H1 e Q q =>
  h H1 e _ fun p H2 _ e2 h2 => hr H2 (e.trans e2) _ fun H3 e3 => hp p H3 ((e.trans e2).trans e3) (e3 _ _ h2) H3 (Ex.refl _) Q (fun H4 e4 => q H4 ((e2.trans e3).trans e4)) E
theorem ev_isN {b : Bool} (h : Ev te σ H v) (e : decide (v = .non) = b) : Ev (tIsN te) σ H (.bl b) := fun H1 x Q q => h H1 x _ fun H2 x2 => by
  subst e
  exact q H2 x2
end
def A2 {α β : Type} (R : α → β → Prop) : List α → List β → Prop
  | [], [] => True
  | a :: as, b :: bs => R a b ∧ A2 R as bs
  | _, _ => False
section
variable {α β : Type} {R S : α → β → Prop}
theorem A2.mono (h : ∀ a b, R a b → S a b) : ∀ {as : List α} {bs : List β}, A2 R as bs → A2 S as bs
  | [], [], _ => trivial
  | _ :: _, _ :: _, k => ⟨h _ _ k.1, A2.mono h k.2⟩
  | [], _ :: _, k => k.elim
  | _ :: _, [], k => k.elim
theorem A2.append : ∀ {as cs : List α} {bs ds : List β}, A2 R as bs → A2 R cs ds → A2 R (as ++ cs) (bs ++ ds)
  | [], _, [], _, _, k => k
  | _ :: _, _, _ :: _, _, h, k => ⟨h.1, A2.append h.2 k⟩
  | [], _, _ :: _, _, h, _ => h.elim
  | _ :: _, _, [], _, h, _ => h.elim
theorem A2.length : ∀ {as : List α} {bs : List β}, A2 R as bs → as.length = bs.length
  | [], [], _ => rfl
  | _ :: _, _ :: _, k => congrArg (· + 1) (A2.length k.2)
  | [], _ :: _, k => k.elim
  | _ :: _, [], k => k.elim
theorem A2.get : ∀ {as : List α} {bs : List β} {i : Nat} {a : α}, A2 R as bs → as[i]? = some a → ∃ b, bs[i]? = some b ∧ R a b
  | [], [], i, a, _, e => by simp at e
  | x :: as, y :: bs, 0, a, h, e => by
    obtain rfl : x = a := by simpa using e
    exact ⟨y, rfl, h.1⟩
  | _ :: as, _ :: bs, i + 1, a, h, e => by
    obtain ⟨b, q, r⟩ := A2.get (i := i) (a := a) h.2 (by simpa using e)
    exact ⟨b, by simpa using q, r⟩
  | [], _ :: _, _, _, h, _ => h.elim
  | _ :: _, [], _, _, h, _ => h.elim
theorem A2.getb : ∀ {as : List α} {bs : List β} {i : Nat} {b : β}, A2 R as bs → bs[i]? = some b → ∃ a, as[i]? = some a ∧ R a b
  | [], [], i, a, _, e => by simp at e
  | x :: as, y :: bs, 0, b, h, e => by
    obtain rfl : y = b := by simpa using e
    exact ⟨x, rfl, h.1⟩
  | _ :: as, _ :: bs, i + 1, b, h, e => by
    obtain ⟨a, q, r⟩ := A2.getb (i := i) (b := b) h.2 (by simpa using e)
    exact ⟨a, by simpa using q, r⟩
  | [], _ :: _, _, _, h, _ => h.elim
  | _ :: _, [], _, _, h, _ => h.elim
theorem A2.of_map {γ : Type} {f : γ → α} : ∀ {cs : List γ} {bs : List β}, A2 R (cs.map f) bs → A2 (fun c b => R (f c) b) cs bs
  | [], [], _ => trivial
  | _ :: _, _ :: _, k => ⟨k.1, A2.of_map k.2⟩
  | [], _ :: _, k => k.elim
  | _ :: _, [], k => k.elim
end
/-! ### what evaluates to a thing of which P holds -/
def EvP (te : TE) (σ : L2.St) (H : Hp) (P : V → Hp → Prop) : Prop := ∀ H1, Ex H H1 → ∀ Q : VK, (∀ v H2, Ex H1 H2 → P v H2 → Q v H2) → te σ H1 Q
/-- a new list of which P holds -/
def EvLP (te : TE) (σ : L2.St) (H : Hp) (P : List V → Hp → Prop) : Prop := ∀ H1, Ex H H1 → ∀ Q : VK, (∀ p xs H2, H1 p = none → Ex H1 H2 → H2 p = some (.lst xs) → P xs H2 → Q (.ref p) H2) → te σ H1 Q
/-- what stays true -/
def Up (P : Hp → Prop) : Prop := ∀ H G, Ex H G → P H → P G
section
variable {K : PySem.W.Frag} {σ : L2.St} {H G : Hp} {te ta tb tl tk tx : TE} {tt : TT} {v : V} {D : Ends} {tu tz : TS} {J : It} {n : Nat} {vs : List Nat}
theorem EvP.of (h : Ev te σ H v) {P : V → Hp → Prop} (p : ∀ G, Ex H G → P v G) : EvP te σ H P := fun H1 e Q q => h H1 e _ fun H2 e2 => q v H2 e2 (p H2 (e.trans e2))
theorem EvP.mono (e : Ex H G) {P : V → Hp → Prop} (h : EvP te σ H P) : EvP te σ G P := fun H1 e1 Q q => h H1 (e.trans e1) Q q
theorem EvP.tup {ta : TA} {xs : List V} {P : V → Hp → Prop} (h : EvU (tTup ta) σ H xs) (p : ∀ a G, Ex H G → G a = some (.tup xs) → P (.ref a) G) : EvP (tTup ta) σ H P := fun H1 e Q q => h H1 e _ fun a H2 _ e2 ha => q _ _ e2 (p a H2 (e.trans e2) ha)
def Cwp (H0 : Hp) (f : Nat → Bool) (Pe : Nat → V → Hp → Prop) (Dl : Addr) (i : Nat) (H : Hp) : Prop := H0 Dl = none ∧ Ex H0 H ∧ ∃ acc, H Dl = some (.lst acc) ∧ acc.length ≤ i ∧ A2 (fun i y => Pe i y H) ((List.range i).filter f) acc
theorem cwp0 {H0 : Hp} {f : Nat → Bool} {Pe : Nat → V → Hp → Prop} {Dl : Addr} (h : H0 Dl = none) : Cwp H0 f Pe Dl 0 (upd H0 Dl (.lst [])) := ⟨h, Ex.new h, [], upd_same, Nat.le_refl _, trivial⟩
/-- what stays true if the thing at Dl, not known ahead, changes -/
def UpD (H0 : Hp) (Dl : Addr) (P : Hp → Prop) : Prop := ∀ H G xs, H Dl = some (.lst xs) → Ex H0 H → Ex H0 G → (∀ a o, a ≠ Dl → H a = some o → G a = some o) → P H → P G
theorem cwp_turn {H0 H1 H2 : Hp} {f : Nat → Bool} {Pe : Nat → V → Hp → Prop} {Dl : Addr} {i : Nat} {σ2 : L2.St} (up : ∀ i v, UpD H0 Dl (Pe i v)) (p : Cwp H0 f Pe Dl i H1) (e12 : Ex H1 H2) (hi : i < 50000) (ht : EvT tt σ2 H2 (f i)) (he : f i = true → ∀ H3, Ex H2 H3 → EvP te σ2 H3 (Pe i)) :
    tt σ2 H2 fun b H3 => if b = true then te σ2 H3 fun y H4 => ∃ acc, H4 Dl = some (.lst acc) ∧ acc.length < sizeLine ∧ Cwp H0 f Pe Dl (i + 1) (upd H4 Dl (.lst (acc ++ [y]))) else Cwp H0 f Pe Dl (i + 1) H3 := by
  obtain ⟨p1, p2, acc, p3, p4, p5⟩ := p
  have e2 : Ex H0 H2 := p2.trans e12
  refine ht H2 (Ex.refl _) _ fun H3 e3 => ?_
  have e03 := e2.trans e3
  cases hf : f i with
  | true =>
    show te σ2 H3 fun y H4 => ∃ acc, H4 Dl = some (.lst acc) ∧ acc.length < sizeLine ∧ Cwp H0 f Pe Dl (i + 1) (upd H4 Dl (.lst (acc ++ [y])))
    refine he hf H3 e3 H3 (Ex.refl _) _ fun y H4 e4 hy => ?_
    have hD : H4 Dl = some (.lst acc) := e4 _ _ (e3 _ _ (e12 _ _ p3))
    have e04 := e03.trans e4
    have e05 : Ex H0 (upd H4 Dl (.lst (acc ++ [y]))) := Ex.mut e04 p1
    have kp : ∀ a o, a ≠ Dl → H4 a = some o → (upd H4 Dl (.lst (acc ++ [y]))) a = some o := fun a o n h => by
      rw [upd_ne n]
      exact h
    refine ⟨acc, hD, sz_lt (by omega), p1, e05, _, upd_same, by simp; omega, ?_⟩
    rw [List.range_succ, List.filter_append, List.filter_cons, if_pos hf]
    refine A2.append (A2.mono (fun j z h => ?_) p5) ⟨up _ _ _ _ _ hD e04 e05 kp hy, trivial⟩
    exact up _ _ _ _ _ p3 p2 e05 (fun a o n h => kp a o n (e4 _ _ (e3 _ _ (e12 _ _ h)))) h
  | false =>
    show Cwp H0 f Pe Dl (i + 1) H3
    refine ⟨p1, e03, acc, e3 _ _ (e12 _ _ p3), by omega, ?_⟩
    rw [List.range_succ, List.filter_append, List.filter_cons, if_neg (by rw [hf]; decide)]
    show A2 _ (_ ++ []) _
    rw [List.append_nil]
    exact A2.mono (fun j z h => up _ _ _ _ _ p3 p2 e03 (fun a o _ q => e3 _ _ (e12 _ _ q)) h) p5
theorem walk_zipT {a b : Addr} {xs ys : List V} (hn : n = min xs.length ys.length) : Walk (RZ.ItzT K a b) n (fun H => SqT K H a xs ∧ SqT K H b ys) (YPair (fun i => xs[i]?) (fun i => ys[i]?)) := by
  subst hn
  refine ⟨fun i _ hi q => ?_, fun _ q => ⟨xs, ys, q.1, q.2, by omega⟩, fun i H v H' _ q y => ?_⟩
  · have h1 : i < xs.length := by omega
    have h2 : i < ys.length := by omega
    exact ⟨xs, ys, xs[i], ys[i], q.1, q.2, by simp [h1], by simp [h2]⟩
  · obtain ⟨T, x, z, h1, h2, h3, h4, h5⟩ := y
    exact ⟨T, x, z, h1, h2, h3, h4 xs q.1, h5 ys q.2⟩
/-- for x in t, t a new tuple -/
theorem s_forNT {xs : List V} {j : Nat} (h : EvU tl σ H xs) (Pv : Addr → Nat → L2.St → Hp → Prop) (h0 : ∀ p H1, H p = none → Ex H H1 → H1 p = some (.tup xs) → Pv p 0 σ H1) (hl : ∀ p i σ' H', i ≤ xs.length → Pv p i σ' H' → SqT K H' p xs)
    (hs : ∀ p i x σ' H', xs[i]? = some x → Pv p i σ' H' → tu { D with nx := Pv p (i + 1), ct := Pv p (i + 1), bk := D.nx } (σ'.set j (some x)) H') (hd : ∀ p σ' H', Pv p xs.length σ' H' → D.nx σ' H') : tFor (iTup K tl) (gName j) tu D σ H :=
  h H (Ex.refl H) _ fun p H1 hp e h1 => ⟨p, rfl, ⟨xs, st_of h1⟩, for_tup (Pv p) (h0 p H1 hp e h1) (hl p) (hs p) (hd p)⟩
theorem q_forNT {xs : List V} {j : Nat} (h : EvU tl σ H xs) (Pv : Addr → Nat → L2.St → Hp → Prop) (h0 : ∀ p H1, H p = none → Ex H H1 → H1 p = some (.tup xs) → Pv p 0 σ H1) (hl : ∀ p i σ' H', i ≤ xs.length → Pv p i σ' H' → SqT K H' p xs)
    (hs : ∀ p i x σ' H', xs[i]? = some x → Pv p i σ' H' → tu { D with nx := Pv p (i + 1), ct := Pv p (i + 1), bk := tz D } (σ'.set j (some x)) H') (hd : ∀ p σ' H', Pv p xs.length σ' H' → tz D σ' H') : tSeq (tFor (iTup K tl) (gName j) tu) tz D σ H :=
  s_forNT (D := { D with nx := tz D }) h Pv h0 hl hs hd
/-- for x, y in zip(s, t), new tuples -/
theorem q_forZipNT {xs ys : List V} {j1 j2 : Nat} {t1 t2 : TE} (h1 : EvU t1 σ H xs) (h2 : EvU t2 σ H ys) (Pv : Nat → L2.St → Hp → Prop) (h0 : ∀ H1, Ex H H1 → Pv 0 σ H1) (hE : ∀ i σ' H', Pv i σ' H' → Ex H H')
    (hp : ∀ i σ' H' G, Pv i σ' H' → Ex H' G → Pv i σ' G)
    (hs : ∀ i x y σ' H', xs[i]? = some x → ys[i]? = some y → Pv i σ' H' → ∀ N : L2.St → Hp → Prop, (∀ σ2 H2, Pv (i + 1) σ2 H2 → Ex H' H2 → N σ2 H2) → tu { D with nx := N, ct := N, bk := tz D } ((σ'.set j1 (some x)).set j2 (some y)) H') (hd : ∀ σ' H', Pv (min xs.length ys.length) σ' H' → tz D σ' H') :
    tSeq (tFor (RZ.iZipA K (tCons t1 (tCons t2 tNil))) (gPair K j1 j2) tu) tz D σ H :=
  h1 H (Ex.refl H) _ fun p H1 _ e1 hp1 => h2 H1 e1 _ fun q H2 _ e2 hq => ⟨p, q, xs, ys, rfl, .inr ⟨st_of (e2 _ _ hp1), st_of hq,
    for_it (walk_zipT (K := K) (a := p) (b := q) (xs := xs) (ys := ys) rfl) (fun i σ' H' => Pv i σ' H' ∧ H' p = some (.tup xs) ∧ H' q = some (.tup ys)) ⟨h0 H2 (e1.trans e2), e2 _ _ hp1, hq⟩ (fun i σ' H' _ z => ⟨st_of z.2.1, st_of z.2.2⟩)
      (fun i v σ' H' H'' hi z y => by
        obtain ⟨T, x, w, rfl, hT, rfl, ex, ey⟩ := y
        have eT : Ex H' (upd H' T (.tup [x, w])) := Ex.new hT
        exact ⟨T, _, rfl, SqT.of upd_same, rfl, _, _, rfl, _, _, rfl, rfl, hs i x w σ' _ ex ey (hp i σ' H' _ z.1 eT) _ fun σ2 H2 a e => ⟨a, e _ _ (eT _ _ z.2.1), e _ _ (eT _ _ z.2.2)⟩⟩) (fun σ' H' z => hd σ' H' z.1)⟩⟩
/-- a dict comprehension over a walk -/
theorem dc_it {J : It} {G : Hp → Prop} {Y : Nat → Hp → V → Hp → Prop} (w : Walk J n G Y) {g : TG} {H1 : Hp} {Dl : Addr} {Qd : Hp → Prop} (Pv : Nat → Hp → Prop) (h0 : Pv 0 (upd H1 Dl (.dK []))) (hG : ∀ i H, i ≤ n → Pv i H → G H)
    (hs : ∀ i x H H', i < n → Pv i H → Y i H x H' → g x (wipe σ vs) H' fun σ2 H2 => wipe σ2 vs = wipe σ vs ∧ tt σ2 H2 fun b H3 =>
      if b = true then tk σ2 H3 fun y H4 => tx σ2 H4 fun z H5 => ∃ kvs k, y = kV k ∧ H5 Dl = some (.dK kvs) ∧ kvs.length < sizeLine ∧ Pv (i + 1) (upd H5 Dl (.dK (putK kvs k z))) else Pv (i + 1) H3) (hd : ∀ H, Pv n H → Qd H) :
    ∃ W : Nat → Nat → Hp → Prop, (∃ m, W 0 m (upd H1 Dl (.dK []))) ∧ ∀ i m H, W i m H →
      (J.stop i H ∧ Qd H) ∨ (J.go i H ∧ ∃ Nx : Hp → Prop, (∀ H', Nx H' → ∃ m', m' < m ∧ W (i + 1) m' H') ∧ ∀ x H', J.yld i H x H' → g x (wipe σ vs) H' fun σ2 H2 => wipe σ2 vs = wipe σ vs ∧ tt σ2 H2 fun b H3 =>
        if b = true then tk σ2 H3 fun y H4 => tx σ2 H4 fun z H5 => ∃ kvs k, y = kV k ∧ H5 Dl = some (.dK kvs) ∧ kvs.length < sizeLine ∧ Nx (upd H5 Dl (.dK (putK kvs k z))) else Nx H3) := by
  refine ⟨fun i m H => m = n - i ∧ i ≤ n ∧ Pv i H, ⟨n, by simp, Nat.zero_le _, h0⟩, ?_⟩
  rintro i m H ⟨rfl, hi, p⟩
  have q := hG i H hi p
  by_cases hlt : i < n
  · exact .inr ⟨w.goes i H hlt q, Pv (i + 1), fun H' p' => ⟨n - (i + 1), by omega, rfl, hlt, p'⟩, fun x H' y => hs i x H H' hlt p (w.yields i H x H' hlt q y)⟩
  · have e : i = n := by omega
    subst e
    exact .inl ⟨w.stops H q, hd H p⟩
end
set_option maxHeartbeats 1000000 in
theorem meets_enum1 {v : Value} {o : Obj} {H : Heap → Prop} (B : Begins v o H) :
    Meets (Builtin.«enumerate.__new__» ⟨[.type "enumerate", v], []⟩) (fun _ R s => H s.heap ∧
      R (.ok (.ret (.ref (s.heap.push o).objs.size))) { s with heap := (s.heap.push o).push { cls := .type "enumerate", data := .fields #[.none, .bool false, .ref s.heap.objs.size, rawInt 0, .none, .none] } }) :=
  .of_wp fun prog w A R s h => by
    obtain ⟨hp, g, d, tk, os⟩ := s
    obtain ⟨h1, h⟩ := h
    have hsub := sub_enumerate
    have q1 : ∀ {A' : Around} {E : Value → Shared → Prop} {Q : Value → Shared → Prop}, Q (.ref hp.objs.size) ⟨hp.push o, g, d, tk, os⟩ → wpAny (model prog w) A' (pyIter v) Q E ⟨hp, g, d, tk, os⟩ :=
      fun q => B.iter prog w _ _ ⟨hp, g, d, tk, os⟩ _ h1 q
    wp_walk using q1
    refine wpAny_stack_any fun st => wpAny_pure ?_
    split
    · rename_i c _ _ _ _ _
      cases (c == Value.type "enumerate")
      · wp_walk using q1
        exact ⟨_, rfl, h⟩
      · wp_walk using q1
        exact ⟨_, rfl, h⟩
    · wp_walk using q1
      exact ⟨_, rfl, h⟩
theorem call_enum1 {prog : Program} {w : World} {A : Around} {E : Value → Shared → Prop} {s : Shared} {v : Value} {o : Obj} {H : Heap → Prop} {Q : Value → Shared → Prop} (B : Begins v o H) (h1 : H s.heap)
    (h : ∀ h', IsEnum h' (s.heap.objs.size + 1) s.heap.objs.size 0 .none → h'.get? s.heap.objs.size = some o → h'.objs.size = s.heap.objs.size + 2 →
      (∀ b o, s.heap.get? b = some o → h'.get? b = some o) → Q (.ref (s.heap.objs.size + 1)) { s with heap := h' }) :
    wpAny (model prog w) A (call (.type "enumerate") [v]) Q E s := by
  refine callType_new F.called_enumerate (by decide) (F.typeCall_enumerate_1 _) (F.newCall_enumerate_1 _) (fun obj => F.args_object_init_2 obj _) F.entry_enumerate_new
    (meets_enum1 B) ⟨h1, ?_⟩
  have hz : (s.heap.push o).objs.size = s.heap.objs.size + 1 := Heap.size_push ..
  show _ ∧ _
  rw [hz]
  have he : IsEnum ((s.heap.push o).push { cls := .type "enumerate", data := .fields #[.none, .bool false, .ref s.heap.objs.size, rawInt 0, .none, .none] }) (s.heap.objs.size + 1) s.heap.objs.size 0 .none := by
    have := Heap.get?_push_size (s.heap.push o) (o := { cls := .type "enumerate", data := .fields #[.none, .bool false, .ref s.heap.objs.size, rawInt 0, .none, .none] }) rfl
    rw [hz] at this; exact this
  refine ⟨⟨_, he, rfl⟩, h _ he (Heap.get?_push_of_some _ (Heap.get?_push_size _ B.free)) (by rw [Heap.size_push, hz]) fun b o x => Heap.get?_push_of_some _ (Heap.get?_push_of_some _ x)⟩
/-- the tuple at a as it stands at each turn, each item in a new pair -/
def IteT (K : PySem.W.Frag) (a : Addr) : It :=
  ⟨fun i H => ∃ (xs : List V) (x : V), SqT K H a xs ∧ xs[i]? = some x, fun i H v H' => ∃ T x, v = .ref T ∧ H T = none ∧ H' = upd H T (.tup [.int (i : Nat), x]) ∧ ∀ xs, SqT K H a xs → xs[i]? = some x, fun i H => ∃ xs : List V, SqT K H a xs ∧ xs.length ≤ i⟩
theorem draws_end {prog : Program} {w : World} {A : Around} {it a : Addr} {items : Array Value} {i : Nat} (hh : A.handled = none) (hne : a ≠ it) (hx : items[i]? = none) :
    Draws prog w A it [it, a] i (fun _ _ => False) (fun j h => j = i ∧ h.IsTupleIter it a i ∧ h.IsTuple a items) where
  live := fun _ _ st => let ⟨o, ho, _⟩ := st.2.1; ⟨o, ho⟩
  frame := fun _ _ _ st hk => ⟨st.1, st.2.1.at fun o e => hk it (by simp) o e, st.2.2.at fun o e => hk a (by simp) o e⟩
  item := fun j s Q E hj st _ => absurd st.1 (by omega)
  done := fun s Q E st hE => wpAny_nextOf_tuple_end hh st.2.1 st.2.2 hx hE
theorem turn_enumT {P : Program} {w : World} {K : PySem.W.Frag} {elts : List Expr} {kk : Nat} {tpos : Pos} (a e it : Addr) :
    Turn P w K (.Tuple elts kk tpos) (IteT K a) [e, it] e (fun i h => (∃ old, IsEnum h e it ((i : Nat) : Int) old) ∧ h.IsTupleIter it a i ∧ e ≠ it ∧ a ≠ it ∧ e ≠ a) where
  mem := by simp
  obj := fun i h st b hb => by
    obtain ⟨⟨old, he⟩, ⟨o, ho, hc, hd⟩, _⟩ := st
    have e' : b = e ∨ b = it := by simpa using hb
    rcases e' with z | z
    · rw [z]; exact ⟨_, he, fun v q => nomatch q⟩
    · rw [z]; exact ⟨o, ho, fun v q => by rw [hd] at q; cases q⟩
  keep := fun i h h' st k => let ⟨⟨old, he⟩, hi, hne⟩ := st; ⟨⟨old, k e (by simp) _ he⟩, hi.at fun o q => k it (by simp) o q, hne⟩
  item := by
    intro X hP hw hK hc i pins s σ H E I hf st hg
    subst hP hw hK
    obtain ⟨⟨old, he⟩, hit, hne, hai, hea⟩ := st
    obtain ⟨xs, x, hq, hx⟩ := hg
    obtain ⟨its, rv, p, hz⟩ := I.tuple hq
    obtain ⟨u, hu, ru⟩ := rv.get hx
    have hel : e < s.heap.objs.size := Heap.lt_size he
    have hil : it < s.heap.objs.size := by obtain ⟨_, q, _⟩ := hit; exact Heap.lt_size q
    have hlt : i < its.toArray.size := by
      have := (List.getElem?_eq_some_iff.mp hu).1
      simpa using this
    refine wpAny_pyNext_enum_itemD (Draws.tuple (A := X.A.in1) (I.ok.hd hc) it a hai its.toArray) he ⟨hit, p⟩ hlt hne (by simp [hne, hea]) fun y h' tk hy ho hst hT hsz hk => ?_
    have hyu : y = u := by
      have e1 : its.toArray[i]? = some u := by simpa using hu
      rw [e1] at hy
      exact (Option.some.inj hy).symm
    subst hyu
    refine ⟨_, rfl, wpAny_letOwnedTupleGo_enum (s := { s with heap := h', toks := tk + 1 }) ho fun h'' he' sb => ?_⟩
    have hT2 : h''.get? s.heap.objs.size = some { cls := .type "tuple", data := .seq #[.int i tk, y] } := (sb.2 _ (Nat.ne_of_gt hel)).trans hT
    have new : ObjOk X.prog X.w (upd H s.heap.objs.size (.tup [.int (i : Nat), x])) h'' s.heap.objs.size (.tup [.int (i : Nat), x]) :=
      ⟨by show 2 ≤ sizeLine; decide, [.int i tk, y], .cons ⟨_, rfl⟩ (.cons ru .nil), ⟨_, hT2, rfl, _, rfl⟩⟩
    have I1 : Inv X pins σ (upd H s.heap.objs.size (.tup [.int (i : Nat), x])) { s with heap := h'', toks := tk + 1 } :=
      I.turnedNew (ch := [e, it]) (fun b ob hb q => (sb.2 b (fun z => hb (by simp [z]))).trans (hk b ob (fun z => hb (by simp [z])) (fun z => hb (by simp [z])) q)) hf (Nat.le_refl _) new
    refine ⟨.ref s.heap.objs.size, _, I1, rfl, ⟨_, x, rfl, I.hok.fresh (Nat.le_refl _), rfl, fun ys hy => by rw [I.tuple_inj hy hq]; exact hx⟩, ⟨⟨y, ?_⟩, hst.1.at fun o q => (sb.2 it (Ne.symm hne)).trans q, hne, hai, hea⟩, fun b hb => ?_⟩
    · have e1 : ((i + 1 : Nat) : Int) = (i : Int) + 1 := by omega
      rw [e1]; exact he'
    · have hb' : b < s.heap.objs.size := by
        have e' : b = e ∨ b = it := by simpa using hb
        rcases e' with z | z
        · rw [z]; exact hel
        · rw [z]; exact hil
      rw [upd_ne (Nat.ne_of_lt hb')]
      exact (hf b hb).1
  done := by
    intro X hP hw hK hc i pins s σ H E I hf st hg
    subst hP hw hK
    obtain ⟨⟨old, he⟩, hit, hne, hai, hea⟩ := st
    obtain ⟨xs, hq, hx⟩ := hg
    obtain ⟨its, rv, p, hz⟩ := I.tuple hq
    obtain ⟨f0, f1, f2, f3, f4, f5⟩ := hf it (by simp)
    have hl := rv.length
    have hx0 : its.toArray[i]? = none := by simp; omega
    exact wpAny_pyNext_enum_endD (draws_end (A := X.A.in1) (I.ok.hd hc) hai hx0) he ⟨rfl, hit, p⟩ fun h' eb => ⟨rfl, I.turned (t' := s.toks) (fun b o hb q => eb b o hb q) f0 f1 f3 f4 f5⟩
  self := fun A i s Q E st h => let ⟨⟨_, he⟩, _⟩ := st; wpAny_pyIter_enum he h
def iEnumT (K : PySem.W.Frag) (ta : TA) : TI := fun σ H R => ta σ H fun vs H1 => ∃ a xs, vs = [.ref a] ∧ SqT K H1 a xs ∧ R (IteT K a) H1
theorem pi_enumT {X : Cx} {e : Expr} {ta : TA} {p pos tpos : Pos} {elts : List Expr} {kk : Nat} (hg : Gl X "enumerate") (hm : X.mg "enumerate" = none) (ha : PA X [e] ta) (hs : starEach [e] X.env = [(false, eval e X.env)] := by rfl) :
    PI X (.Tuple elts kk tpos) (.Call (.Name "enumerate" p) [e] [] pos) (iEnumT X.K ta) := by
  refine ⟨fun pins s σ H R I h => ?_⟩
  refine Call_ (ld_blt I hg hm boot_enumerate (PyProof.Rows.callWith_type1 (thn (ha.run pos pins s σ H _ I h) fun us s1 ⟨vs, H1, I1, r1, q1⟩ => ?_) hs rfl))
  obtain ⟨a, xs, ex, hq, q⟩ := q1
  subst ex
  cases r1 with
  | cons r rr =>
    cases rr
    cases r
    obtain ⟨its, rv, p', hz⟩ := I1.tuple hq
    have hal : a < s1.heap.objs.size := by obtain ⟨_, q, _⟩ := p'; exact Heap.lt_size q
    refine call_enum1 (begins_tuple a its.toArray) (show s1.heap.IsTuple a its.toArray from p') fun h' he hit hsz hk => wpAny_pyIter_enum he ?_
    have I2 : Inv X pins σ H1 { s1 with heap := h' } := I1.kept (t' := s1.toks) hk
    refine ⟨s1.heap.objs.size + 1, [s1.heap.objs.size + 1, s1.heap.objs.size], _, _, H1, rfl, I2, turn_enumT a (s1.heap.objs.size + 1) s1.heap.objs.size, ⟨⟨.none, he⟩, ⟨_, hit, rfl, rfl⟩, Nat.succ_ne_self _, Nat.ne_of_lt hal, Nat.ne_of_gt (Nat.lt_succ_of_lt hal)⟩, fun b hb => ?_, q⟩
    have e' : b = s1.heap.objs.size + 1 ∨ b = s1.heap.objs.size := by simpa using hb
    have hle : s1.heap.objs.size ≤ b := by
      rcases e' with z | z
      · rw [z]; exact Nat.le_add_right _ _
      · rw [z]; exact Nat.le_refl _
    exact I1.fpOk hle (I1.hok.fresh hle)
theorem walk_enumT {K : PySem.W.Frag} {a : Addr} {xs : List V} : Walk (IteT K a) xs.length (fun H => SqT K H a xs) (YPair (fun i => some (.int (i : Nat))) (fun i => xs[i]?)) := by
  refine ⟨fun i _ hi q => ⟨xs, xs[i], q, by simp [hi]⟩, fun _ q => ⟨xs, q, Nat.le_refl _⟩, fun i H v H' _ q y => ?_⟩
  obtain ⟨T, x, h1, h2, h3, h4⟩ := y
  exact ⟨T, .int (i : Nat), x, h1, h2, h3, rfl, h4 xs q⟩
/-- for i, x in enumerate(t), t a new tuple -/
theorem q_forEnumNT {K : PySem.W.Frag} {σ : L2.St} {H : Hp} {tl : TE} {D : Ends} {tu tz : TS} {xs : List V} {j1 j2 : Nat} (h : EvU tl σ H xs) (Pv : Nat → L2.St → Hp → Prop) (h0 : ∀ H1, Ex H H1 → Pv 0 σ H1)
    (hs : ∀ (i : Nat) x σ' H' H2, xs[i]? = some x → Pv i σ' H' → Ex H' H2 → ∀ N : L2.St → Hp → Prop, (∀ σ3 H3, Pv (i + 1) σ3 H3 → Tx H2 H3 → N σ3 H3) → tu { D with nx := N, ct := N, bk := tz D } ((σ'.set j1 (some (.int i))).set j2 (some x)) H2) (hd : ∀ σ' H', Pv xs.length σ' H' → tz D σ' H') : tSeq (tFor (iEnumT K (tCons tl tNil)) (gPair K j1 j2) tu) tz D σ H :=
  h H (Ex.refl H) _ fun p H1 _ e hp => ⟨p, xs, rfl, st_of hp, for_it walk_enumT (fun i σ' H' => Pv i σ' H' ∧ H' p = some (.tup xs)) ⟨h0 H1 e, hp⟩ (fun i σ' H' _ z => st_of z.2) (fun i v σ' H' H2 hi z y => by
    obtain ⟨T, x, w, rfl, hT, rfl, e1, e2⟩ := y
    cases e1
    have eT : Ex H' (upd H' T (.tup [.int (i : Nat), w])) := Ex.new hT
    exact ⟨T, _, rfl, st_of upd_same, rfl, _, _, rfl, _, _, rfl, rfl, hs i w σ' H' _ e2 z.1 eT _ fun σ3 H3 a t => ⟨a, t _ _ (eT _ _ z.2)⟩⟩) fun σ' H' z => hd σ' H' z.1⟩
section
variable {K : PySem.W.Frag} {σ : L2.St} {H : Hp} {te ta tb : TE} {v : V}
theorem rv_neB {a b : Bool} : Evl.RV rNe (.bl a) (.bl b) H (.bl (!decide (V.bl a = V.bl b))) := rv_ne rfl
theorem ev_isiN {m : String} {cs : List String} {b : Bool} (h : Ev te σ H v) (ty : TyX K H v (.type m)) (e : PySem.W.kitAny K (.type m) (cs.map Value.type) = some b) {ta : TA} (ht : EvU (tTup ta) σ H (cs.map V.ty)) : Ev (tCB (rIsiT K) (tCons te (tCons (tTup ta) tNil))) σ H (.bl b) := fun H1 x Q q =>
  h H1 x _ fun H2 x2 => ht H2 (x.trans x2) _ fun p H3 hp x3 h3 => by
    show rIsiT K [v, .ref p] H3 Q
    have pr : ∀ cs : List String, Paired ClsV (cs.map V.ty) (cs.map Value.type) := fun cs => by
      induction cs with
      | nil => exact .nil
      | cons c cs ih => exact .cons (.ty c) ih
    exact ⟨v, p, cs.map V.ty, _, cs.map Value.type, b, rfl, h3, pr cs, tyx_ext ((x.trans x2).trans x3) ty, e, q _ (x2.trans x3)⟩
end
end K02

set_option Elab.async false
set_option linter.all false
set_option maxRecDepth 100000
set_option maxHeartbeats 4000000
/-! Any object, as data; words. -/
namespace K02
open PySem PySem.Spec PyProof.Rows L2 Evl
inductive O where
  | non | bl (b : Bool) | int (i : Int) | str (s : Str) | dct | lst (xs : List O) | tup (xs : List O)
def O.seq : Bool → List O → O
  | true, xs => .lst xs
  | false, xs => .tup xs
mutual
def O.sz : O → Nat
  | .non => 1 | .bl _ => 1 | .int _ => 1 | .str _ => 1 | .dct => 1 | .lst xs => O.szs xs + 1 | .tup xs => O.szs xs + 1
def O.szs : List O → Nat
  | [] => 0
  | x :: xs => x.sz + O.szs xs
end
mutual
def O.dp : O → Nat
  | .non => 0 | .bl _ => 0 | .int _ => 0 | .str _ => 0 | .dct => 0 | .lst xs => O.dps xs + 1 | .tup xs => O.dps xs + 1
def O.dps : List O → Nat
  | [] => 0
  | x :: xs => max x.dp (O.dps xs)
end
mutual
def O.strip : O → O
  | .non => .non | .bl b => .bl b | .int i => .int i | .str s => .str s | .dct => .dct | .lst xs => .tup (O.strips xs) | .tup xs => .tup (O.strips xs)
def O.strips : List O → List O
  | [] => []
  | x :: xs => x.strip :: O.strips xs
end
mutual
def O.hasL : O → Bool
  | .non => false | .bl _ => false | .int _ => false | .str _ => false | .dct => false | .lst _ => true | .tup xs => O.hasLs xs
def O.hasLs : List O → Bool
  | [] => false
  | x :: xs => x.hasL || O.hasLs xs
end
mutual
def OV (H : Hp) : V → O → Prop
  | v, .non => v = .non
  | v, .bl b => v = .bl b
  | v, .int i => v = .int i
  | v, .str s => v = .str s
  | v, .dct => ∃ a, v = .ref a ∧ H a = some (.dK [])
  | v, .lst xs => ∃ a vs, v = .ref a ∧ H a = some (.lst vs) ∧ OVs H vs xs
  | v, .tup xs => ∃ a vs, v = .ref a ∧ H a = some (.tup vs) ∧ OVs H vs xs
def OVs (H : Hp) : List V → List O → Prop
  | vs, [] => vs = []
  | vs, o :: os => ∃ v us, vs = v :: us ∧ OV H v o ∧ OVs H us os
end
section
variable {H G : Hp}
mutual
theorem OV.ext (e : Ex H G) : ∀ {o : O} {v : V}, OV H v o → OV G v o
  | .non, _, h => h
  | .bl _, _, h => h
  | .int _, _, h => h
  | .str _, _, h => h
  | .dct, _, ⟨a, h1, h2⟩ => ⟨a, h1, e _ _ h2⟩
  | .lst _, _, ⟨a, vs, h1, h2, h3⟩ => ⟨a, vs, h1, e _ _ h2, OVs.ext e h3⟩
  | .tup _, _, ⟨a, vs, h1, h2, h3⟩ => ⟨a, vs, h1, e _ _ h2, OVs.ext e h3⟩
theorem OVs.ext (e : Ex H G) : ∀ {os : List O} {vs : List V}, OVs H vs os → OVs G vs os
  | [], _, h => h
  | _ :: _, _, ⟨v, us, h1, h2, h3⟩ => ⟨v, us, h1, OV.ext e h2, OVs.ext e h3⟩
end
theorem OVs.length : ∀ {os : List O} {vs : List V}, OVs H vs os → vs.length = os.length
  | [], _, h => by rw [show _ = [] from h]; rfl
  | _ :: _, _, ⟨v, us, h1, h2, h3⟩ => by rw [h1, List.length_cons, List.length_cons, OVs.length h3]
theorem OVs.nil : OVs H [] [] := rfl
theorem OVs.cons {v : V} {vs : List V} {o : O} {os : List O} (h : OV H v o) (k : OVs H vs os) : OVs H (v :: vs) (o :: os) := ⟨v, vs, rfl, h, k⟩
theorem OVs.append : ∀ {os ps : List O} {vs us : List V}, OVs H vs os → OVs H us ps → OVs H (vs ++ us) (os ++ ps)
  | [], _, _, _, h, k => by rw [show _ = [] from h]; exact k
  | _ :: _, _, _, _, ⟨v, us, h1, h2, h3⟩, k => by rw [h1]; exact ⟨v, _, rfl, h2, OVs.append h3 k⟩
theorem OVs.snoc : ∀ {os : List O} {o : O} {vs : List V}, OVs H vs (os ++ [o]) → ∃ us v, vs = us ++ [v] ∧ OVs H us os ∧ OV H v o
  | [], _, _, ⟨v, us, h1, h2, h3⟩ => ⟨[], v, by rw [h1, show us = [] from h3]; rfl, rfl, h2⟩
  | _ :: _, _, _, ⟨v, us, h1, h2, h3⟩ => by
    obtain ⟨ws, w, e, a, b⟩ := OVs.snoc h3
    exact ⟨v :: ws, w, by rw [h1, e]; rfl, ⟨v, ws, rfl, h2, a⟩, b⟩
theorem OVs.get : ∀ {os : List O} {vs : List V} {i : Nat} {v : V}, OVs H vs os → vs[i]? = some v → ∃ o, os[i]? = some o ∧ OV H v o
  | [], _, i, v, h, e => by rw [show _ = [] from h] at e; simp at e
  | o :: _, _, 0, v, ⟨u, us, h1, h2, h3⟩, e => by
    rw [h1] at e
    obtain rfl : u = v := by simpa using e
    exact ⟨o, rfl, h2⟩
  | _ :: _, _, i + 1, v, ⟨u, us, h1, h2, h3⟩, e => by
    rw [h1] at e
    obtain ⟨o, a, b⟩ := OVs.get (i := i) (v := v) h3 (by simpa using e)
    exact ⟨o, by simpa using a, b⟩
theorem OVs.geto : ∀ {os : List O} {vs : List V} {i : Nat} {o : O}, OVs H vs os → os[i]? = some o → ∃ v, vs[i]? = some v ∧ OV H v o
  | [], _, i, v, h, e => by simp at e
  | o :: _, _, 0, p, ⟨u, us, h1, h2, h3⟩, e => by
    obtain rfl : o = p := by simpa using e
    exact ⟨u, by rw [h1]; rfl, h2⟩
  | _ :: _, _, i + 1, v, ⟨u, us, h1, h2, h3⟩, e => by
    obtain ⟨w, a, b⟩ := OVs.geto (i := i) h3 (by simpa using e)
    exact ⟨w, by rw [h1]; simpa using a, b⟩
theorem O.szs_app : ∀ (xs ys : List O), O.szs (xs ++ ys) = O.szs xs + O.szs ys
  | [], ys => by simp [O.szs]
  | x :: xs, ys => by
    show x.sz + O.szs (xs ++ ys) = x.sz + O.szs xs + O.szs ys
    rw [O.szs_app xs ys]
    omega
theorem O.sz_pos : ∀ o : O, 1 ≤ o.sz
  | .non => Nat.le_refl _ | .bl _ => Nat.le_refl _ | .int _ => Nat.le_refl _ | .str _ => Nat.le_refl _ | .dct => Nat.le_refl _
  | .lst xs => Nat.le_add_left _ _ | .tup xs => Nat.le_add_left _ _
theorem O.len_szs : ∀ xs : List O, xs.length ≤ O.szs xs
  | [] => Nat.le_refl _
  | x :: xs => by
    have h := O.len_szs xs
    have h1 := x.sz_pos
    show xs.length + 1 ≤ x.sz + O.szs xs
    omega
/-- a list or a tuple -/
theorem OV.seq {v : V} {b : Bool} {xs : List O} (h : OV H v (O.seq b xs)) : ∃ a vs, v = .ref a ∧ H a = some (if b = true then .lst vs else .tup vs) ∧ OVs H vs xs := by
  cases b with
  | true => exact h
  | false => exact h
theorem O.seq_sz {b : Bool} {xs : List O} : (O.seq b xs).sz = O.szs xs + 1 := by cases b <;> rfl
end
/-! ### of what type -/
def O.ty : O → String
  | .non => "NoneType" | .bl _ => "bool" | .int _ => "int" | .str _ => "str" | .dct => "dict" | .lst _ => "list" | .tup _ => "tuple"
def O.isInt : O → Bool
  | .bl _ => true | .int _ => true | _ => false
def O.isBool : O → Bool
  | .bl _ => true | _ => false
def O.isStr : O → Bool
  | .str _ => true | _ => false
def O.isLst : O → Bool
  | .lst _ => true | _ => false
def O.isTup : O → Bool
  | .tup _ => true | _ => false
def O.isDct : O → Bool
  | .dct => true | _ => false
section
variable {K : PySem.W.Frag} {σ : L2.St} {H G : Hp} {te ta tb : TE} {v : V} {o : O}
theorem OV.tyx (h : OV H v o) : TyX K H v (.type o.ty) := by
  cases o with
  | non => rw [show v = .non from h]; exact .base .non
  | bl b => rw [show v = .bl b from h]; exact .base (.bl b)
  | int i => rw [show v = .int i from h]; exact .base (.int i)
  | str s => rw [show v = .str s from h]; exact .base (.str s)
  | dct => obtain ⟨a, rfl, h1⟩ := h; exact .base (.dK h1)
  | lst xs => obtain ⟨a, vs, rfl, h1, _⟩ := h; exact .base (.lst h1)
  | tup xs => obtain ⟨a, vs, rfl, h1, _⟩ := h; exact .base (.tup h1)
theorem kit_int (o : O) : kitB o.ty "int" = some o.isInt := by cases o <;> dsimp only [O.ty, O.isInt] <;> decide +kernel
theorem kit_bool (o : O) : kitB o.ty "bool" = some o.isBool := by cases o <;> dsimp only [O.ty, O.isBool] <;> decide +kernel
theorem kit_str (o : O) : kitB o.ty "str" = some o.isStr := by cases o <;> dsimp only [O.ty, O.isStr] <;> decide +kernel
theorem kit_lst (o : O) : kitB o.ty "list" = some o.isLst := by cases o <;> dsimp only [O.ty, O.isLst] <;> decide +kernel
theorem kit_tup (o : O) : kitB o.ty "tuple" = some o.isTup := by cases o <;> dsimp only [O.ty, O.isTup] <;> decide +kernel
theorem kit_dct (o : O) : kitB o.ty "dict" = some o.isDct := by cases o <;> dsimp only [O.ty, O.isDct] <;> decide +kernel
theorem ev_isInt (h : Ev te σ H v) (k : OV H v o) : Ev (tIsi K "int" te) σ H (.bl o.isInt) := ev_isi h k.tyx (kit_int o)
theorem ev_isBool (h : Ev te σ H v) (k : OV H v o) : Ev (tIsi K "bool" te) σ H (.bl o.isBool) := ev_isi h k.tyx (kit_bool o)
theorem ev_isStr (h : Ev te σ H v) (k : OV H v o) : Ev (tIsi K "str" te) σ H (.bl o.isStr) := ev_isi h k.tyx (kit_str o)
theorem ev_isLst (h : Ev te σ H v) (k : OV H v o) : Ev (tIsi K "list" te) σ H (.bl o.isLst) := ev_isi h k.tyx (kit_lst o)
theorem ev_isTup (h : Ev te σ H v) (k : OV H v o) : Ev (tIsi K "tuple" te) σ H (.bl o.isTup) := ev_isi h k.tyx (kit_tup o)
theorem ev_isDct (h : Ev te σ H v) (k : OV H v o) : Ev (tIsi K "dict" te) σ H (.bl o.isDct) := ev_isi h k.tyx (kit_dct o)
theorem ev_isSeq (h : Ev te σ H v) (k : OV H v o) : Ev (tIsi2 K te) σ H (.bl (o.isLst || o.isTup)) := ev_isi2 h k.tyx (kit_lst o) (kit_tup o)
theorem O.seq_of {o : O} (h : (o.isLst || o.isTup) = true) : ∃ b xs, o = O.seq b xs := by
  cases o with
  | lst xs => exact ⟨true, xs, rfl⟩
  | tup xs => exact ⟨false, xs, rfl⟩
  | _ => cases h
end
/-! ### rules for either of two kinds -/
theorem ix_or {X : Cx} {r1 r2 : R2} (h1 : IxR X r1) (h2 : IxR X r2) : IxR X (fun x y H Q => r1 x y H Q ∨ r2 x y H Q) := by
  intro value slice pins s σ H x y v u Q I rx ry h e
  rcases h with h | h
  · exact h1 value slice pins s σ H x y v u Q I rx ry h e
  · exact h2 value slice pins s σ H x y v u Q I rx ry h e
theorem op_or {X : Cx} {f : Value → Value → Sem Value} {r1 r2 : R2} (h1 : OpR X f r1) (h2 : OpR X f r2) : OpR X f (fun x y H Q => r1 x y H Q ∨ r2 x y H Q) := by
  intro pins s σ H x y v u Q I rx ry h
  rcases h with h | h
  · exact h1 pins s σ H x y v u Q I rx ry h
  · exact h2 pins s σ H x y v u Q I rx ry h
theorem mt_or {X : Cx} {id : String} {r1 r2 : V → List V → Hp → VK → Prop} (h1 : MtM X id r1) (h2 : MtM X id r2) : MtM X id (fun x vs H Q => r1 x vs H Q ∨ r2 x vs H Q) := by
  intro pins s σ H x vs v us Q I rx rv h
  rcases h with h | h
  · exact h1 pins s σ H x vs v us Q I rx rv h
  · exact h2 pins s σ H x vs v us Q I rx rv h
section
variable {K : PySem.W.Frag} {σ : L2.St} {H G : Hp} {te ta tb : TE} {v : V} {D : Ends} {tz : TS}
/-- x[i], x a list or a tuple -/
abbrev rIxQ (K : PySem.W.Frag) : R2 := fun x y H Q => rIxL K x y H Q ∨ rIxT K x y H Q
theorem ix_seq {X : Cx} : IxR X (rIxQ X.K) := ix_or ix_list ix_tup
abbrev rSlQ (K : PySem.W.Frag) : V → Option Int → Option Int → Hp → VK → Prop := fun x lo hi H Q => rSlL K x lo hi H Q ∨ rSlT K x lo hi H Q
theorem sl_seq {X : Cx} : SlR X (rSlQ X.K) := SlR.or sl_list sl_tup
/-- xs.extend(ys), ys a new list or a tuple -/
abbrev rExtQ (K : PySem.W.Frag) : V → List V → Hp → VK → Prop := fun x vs H Q => rExtend x vs H Q ∨ rExtT K x vs H Q
theorem mt_extQ {X : Cx} : MtM X "list.extend" (rExtQ X.K) := mt_or mt_extend mt_extT
/-- what stands at a: a list or a tuple -/
def SqB (H : Hp) (b : Bool) (a : Addr) (vs : List V) : Prop := H a = some (if b = true then .lst vs else .tup vs)
theorem SqB.ext {b : Bool} {a : Addr} {vs : List V} (e : Ex H G) (h : SqB H b a vs) : SqB G b a vs := e _ _ h
theorem rv_ixQ {b : Bool} {p : Addr} {vs : List V} {i : Int} (h : SqB H b p vs) (ha : atI vs i = some v) : RV (rIxQ K) (.ref p) (.int i) H v := fun H1 e Q q => by
  cases b with
  | true => exact .inl (rv_ixL (sq_of h) ha H1 e Q q)
  | false => exact .inr (rv_ixT (st_of h) ha H1 e Q q)
theorem ev_notN {b : Bool} (h : Ev te σ H v) (e : (!decide (v = .non)) = b) : Ev (tNotN te) σ H (.bl b) := fun H1 x Q q => h H1 x _ fun H2 x2 => by
  subst e
  exact q H2 x2
theorem ev_lenQ {b : Bool} {p : Addr} {vs : List V} (h : Ev te σ H (.ref p)) (hs : SqB H b p vs) : Ev (tLen K te) σ H (.int (vs.length : Nat)) := by
  cases b with
  | true => exact ev_lenL h (sq_of hs)
  | false => exact ev_lenT h (st_of hs)
/-- a new list or tuple -/
def EvQ (te : TE) (σ : L2.St) (H : Hp) (xs : List V) : Prop := ∀ H1, Ex H H1 → ∀ Q : VK, (∀ b p H2, H1 p = none → Ex H1 H2 → SqB H2 b p xs → Q (.ref p) H2) → te σ H1 Q
/-- x[1:] -/
theorem eq_tail {b : Bool} {a : Addr} {x : V} {xs : List V} (h : Ev te σ H (.ref a)) (ha : SqB H b a (x :: xs)) : EvQ (tSl (rSlQ K) te (tPart (tC (.int 1))) tNoPart) σ H xs := fun H1 e Q q =>
  h H1 e _ fun H2 e2 => ⟨1, rfl, by
    have e0 : cutV (x :: xs) (some 1) none = xs := cut1 x xs
    have ha2 := ha.ext (e.trans e2)
    cases b with
    | true => exact .inl ⟨a, x :: xs, rfl, sq_of ha2, fun p hp => by
        rw [e0]
        exact q true p _ (fresh_back e2 hp) (e2.trans (Ex.new hp)) upd_same⟩
    | false => exact .inr ⟨a, x :: xs, rfl, st_of ha2, fun z => by
        have e1 : HT.sIx (x :: xs).length 0 (some 1) = 1 := by simp [HT.sIx]
        rw [e1] at z
        exact absurd z.1 (by decide), fun p hp => by
        rw [e0]
        exact q false p _ (fresh_back e2 hp) (e2.trans (Ex.new hp)) upd_same⟩⟩
theorem s_extQ {l : Addr} {xs zs : List V} (hl : H l = some (.lst xs)) (ha : Ev ta σ H (.ref l)) (hb : EvQ te σ H zs) (hs : xs.length + zs.length ≤ 100000) (k : ∀ H1, Ex H H1 → D.nx σ (upd H1 l (.lst (xs ++ zs)))) :
    tDrop (tBM K "list" (rExtQ K) ta (tCons te tNil)) D σ H := ha H (Ex.refl H) _ fun H1 e1 => ⟨.inl ⟨rfl, _, sq_of (e1 l _ hl)⟩, hb H1 e1 _ fun b p H2 _ e2 hp => by
  have hl2 := e2 l _ (e1 l _ hl)
  cases b with
  | true => exact .inl ⟨l, p, xs, zs, rfl, rfl, hl2, hp, sz_of hs, k H2 (e1.trans e2)⟩
  | false => exact .inr ⟨l, p, xs, zs, rfl, rfl, hl2, st_of hp, sz_of hs, k H2 (e1.trans e2)⟩⟩
end
end K02

set_option Elab.async false
set_option linter.all false
set_option maxRecDepth 100000
set_option maxHeartbeats 4000000
/-! What is known of the module's names; kinds. -/
namespace K02
open PySem PySem.Spec PyProof.Rows L2 Evl
/-! ### own exception classes -/
theorem shape_ok {K : PySem.W.Frag} {C : Addr} {bm : List Value} (q : shapeB K C bm = true) :
    ∃ nm qn N bs sn sub ab col dd k0 k1 k2 k3 k5, K.lookup C = some (excClassObj nm qn C N bs bm true sn sub ab col dd k0 k1 k2 k3 k5 "ValueError.__new__") := by
  unfold shapeB at q
  split at q
  · rename_i dd cd sl ho
    split at q
    · rename_i k0 k1 k2 k3 n k5 hs
      simp only [Bool.and_eq_true, beq_iff_eq, Bool.not_eq_true'] at q
      obtain ⟨rfl, hdel, hd, hm⟩ := q
      obtain ⟨nm, bs, mro, ns, qn, hdc, sn, sub, ab, col, del⟩ := cd
      dsimp only at hm hdel hd
      subst hm hdel hd
      have hsl : sl = #[k0, k1, k2, k3, some (.builtin "ValueError.__new__"), k5] := by
        obtain ⟨l⟩ := sl
        simp only at hs
        rw [hs]
      subst hsl
      exact ⟨nm, qn, ns, bs, sn, sub, ab, col, dd, k0, k1, k2, k3, k5, ho⟩
    · cases q
  · cases q
theorem bm_ve (S : Addr) : PySem.HandSPX.refsVE (bmS S) = true := by
  show PySem.HandSPX.refsVE PySem.HandSPX.veTail = true
  decide +kernel
/-- a class that keeps one thing -/
structure ErrC (P : Program) (w : World) (K : PySem.W.Frag) (mg : Str → Option Value) (base : Heap) (x z : Str) : Prop where
  oex : OexC K (He.ga K x)
  xf : XfC K (He.ga K x)
  no : PySem.W.findIn K (.ref (He.ga K x)) z = some none
  gl : mg x = some (.ref (He.ga K x))
  te : PySem.W.exmOne K (.ref (He.ga K x)) (.ref (He.ga K x)) = some true
  z1 : (z == ("__debug__" : Str)) = false
  z2 : (z == ("__classdict__" : Str)) = false
  ini : ∃ (fI : Addr) (fd : FuncData) (p1 p2 p3 p4 : Pos) (params : Arguments) (scope : Scope) (qual : Str), PySem.W.findIn K (.ref (He.ga K x)) "__init__" = some (some (.ref fI)) ∧ PySem.W.typeIn K (.ref fI) = some (.type "function") ∧
    FunD K "__init__" qual params [.Assign [.Attribute (.Name "self" p1) z p2] (.Name z p3) p4] scope [] [] fI fd ∧ FnScope ["self", z] ["self", z] scope ∧ Binds K fd ["self", z] []
structure T02 (P : Program) (w : World) (K : PySem.W.Frag) (mg : Str → Option Value) (base : Heap) : Prop where
  fr : ∀ x ∈ fBl, mg x = none
  df : ∀ (i : Nat) (x : Str) (st : Stmt), fnA[i]? = some (dN x st) → (∃ fd, FnP K x st (He.ga K x) fd) ∧ mg x = some (.ref (He.ga K x))
  kd : ∃ es n, KDict K w (He.ga K "KEPT") es n
  kn : ∀ x ∈ hds, PySem.W.nsIn K (He.ga K "KEPT") x = some none
  kw : ∀ x ∈ kws, ∃ v, PySem.W.nsIn K (He.ga K "KEPT") x = some (some v)
  kept : mg "KEPT" = some (.ref (He.ga K "KEPT"))
  letters : ∃ t, mg "LETTERS" = some (.str "abcdefghijklmnopqrstuvwxyz" t)
  capitals : ∃ t, mg "CAPITALS" = some (.str "ABCDEFGHIJKLMNOPQRSTUVWXYZ" t)
  longest : ∃ t, mg "LONGEST" = some (.int 8 t)
  most : ∃ t, mg "MOST_PLACES" = some (.int 6 t)
  er : ∀ p ∈ xnm, ErrC P w K mg base p.1 p.2
  xp : ∀ p ∈ xnm, ∀ y ∈ cnms, PySem.W.exmOne K (.ref (He.ga K p.1)) (.ref (He.ga K y)) = some (decide (p.1 = y))
  cl : ∀ x ∈ cnms, mg x = some (.ref (He.ga K x))
/-- a def of the module keeps a promise; CX: what it may let out -/
structure Ok (P : Program) (w : World) (K : PySem.W.Frag) (mg : Str → Option Value) (base : Heap) (CX : CXT) (x : Str) (ps : List Str) (k : Nat) (sp : Sp) : Prop where
  ex : ∃ (f : Addr) (fd : FuncData), FnOk P w K mg base CX k f fd ps sp ∧ Binds K fd ps [] ∧ PySem.W.keepIn K (.ref f) = true ∧ mg x = some (.ref f)
section
variable {P : Program} {w : World} {K : PySem.W.Frag} {mg : Str → Option Value} {base : Heap}
theorem T02.bax (T : T02 P w K mg base) : ErrC P w K mg base "BadAxioms" "index" := T.er ("BadAxioms", "index") (by decide)
theorem T02.bfu (T : T02 P w K mg base) : ErrC P w K mg base "BadFunctions" "index" := T.er ("BadFunctions", "index") (by decide)
theorem T02.bgo (T : T02 P w K mg base) : ErrC P w K mg base "BadGoal" "thing" := T.er ("BadGoal", "thing") (by decide)
theorem T02.bna (T : T02 P w K mg base) : ErrC P w K mg base "BadNames" "thing" := T.er ("BadNames", "thing") (by decide)
theorem T02.bpr (T : T02 P w K mg base) : ErrC P w K mg base "BadPredicates" "index" := T.er ("BadPredicates", "index") (by decide)
theorem T02.bth (T : T02 P w K mg base) : ErrC P w K mg base "BadTheory" "thing" := T.er ("BadTheory", "thing") (by decide)
theorem T02.max (T : T02 P w K mg base) : mg "max" = none := T.fr _ (by decide)
theorem T02.repr (T : T02 P w K mg base) : mg "repr" = none := T.fr _ (by decide)
theorem T02.any (T : T02 P w K mg base) : mg "any" = none := T.fr _ (by decide)
theorem T02.isi (T : T02 P w K mg base) : mg "isinstance" = none := T.fr _ (by decide)
theorem T02.len (T : T02 P w K mg base) : mg "len" = none := T.fr _ (by decide)
theorem T02.list (T : T02 P w K mg base) : mg "list" = none := T.fr _ (by decide)
theorem T02.tuple (T : T02 P w K mg base) : mg "tuple" = none := T.fr _ (by decide)
theorem T02.str (T : T02 P w K mg base) : mg "str" = none := T.fr _ (by decide)
theorem T02.int (T : T02 P w K mg base) : mg "int" = none := T.fr _ (by decide)
theorem T02.bool (T : T02 P w K mg base) : mg "bool" = none := T.fr _ (by decide)
theorem T02.dict (T : T02 P w K mg base) : mg "dict" = none := T.fr _ (by decide)
theorem T02.range (T : T02 P w K mg base) : mg "range" = none := T.fr _ (by decide)
theorem T02.enumerate (T : T02 P w K mg base) : mg "enumerate" = none := T.fr _ (by decide)
theorem T02.zip (T : T02 P w K mg base) : mg "zip" = none := T.fr _ (by decide)
theorem T02.all (T : T02 P w K mg base) : mg "all" = none := T.fr _ (by decide)
theorem T02.sorted (T : T02 P w K mg base) : mg "sorted" = none := T.fr _ (by decide)
/-- a def by its place, nothing let out -/
theorem T02.ok (T : T02 P w K mg base) (i : Nat) {x : Str} {st : Stmt} {N ps : List Str} {k : Nat} {sp : Sp} (hi : fnA[i]? = some (dN x st)) (S : FnScope N ps (defScope st)) (len : ∀ vs H Q E, sp vs H Q E → vs.length = ps.length)
    (hb : ∀ (kV doc pm : Value) (an : Option Addr) (cdv ct : Value) (us : List Value), us.length = ps.length → bindArgs (PySem.W.fnOf x x (defArgs st) (defBody st) (defScope st) .none kV doc pm an cdv ct) ⟨us, []⟩ = pure (ps.zip us))
    (hbody : ∀ (f : Addr) (cdv : Value) (A : Around) (outer : List Env) (s : Shared) (H : Hp) (vs : List V) (Q : VK) (E : XK), Room k (A.deeper (envOfC x (defScope st) s.heap.objs.size f cdv)) → sp vs H Q E →
      ∃ t, PSs (cxOf CX0 P w K mg base N x (defScope st) f cdv A outer s H E).nox (defBody st) t ∧ t { nx := fun _ H' => Q .non H', rt := Q } (L2.start N vs) H) : Ok P w K mg base CX0 x ps (k + 1) sp := by
  obtain ⟨⟨fd, F⟩, m⟩ := T.df i x st hi
  refine ⟨_, fd, F.ok S len (fun cdv A outer s H vs Q E hr h => ?_), F.bindsN hb, F.kp, m⟩
  obtain ⟨t, h1, h2⟩ := hbody _ cdv A outer s H vs Q E hr h
  exact ⟨t, PSs.nox h1, h2⟩
/-- a def that may raise -/
theorem T02.okX (T : T02 P w K mg base) (i : Nat) {x : Str} {st : Stmt} {N ps : List Str} {k : Nat} {sp : Sp} (hi : fnA[i]? = some (dN x st)) (S : FnScope N ps (defScope st)) (len : ∀ vs H Q E, sp vs H Q E → vs.length = ps.length)
    (hb : ∀ (kV doc pm : Value) (an : Option Addr) (cdv ct : Value) (us : List Value), us.length = ps.length → bindArgs (PySem.W.fnOf x x (defArgs st) (defBody st) (defScope st) .none kV doc pm an cdv ct) ⟨us, []⟩ = pure (ps.zip us))
    (hbody : ∀ (f : Addr) (cdv : Value) (A : Around) (outer : List Env) (s : Shared) (H : Hp) (vs : List V) (Q : VK) (E : XK), Room k (A.deeper (envOfC x (defScope st) s.heap.objs.size f cdv)) → sp vs H Q E →
      ∃ t, PSs (cxOf (L2.CX P w) P w K mg base N x (defScope st) f cdv A outer s H E) (defBody st) t ∧ t { nx := fun _ H' => Q .non H', rt := Q } (L2.start N vs) H) : Ok P w K mg base (L2.CX P w) x ps (k + 1) sp := by
  obtain ⟨⟨fd, F⟩, m⟩ := T.df i x st hi
  exact ⟨_, fd, F.ok S len (fun cdv A outer s H vs Q E hr h => hbody _ cdv A outer s H vs Q E hr h), F.bindsN hb, F.kp, m⟩
end
/-! ### texts -/
def firstIn (s : Str) (z : Str) : Bool := match s.cps.toList with
  | c :: _ => decide (c ∈ z.cps.toList)
  | [] => false
def spelledB (s : Str) : Bool := decide (s.length ≤ 8) && (Txt.isalnum s && Txt.isascii s)
def reachB (s : Str) : Bool := spelledB s && (Txt.islower s && firstIn s "abcdefghijklmnopqrstuvwxyz")
def nameB (s : Str) : Bool := reachB s && !kws.contains s
def varB (s : Str) : Bool := spelledB s && (firstIn s "ABCDEFGHIJKLMNOPQRSTUVWXYZ" && (decide (s.length = 1) || Txt.isdigit (cutS s (some 1) none)))
/-- all texts that stand in any object here -/
def SS0 : List Str := ["", "ab", "names", "theory", "=", "X", "Y", "Z", "X1", "B1", "0"]
def SS : List Str := kws ++ (hds ++ SS0)
def okB (s : Str) : Bool := decide (s.length ≤ 100) && ((!Txt.isalnum s || !s.cps.toList.isEmpty) && (!reachB s || (hds.contains s || kws.contains s)))
theorem ok_ss : SS.all okB = true := by decide +kernel
theorem ss_len {s : Str} (h : s ∈ SS) : s.length ≤ 100 := by
  have k := List.all_eq_true.mp ok_ss s h
  unfold okB at k
  exact of_decide_eq_true (Bool.and_eq_true_iff.mp k).1
theorem ss_first {s : Str} (h : s ∈ SS) (k : Txt.isalnum s = true) : ∃ c cs, s.cps.toList = c :: cs := by
  have q := List.all_eq_true.mp ok_ss s h
  unfold okB at q
  have q2 := (Bool.and_eq_true_iff.mp (Bool.and_eq_true_iff.mp q).2).1
  rw [k] at q2
  cases e : s.cps.toList with
  | nil => rw [e] at q2; cases q2
  | cons c cs => exact ⟨c, cs, rfl⟩
theorem ss_name {s : Str} (h : s ∈ SS) (k : reachB s = true) : s ∈ hds ∨ s ∈ kws := by
  have q := List.all_eq_true.mp ok_ss s h
  unfold okB at q
  have q2 := (Bool.and_eq_true_iff.mp (Bool.and_eq_true_iff.mp q).2).2
  rw [k] at q2
  have q3 : (hds.contains s || kws.contains s) = true := q2
  rcases Bool.or_eq_true_iff.mp q3 with z | z
  · exact .inl (List.contains_iff_mem.mp z)
  · exact .inr (List.contains_iff_mem.mp z)
theorem kws_hds : ∀ s ∈ kws, s ∉ hds := by decide +kernel
end K02

set_option Elab.async false
set_option linter.all false
set_option maxRecDepth 100000
set_option maxHeartbeats 4000000
/-! Integers, lists, names, variables. -/
namespace K02
open PySem PySem.Spec PyProof.Rows L2 Evl
def O.isInteger : O → Bool
  | .int _ => true | _ => false
def O.isNumber : O → Bool
  | .int i => decide (i ≥ 0) | _ => false
def spB (f : O → Bool) : Sp := fun vs H Q _ => ∃ v o, vs = [v] ∧ OV H v o ∧ RetV (.bl (f o)) H Q
theorem spB_len {f : O → Bool} {vs : List V} {H : Hp} {Q : VK} {E : XK} (h : spB f vs H Q E) : vs.length = 1 := by
  obtain ⟨v, o, rfl, _⟩ := h
  rfl
theorem spv_B {f : O → Bool} {v : V} {o : O} {H : Hp} (h : OV H v o) : SpV (spB f) ([v] ++ []) H (.bl (f o)) := fun H1 e Q q E => ⟨v, o, rfl, h.ext e, q⟩
section
variable {P : Program} {w : World} {K : PySem.W.Frag} {mg : Str → Option Value} {base : Heap}
theorem sc_int : FnScope ["thing"] ["thing"] (defScope s_is_integer) := ⟨rfl, rfl, rfl, by decide +kernel, rfl, by decide +kernel, by decide +kernel⟩
theorem ok_is_integer (T : T02 P w K mg base) : Ok P w K mg base CX0 "is_integer" ["thing"] 1 (spB O.isInteger) := by
  refine T.ok 0 rfl sc_int (fun vs H Q E h => spB_len h) (fun kV doc pm an cdv ct us hl => match us, hl with | [_], _ => rfl) (fun f cdv A outer s H vs Q E hr h => ?_)
  obtain ⟨v, o, rfl, ho, k⟩ := h
  refine ⟨_, pss_one (ps_ret (pe_and (pe_isiB T.isi T.int PyProof.Rows.boot_int (pv 0)) (pe_one (pe_not (pe_isiB T.isi T.bool PyProof.Rows.boot_bool (pv 0)))))), ?_⟩
  refine s_ret (ev_is (ev_andV (ev_isInt (ev_var rfl) ho) fun _ => ev_notV (ev_isBool (ev_var rfl) ho)) ?_) k
  cases o <;> rfl
theorem sc_number : FnScope ["thing"] ["thing"] (defScope s_is_number) := ⟨rfl, rfl, rfl, by decide +kernel, rfl, by decide +kernel, by decide +kernel⟩
theorem ok_is_number (T : T02 P w K mg base) : Ok P w K mg base CX0 "is_number" ["thing"] 2 (spB O.isNumber) := by
  obtain ⟨fL, dL, GL, bL, kL, mL⟩ := (ok_is_integer T).ex
  refine T.ok 1 rfl sc_number (fun vs H Q E h => spB_len h) (fun kV doc pm an cdv ct us hl => match us, hl with | [_], _ => rfl) (fun f cdv A outer s H vs Q E hr h => ?_)
  obtain ⟨v, o, rfl, ho, k⟩ := h
  refine ⟨_, pss_one (ps_ret (pe_and (pe_call GL hr (by rfl) mL kL bL .nil pass0 (pa_cons (pv 0) pa_nil)) (pe_one (pe_cmpR op_ge (pv 0) pe_int (nomark _))))), ?_⟩
  cases o with
  | int i =>
    obtain rfl : v = .int i := ho
    exact s_ret (ev_is (ev_andV (a := true) (ev_call (ea_cons (ev_var rfl) ea_nil) (spv_B (o := .int i) rfl)) fun _ => ev_op (ev_var rfl) ev_c rv_I0) rfl) k
  | _ => exact s_ret (ev_is (ev_andV (a := false) (b := false) (ev_call (ea_cons (ev_var rfl) ea_nil) (spv_B ho)) fun z => nomatch z) rfl) k
theorem sc_list : FnScope ["thing"] ["thing"] (defScope s_is_list) := ⟨rfl, rfl, rfl, by decide +kernel, rfl, by decide +kernel, by decide +kernel⟩
theorem ok_is_list (T : T02 P w K mg base) : Ok P w K mg base CX0 "is_list" ["thing"] 1 (spB fun o => o.isLst || o.isTup) := by
  refine T.ok 3 rfl sc_list (fun vs H Q E h => spB_len h) (fun kV doc pm an cdv ct us hl => match us, hl with | [_], _ => rfl) (fun f cdv A outer s H vs Q E hr h => ?_)
  obtain ⟨v, o, rfl, ho, k⟩ := h
  refine ⟨_, pss_one (ps_ret (pe_isiLT T.isi T.list T.tuple (pv 0))), ?_⟩
  exact s_ret (ev_isSeq (ev_var rfl) ho) k
def spS (f : Str → Bool) : Sp := fun vs H Q _ => ∃ s, vs = [.str s] ∧ s ∈ SS ∧ RetV (.bl (f s)) H Q
theorem spS_len {f : Str → Bool} {vs : List V} {H : Hp} {Q : VK} {E : XK} (h : spS f vs H Q E) : vs.length = 1 := by
  obtain ⟨v, rfl, _⟩ := h
  rfl
theorem spv_S {f : Str → Bool} {s : Str} {H : Hp} (h : s ∈ SS) : SpV (spS f) ([.str s] ++ []) H (.bl (f s)) := fun H1 e Q q E => ⟨s, rfl, h, q⟩
theorem sc_spelled : FnScope ["thing"] ["thing"] (defScope s_is_spelled) := ⟨rfl, rfl, rfl, by decide +kernel, rfl, by decide +kernel, by decide +kernel⟩
theorem ok_is_spelled (T : T02 P w K mg base) : Ok P w K mg base CX0 "is_spelled" ["thing"] 1 (spS spelledB) := by
  obtain ⟨tl, mLo⟩ := T.longest
  refine T.ok 5 rfl sc_spelled (fun vs H Q E h => spS_len h) (fun kV doc pm an cdv ct us hl => match us, hl with | [_], _ => rfl) (fun f cdv A outer s H vs Q E hr h => ?_)
  obtain ⟨x, rfl, hx, k⟩ := h
  have hl := ss_len hx
  refine ⟨_, pss_one (ps_ret (pe_and (pe_isiB T.isi T.str PyProof.Rows.boot_str (pv 0)) (pe_and (pe_cmpR op_le (pe_callB call_len (by rfl) T.len PySem.boot_len (pa_cons (pv 0) pa_nil)) (pe_glob (v := .int 8) rfl mLo ⟨_, rfl⟩) (nomark _))
    (pe_and (pe_m0 PySem.F.slot_str_isalnum PySem.F.type_str_isalnum mt_isalnum (pv 0)) (pe_one (pe_m0 PySem.F.slot_str_isascii PySem.F.type_str_isascii mt_isascii (pv 0))))))), ?_⟩
  refine s_ret (ev_is (ev_andV (a := true) (ev_isStr (o := .str x) (ev_var rfl) rfl) fun _ => ev_andV (ev_op (ev_lenS (ev_var rfl) (by omega)) ev_c rv_I0) fun _ => ev_andV (ev_m0 (g := Txt.isalnum) (ev_var rfl)) fun _ => ev_m0 (g := Txt.isascii) (ev_var rfl)) ?_) k
  show V.bl (true && (decide (((x.length : Nat) : Int) ≤ 8) && (Txt.isalnum x && Txt.isascii x))) = V.bl (spelledB x)
  have e : decide (((x.length : Nat) : Int) ≤ 8) = decide (x.length ≤ 8) := by
    by_cases q : x.length ≤ 8
    · rw [decide_eq_true q, decide_eq_true (by omega)]
    · rw [decide_eq_false q, decide_eq_false (by omega)]
  rw [e, Bool.true_and]
  rfl
theorem spelled_alnum {s : Str} (h : spelledB s = true) : Txt.isalnum s = true := by
  unfold spelledB at h
  exact (Bool.and_eq_true_iff.mp (Bool.and_eq_true_iff.mp h).2).1
theorem firstIn_of {s z : Str} {c : Nat} {cs : List Nat} (h : s.cps.toList = c :: cs) : firstIn s z = decide (c ∈ z.cps.toList) := by
  unfold firstIn
  rw [h]
theorem at0 {s : Str} {c : Nat} {cs : List Nat} (h : s.cps.toList = c :: cs) : atI s.cps.toList 0 = some c := by
  rw [h]
  exact atI_nat (j := 0) rfl
theorem sc_name : FnScope ["thing"] ["thing"] (defScope s_is_name) := ⟨rfl, rfl, rfl, by decide +kernel, rfl, by decide +kernel, by decide +kernel⟩
theorem ok_is_name (T : T02 P w K mg base) : Ok P w K mg base CX0 "is_name" ["thing"] 2 (spS nameB) := by
  obtain ⟨tl, mLe⟩ := T.letters
  obtain ⟨es, nn, D⟩ := T.kd
  obtain ⟨fS, dS, GS, bS, kS, mS⟩ := (ok_is_spelled T).ex
  refine T.ok 6 rfl sc_name (fun vs H Q E h => spS_len h) (fun kV doc pm an cdv ct us hl => match us, hl with | [_], _ => rfl) (fun f cdv A outer s H vs Q E hr h => ?_)
  obtain ⟨x, rfl, hx, k⟩ := h
  have hl := ss_len hx
  refine ⟨_, pss_one (ps_ret (pe_and (pe_call GS hr (by rfl) mS kS bS .nil pass0 (pa_cons (pv 0) pa_nil)) (pe_and (pe_m0 PySem.F.slot_str_islower PySem.F.type_str_islower mt_islower (pv 0))
    (pe_and (pe_cmpR op_in_sign (pe_ix ix_str (pv 0) pe_int (fun _ _ => rfl)) (pe_glob (v := .str "abcdefghijklmnopqrstuvwxyz") rfl mLe ⟨_, rfl⟩) (by rfl))
    (pe_one (pe_cmpR (op_notIn_kd D) (pv 0) (pe_glob (v := .ref (He.ga K "KEPT")) rfl T.kept rfl) (by rfl))))))), ?_⟩
  cases hs : spelledB x with
  | false =>
    refine s_ret (ev_is (ev_andV (a := false) (b := false) (ev_is (ev_call (ea_cons (ev_var rfl) ea_nil) (spv_S hx)) (by rw [hs])) fun z => nomatch z) ?_) k
    unfold nameB reachB
    rw [hs]
    rfl
  | true =>
    obtain ⟨c, cs, hc⟩ := ss_first hx (spelled_alnum hs)
    cases hw : Txt.islower x && firstIn x "abcdefghijklmnopqrstuvwxyz" with
    | false =>
      refine s_ret (ev_is (ev_andV (a := true) (b := false) (ev_is (ev_call (ea_cons (ev_var rfl) ea_nil) (spv_S hx)) (by rw [hs])) fun _ => ev_is (ev_andV (a := Txt.islower x) (b := firstIn x "abcdefghijklmnopqrstuvwxyz" && false) (ev_m0 (g := Txt.islower) (ev_var rfl)) fun hlo =>
        ev_andV (b := false) (ev_is (ev_op (ev_op (ev_var rfl) ev_c (rv_ixS (by omega) (at0 hc))) ev_c rv_insign) (by rw [firstIn_of hc])) fun hf => by rw [hlo, hf] at hw; cases hw) (by rw [Bool.and_false, Bool.and_false])) ?_) k
      unfold nameB reachB
      rw [hs, hw]
      rfl
    | true =>
      obtain ⟨h1, h2⟩ := Bool.and_eq_true_iff.mp hw
      have hreach : reachB x = true := by
        unfold reachB
        rw [hs, hw]
        rfl
      refine s_ret (ev_is (ev_andV (a := true) (b := !kws.contains x) (ev_is (ev_call (ea_cons (ev_var rfl) ea_nil) (spv_S hx)) (by rw [hs])) fun _ => ev_is (ev_andV (a := true) (b := !kws.contains x) (ev_is (ev_m0 (g := Txt.islower) (ev_var rfl)) (by rw [h1])) fun _ =>
        ev_is (ev_andV (a := true) (b := !kws.contains x) (ev_is (ev_op (ev_op (ev_var rfl) ev_c (rv_ixS (by omega) (at0 hc))) ev_c rv_insign) (by rw [← firstIn_of hc, h2])) fun _ => ?_) (by rw [Bool.true_and])) (by rw [Bool.true_and])) ?_) k
      · rcases ss_name hx hreach with z | z
        · have hne : kws.contains x = false := by
            cases q : kws.contains x with
            | false => rfl
            | true => exact absurd z (kws_hds x (List.contains_iff_mem.mp q))
          rw [hne]
          exact ev_op (ev_var rfl) ev_c (rv_notInKd (T.kn x z))
        · obtain ⟨v, hv⟩ := T.kw x z
          have hne : kws.contains x = true := List.contains_iff_mem.mpr z
          rw [hne]
          exact ev_op (ev_var rfl) ev_c fun H1 _ _ q => ⟨x, some v, rfl, rfl, hv, q H1 (Ex.refl H1)⟩
      · unfold nameB
        rw [hreach]
end
end K02

set_option Elab.async false
set_option linter.all false
set_option maxRecDepth 100000
set_option maxHeartbeats 4000000
/-! Variables; what has lists. -/
namespace K02
open PySem PySem.Spec PyProof.Rows L2 Evl
section
variable {P : Program} {w : World} {K : PySem.W.Frag} {mg : Str → Option Value} {base : Heap}
theorem ev_slS {σ : L2.St} {H : Hp} {te : TE} {x : Str} (h : Ev te σ H (.str x)) (hl : x.length ≤ 1000) : Ev (tSl rSlS te (tPart (tC (.int 1))) tNoPart) σ H (.str (cutS x (some 1) none)) := fun H1 e Q q =>
  h H1 e _ fun H2 e2 => ⟨1, rfl, x, rfl, sz_of (by omega), q H2 e2⟩
theorem sc_var : FnScope ["thing"] ["thing"] (defScope s_is_variable) := ⟨rfl, rfl, rfl, by decide +kernel, rfl, by decide +kernel, by decide +kernel⟩
theorem ok_is_variable (T : T02 P w K mg base) : Ok P w K mg base CX0 "is_variable" ["thing"] 2 (spS varB) := by
  obtain ⟨tl, mLe⟩ := T.capitals
  obtain ⟨fS, dS, GS, bS, kS, mS⟩ := (ok_is_spelled T).ex
  refine T.ok 7 rfl sc_var (fun vs H Q E h => spS_len h) (fun kV doc pm an cdv ct us hl => match us, hl with | [_], _ => rfl) (fun f cdv A outer s H vs Q E hr h => ?_)
  obtain ⟨x, rfl, hx, k⟩ := h
  have hl := ss_len hx
  refine ⟨_, pss_one (ps_ret (pe_and (pe_call GS hr (by rfl) mS kS bS .nil pass0 (pa_cons (pv 0) pa_nil))
    (pe_and (pe_cmpR op_in_sign (pe_ix ix_str (pv 0) pe_int (fun _ _ => rfl)) (pe_glob (v := .str "ABCDEFGHIJKLMNOPQRSTUVWXYZ") rfl mLe ⟨_, rfl⟩) (by rfl))
    (pe_one (pe_or (pe_cmpR op_eq (pe_callB call_len (by rfl) T.len PySem.boot_len (pa_cons (pv 0) pa_nil)) pe_int (nomark _))
      (pe_one (pe_m0 PySem.F.slot_str_isdigit PySem.F.type_str_isdigit mt_isdigit (pe_slice sl_str (pv 0) (po_some pe_int) po_none)))))))), ?_⟩
  cases hs : spelledB x with
  | false =>
    refine s_ret (ev_is (ev_andV (a := false) (b := false) (ev_is (ev_call (ea_cons (ev_var rfl) ea_nil) (spv_S hx)) (by rw [hs])) fun z => nomatch z) ?_) k
    unfold varB
    rw [hs]
    rfl
  | true =>
    obtain ⟨c, cs, hc⟩ := ss_first hx (spelled_alnum hs)
    refine s_ret (ev_is (ev_andV (a := true) (ev_is (ev_call (ea_cons (ev_var rfl) ea_nil) (spv_S hx)) (by rw [hs])) fun _ => ev_andV (ev_op (ev_op (ev_var rfl) ev_c (rv_ixS (by omega) (at0 hc))) ev_c rv_insign) fun _ =>
      ev_orV (ev_op (ev_lenS (ev_var rfl) (by omega)) ev_c (rv_eq rfl)) fun _ => ev_m0 (g := Txt.isdigit) (ev_slS (ev_var rfl) (by omega))) ?_) k
    unfold varB
    rw [hs, firstIn_of hc]
    have e : decide (V.int ((x.length : Nat) : Int) = V.int 1) = decide (x.length = 1) := by
      by_cases q : x.length = 1
      · rw [decide_eq_true q, decide_eq_true (by rw [q]; rfl)]
      · rw [decide_eq_false q, decide_eq_false (fun z => q (by have := V.int.inj z; omega))]
    rw [e]
/-! ### has_lists -/
theorem hasLs_app : ∀ (xs ys : List O), O.hasLs (xs ++ ys) = (O.hasLs xs || O.hasLs ys)
  | [], ys => by simp [O.hasLs]
  | x :: xs, ys => by
    show (x.hasL || O.hasLs (xs ++ ys)) = (x.hasL || O.hasLs xs || O.hasLs ys)
    rw [hasLs_app xs ys, Bool.or_assoc]
def spHL : Sp := fun vs H Q _ => ∃ v o, vs = [v] ∧ OV H v o ∧ o.sz ≤ 9000 ∧ RetV (.bl o.hasL) H Q
theorem sc_hl : FnScope ["thing", "work", "part"] ["thing"] (defScope s_has_lists) := ⟨rfl, rfl, rfl, by decide +kernel, rfl, by decide +kernel, by decide +kernel⟩
theorem ok_has_lists (T : T02 P w K mg base) : Ok P w K mg base CX0 "has_lists" ["thing"] 1 spHL := by
  refine T.ok 9 rfl sc_hl (fun vs H Q E h => ?_) (fun kV doc pm an cdv ct us hl => match us, hl with | [_], _ => rfl) (fun f cdv A outer s H vs Q E hr h => ?_)
  · obtain ⟨v, z, rfl, _⟩ := h
    rfl
  · obtain ⟨v, z, rfl, hw, hz, k⟩ := h
    refine ⟨_, pss_cons (ps_set (i := 1) sc_hl.nd rfl (Or.inl rfl) (pe_lst (pa_cons (pv 0) pa_nil)))
      (pss_cons (ps_while PassesOwn.never (pt_truth (pv 1) (by intro _; rfl))
        (pss_cons (ps_set (i := 2) sc_hl.nd rfl (Or.inl rfl) (pe_bm0 PySem.F.plainAttrs_list PySem.F.slot_list_pop PySem.F.type_list_pop mt_pop (pv 1)))
        (pss_cons (ps_if (pt_val (pe_isiB T.isi T.list PyProof.Rows.boot_list (pv 2))) (pss_one (ps_ret pe_bl)) pss_nil)
        (pss_one (ps_if (pt_val (pe_isiB T.isi T.tuple PyProof.Rows.boot_tuple (pv 2))) (pss_one (ps_expr (pe_bm PySem.F.plainAttrs_list PySem.F.slot_list_extend PySem.F.type_list_extend mt_extT (pv 1) (pa_cons (pv 2) pa_nil)))) pss_nil)))))
      (pss_one (ps_ret pe_bl))), ?_⟩
    refine q_asgL (el_lst (ea_cons (ev_var rfl) ea_nil) (by show 1 ≤ 100000; decide)) fun p H1 hp e1 h1 => ?_
    refine q_while (fun m σ' H' => ∃ (xs : List V) (ts : List O) (o : Option V), σ' = [some v, some (.ref p), o] ∧ Ex H H' ∧ H' p = some (.lst xs) ∧ OVs H xs ts ∧ m = O.szs ts ∧ m ≤ 9000 ∧ O.hasLs ts = z.hasL) z.sz
      ⟨[v], [z], none, rfl, e1, h1, .cons hw .nil, by simp [O.szs], hz, by simp [O.hasLs]⟩ ?_
    rintro m σ' H' ⟨xs, ts, o, rfl, e2, h2, tv, hm, hm2, hres⟩
    refine ⟨!xs.isEmpty, et_truL (ev_var rfl) (SqL.of h2), fun hb H3 e3 => ?_, fun hb H3 e3 => ?_⟩
    · rcases List.eq_nil_or_concat ts with ht | ⟨ts', t, ht⟩
      · subst ht
        rw [show xs = [] from tv] at hb
        exact absurd hb (by decide)
      rw [List.concat_eq_append] at ht
      subst ht
      obtain ⟨us, x, rfl, tv1, tvx⟩ := OVs.snoc tv
      have hp' : H p = none := hp
      have hsum := O.szs_app ts' [t]
      have hs1 : O.szs [t] = t.sz := by simp [O.szs]
      have hlen := O.len_szs ts'
      have hle := tv1.length
      rw [hasLs_app, show O.hasLs [t] = t.hasL by simp [O.hasLs]] at hres
      refine ⟨fun σ2 H2 => ∃ m', m' < m ∧ ∃ (xs : List V) (ts : List O) (o : Option V), σ2 = [some v, some (.ref p), o] ∧ Ex H H2 ∧ H2 p = some (.lst xs) ∧ OVs H xs ts ∧ m' = O.szs ts ∧ m' ≤ 9000 ∧ O.hasLs ts = z.hasL, fun σ2 H2 z => z, ?_⟩
      refine q_pop (e3 _ _ h2) (ev_var rfl) fun H4 e4 => ?_
      have e5 : Ex H (upd H4 p (.lst us)) := Ex.mut ((e2.trans e3).trans e4) hp'
      have tvx5 := tvx.ext e5
      have tp := t.sz_pos
      refine q_when (b := t.isLst) (et_B (ev_isLst (ev_var rfl) tvx5)) (fun hL H5 e6 => ?_) fun hL H5 e6 => ?_
      · cases t with
        | lst ys =>
          refine s_ret (ev_is ev_c ?_) fun H6 e7 => k H6 ((e5.trans e6).trans e7)
          rw [← hres, show (O.lst ys).hasL = true from rfl, Bool.or_true]
        | _ => cases hL
      · refine s_when (b := t.isTup) (et_B (ev_isTup (ev_var rfl) (tvx5.ext e6))) (fun hT H6 e7 => ?_) fun hT H6 e7 => ?_
        · cases t with
          | tup ys =>
            obtain ⟨r, as, rfl, hr', ha⟩ := tvx
            have e8 := e6.trans e7
            have hal := ha.length
            have hly := O.len_szs ys
            have hty : (O.tup ys).sz = O.szs ys + 1 := rfl
            refine s_extT (e8 _ _ upd_same) (ev_var rfl) (ev_var rfl) (st_of ((e5.trans e8) _ _ hr')) (by omega) fun H7 e9 => ?_
            exact ⟨O.szs (ts' ++ ys), by rw [O.szs_app]; omega, us ++ as, ts' ++ ys, _, rfl, Ex.mut ((e5.trans e8).trans e9) hp', upd_same, tv1.append ha, rfl, by rw [O.szs_app]; omega, by rw [hasLs_app]; exact hres⟩
          | _ => cases hT
        · have hno : t.hasL = false := by cases t with
            | lst ys => cases hL
            | tup ys => cases hT
            | _ => rfl
          rw [hno, Bool.or_false] at hres
          exact ⟨O.szs ts', by omega, us, ts', _, rfl, (e5.trans e6).trans e7, e7 _ _ (e6 _ _ upd_same), tv1, rfl, by omega, hres⟩
    · have hx : xs = [] := by
        cases xs with
        | nil => rfl
        | cons _ _ => cases hb
      have ht : ts = [] := by
        have := tv.length
        rw [hx] at this
        exact List.length_eq_zero_iff.mp this.symm
      rw [ht] at hres
      refine s_ret (ev_is ev_c ?_) fun H4 e4 => k H4 ((e2.trans e3).trans e4)
      rw [← hres]
      rfl
end
end K02

set_option Elab.async false
set_option linter.all false
set_option maxRecDepth 100000
set_option maxHeartbeats 4000000
/-! frozen: lists made tuples. -/
namespace K02
open PySem PySem.Spec PyProof.Rows L2 Evl
mutual
def O.nod : O → Bool
  | .non => true | .bl _ => true | .int _ => true | .str _ => true | .dct => false | .lst xs => O.nods xs | .tup xs => O.nods xs
def O.nods : List O → Bool
  | [] => true
  | x :: xs => x.nod && O.nods xs
end
section
variable {H G : Hp}
mutual
theorem OV.tx (e : Tx H G) : ∀ {o : O} {v : V}, o.hasL = false → o.nod = true → OV H v o → OV G v o
  | .non, _, _, _, h => h
  | .bl _, _, _, _, h => h
  | .int _, _, _, _, h => h
  | .str _, _, _, _, h => h
  | .dct, _, _, h, _ => nomatch h
  | .lst _, _, h, _, _ => nomatch h
  | .tup _, _, h1, h2, ⟨a, vs, e1, e2, e3⟩ => ⟨a, vs, e1, e _ _ e2, OVs.tx e h1 h2 e3⟩
theorem OVs.tx (e : Tx H G) : ∀ {os : List O} {vs : List V}, O.hasLs os = false → O.nods os = true → OVs H vs os → OVs G vs os
  | [], _, _, _, h => h
  | _ :: _, _, h1, h2, ⟨v, us, e1, e2, e3⟩ => by
    obtain ⟨a, b⟩ := Bool.or_eq_false_iff.mp h1
    obtain ⟨c, d⟩ := Bool.and_eq_true_iff.mp h2
    exact ⟨v, us, e1, OV.tx e a c e2, OVs.tx e b d e3⟩
end
end
mutual
theorem strip_id : ∀ {o : O}, o.hasL = false → o.strip = o
  | .non, _ => rfl | .bl _, _ => rfl | .int _, _ => rfl | .str _, _ => rfl | .dct, _ => rfl
  | .lst _, h => nomatch h
  | .tup xs, h => congrArg O.tup (strips_id (os := xs) h)
theorem strips_id : ∀ {os : List O}, O.hasLs os = false → O.strips os = os
  | [], _ => rfl
  | x :: xs, h => by
    obtain ⟨a, b⟩ := Bool.or_eq_false_iff.mp h
    show x.strip :: O.strips xs = x :: xs
    rw [strip_id a, strips_id b]
end
mutual
theorem strip_noL : ∀ o : O, o.strip.hasL = false
  | .non => rfl | .bl _ => rfl | .int _ => rfl | .str _ => rfl | .dct => rfl
  | .lst xs => strips_noL xs
  | .tup xs => strips_noL xs
theorem strips_noL : ∀ os : List O, O.hasLs (O.strips os) = false
  | [] => rfl
  | x :: xs => by
    show (x.strip.hasL || O.hasLs (O.strips xs)) = false
    rw [strip_noL x, strips_noL xs]
    rfl
end
mutual
theorem strip_nod : ∀ o : O, o.strip.nod = o.nod
  | .non => rfl | .bl _ => rfl | .int _ => rfl | .str _ => rfl | .dct => rfl
  | .lst xs => strips_nod xs
  | .tup xs => strips_nod xs
theorem strips_nod : ∀ os : List O, O.nods (O.strips os) = O.nods os
  | [] => rfl
  | x :: xs => by
    show (x.strip.nod && O.nods (O.strips xs)) = (x.nod && O.nods xs)
    rw [strip_nod x, strips_nod xs]
end
theorem strips_eq : ∀ os : List O, O.strips os = os.map O.strip
  | [] => rfl
  | x :: xs => by
    show x.strip :: O.strips xs = _
    rw [strips_eq xs]
    rfl
theorem seq_strip (b : Bool) (ws : List O) : (O.seq b ws).strip = .tup (O.strips ws) := by cases b <;> rfl
theorem seq_nod (b : Bool) (ws : List O) : (O.seq b ws).nod = O.nods ws := by cases b <;> rfl
theorem nods_get : ∀ {os : List O} {i : Nat} {o : O}, O.nods os = true → os[i]? = some o → o.nod = true
  | [], _, _, _, h => by simp at h
  | x :: xs, 0, o, h, e => by
    obtain rfl : x = o := by simpa using e
    exact (Bool.and_eq_true_iff.mp h).1
  | _ :: xs, i + 1, o, h, e => nods_get (i := i) (Bool.and_eq_true_iff.mp h).2 (by simpa using e)
theorem nods_take : ∀ {os : List O} (n : Nat), O.nods os = true → O.nods (os.take n) = true
  | [], n, h => by simp [O.nods]
  | _ :: _, 0, _ => rfl
  | x :: xs, n + 1, h => by
    obtain ⟨a, b⟩ := Bool.and_eq_true_iff.mp h
    show (x.nod && O.nods (xs.take n)) = true
    rw [a, nods_take n b]
    rfl
theorem szs_drop : ∀ {os : List O} {n : Nat} {o : O}, os[n]? = some o → O.szs (os.drop n) = o.sz + O.szs (os.drop (n + 1))
  | [], _, _, e => by simp at e
  | x :: xs, 0, o, e => by
    obtain rfl : x = o := by simpa using e
    rfl
  | _ :: xs, n + 1, o, e => szs_drop (os := xs) (n := n) (by simpa using e)
theorem take_snoc {α : Type} {xs : List α} {n : Nat} {x : α} (h : xs[n]? = some x) : xs.take (n + 1) = xs.take n ++ [x] := by
  rw [List.take_succ, h]
  rfl
theorem hasL_seq {o : O} (h : o.hasL = true) : ∃ b ws, o = O.seq b ws := by
  cases o with
  | lst ws => exact ⟨true, ws, rfl⟩
  | tup ws => exact ⟨false, ws, rfl⟩
  | _ => cases h
/-- one thing that is begun: what it is, the tuple that holds it and its list, what is done -/
structure Fr where
  wv : V
  b : Bool
  ws : List O
  t : Addr
  d : Addr
  dv : List V
  n : Nat
/-- what holds of one: H0 at the def's begin -/
structure FrOk (H0 H : Hp) (f : Fr) : Prop where
  wh : OV H0 f.wv (O.seq f.b f.ws)
  tp : H f.t = some (.tup [f.wv, .ref f.d])
  dn : H f.d = some (.lst f.dv)
  new : H0 f.d = none
  ov : OVs H f.dv (O.strips (f.ws.take f.n))
  le : f.n ≤ f.ws.length
  nod : O.nods f.ws = true
  sz : O.szs f.ws ≤ 9000
theorem FrOk.len {H0 H : Hp} {f : Fr} (h : FrOk H0 H f) : f.dv.length = f.n := by
  rw [h.ov.length, strips_eq, List.length_map, List.length_take]
  exact Nat.min_eq_left h.le
/-- it stays if its list stays, and all tuples -/
theorem FrOk.keep {H0 H G : Hp} {f : Fr} (h : FrOk H0 H f) (t : Tx H G) (d : G f.d = H f.d) : FrOk H0 G f :=
  ⟨h.wh, t _ _ h.tp, d.trans h.dn, h.new, h.ov.tx t (strips_noL _) (by rw [strips_nod]; exact nods_take _ h.nod), h.le, h.nod, h.sz⟩
/-- from the top: each is the next thing of the one below -/
def Chain : List Fr → O → Prop
  | [], _ => False
  | [f], o => o = O.seq f.b f.ws
  | f :: g :: r, o => g.ws[g.n]? = some (O.seq f.b f.ws) ∧ Chain (g :: r) o
def lowM : List Fr → Nat
  | [] => 0
  | f :: r => 3 * O.szs (f.ws.drop (f.n + 1)) + 1 + lowM r
def topM : List Fr → Nat
  | [] => 0
  | f :: r => 3 * O.szs (f.ws.drop f.n) + 1 + lowM r
section
variable {K : PySem.W.Frag} {σ : L2.St} {H G : Hp} {te ta tb : TE} {v : V} {D : Ends} {tz : TS}
abbrev rTupOf (K : PySem.W.Frag) : List V → Hp → VK → Prop := fun xs H Q => ∃ p ys, xs = [.ref p] ∧ ((SqL K H p ys ∧ ∀ l, H l = none → Q (.ref l) (upd H l (.tup ys))) ∨ (SqT K H p ys ∧ Q (.ref p) H))
/-- tuple(xs), xs a list -/
theorem eu_tupL {p : Addr} {xs : List V} (h : Ev te σ H (.ref p)) (hs : SqL K H p xs) : EvU (tCB (rTupOf K) (tCons te tNil)) σ H xs := fun H1 e Q q =>
  h H1 e _ fun H2 e2 => ⟨p, xs, rfl, .inl ⟨ex_l (e.trans e2) hs, fun l hl => q l _ (fresh_back e2 hl) (e2.trans (Ex.new hl)) upd_same⟩⟩
/-- (e, []) -/
def EvPN (te : TE) (σ : L2.St) (H : Hp) (v : V) : Prop := ∀ H1, Ex H H1 → ∀ Q : VK, (∀ t d H2, H1 t = none → H1 d = none → t ≠ d → Ex H1 H2 → H2 t = some (.tup [v, .ref d]) → H2 d = some (.lst []) → Q (.ref t) H2) → te σ H1 Q
theorem epn {te : TE} (h : Ev te σ H v) : EvPN (tTup (tCons te (tCons (tLst tNil) tNil))) σ H v := fun H1 e Q q =>
  h H1 e _ fun H2 e2 => ⟨Nat.zero_le _, fun d hd => ⟨by show 2 ≤ sizeLine; decide, fun t ht => by
    have e3 : Ex H2 (upd H2 d (.lst [])) := Ex.new hd
    have td : t ≠ d := fun z => by
      rw [z, upd_same] at ht
      cases ht
    exact q t d _ (fresh_back (e2.trans e3) ht) (fresh_back e2 hd) td ((e2.trans e3).trans (Ex.new ht)) upd_same (by rw [upd_ne td.symm, upd_same])⟩⟩
theorem ev_top {B : Addr} {xs : List V} {y : V} {i : Nat} (hs : σ[i]? = some (some (.ref B))) (hB : H B = some (.lst (xs ++ [y]))) : Ev (tOp (rIxL K) (tVar i) (tUn (rU fun i => .int (-i)) (tC (.int 1)))) σ H y :=
  ev_op (ev_var hs) (ev_un ev_c ru_neg) (rv_ixL (sq_of hB) (atI_last xs y))
end
section
variable {P : Program} {w : World} {K : PySem.W.Frag} {mg : Str → Option Value} {base : Heap}
def spFz : Sp := fun vs H Q _ => ∃ v o, vs = [v] ∧ OV H v o ∧ o.sz ≤ 9000 ∧ o.nod = true ∧ ∀ (u : V) (G : Hp), Ex H G → OV G u o.strip → Q u G
theorem sc_fz : FnScope ["thing", "begun", "whole", "done"] ["thing"] (defScope s_frozen) := ⟨rfl, rfl, rfl, by decide +kernel, rfl, by decide +kernel, by decide +kernel⟩
theorem spv_hl {v : V} {o : O} {H : Hp} (h : OV H v o) (hz : o.sz ≤ 9000) : SpV spHL ([v] ++ []) H (.bl o.hasL) := fun H1 e Q q E => ⟨v, o, rfl, h.ext e, hz, q⟩
def refs (fs : List Fr) : List V := fs.reverse.map fun f => V.ref f.t
theorem refs_cons (f : Fr) (fs : List Fr) : refs (f :: fs) = refs fs ++ [V.ref f.t] := by
  unfold refs
  rw [List.reverse_cons, List.map_append]
  rfl
structure Inv5 (H0 H : Hp) (B : Addr) (o : O) (fs : List Fr) : Prop where
  ex : Ex H0 H
  nB : H0 B = none
  hB : H B = some (.lst (refs fs))
  ok : ∀ f ∈ fs, FrOk H0 H f
  ds : (B :: fs.map (·.d)).Nodup
  ch : Chain fs o
  len : fs.length + topM fs ≤ 90000
end
end K02

set_option Elab.async false
set_option linter.all false
set_option maxRecDepth 100000
set_option maxHeartbeats 4000000
/-! frozen, its loop. -/
namespace K02
open PySem PySem.Spec PyProof.Rows L2 Evl
section
variable {H0 H G : Hp} {B : Addr} {o : O} {f g : Fr} {r : List Fr}
theorem Inv5.ext (I : Inv5 H0 H B o r) (e : Ex H G) : Inv5 H0 G B o r :=
  ⟨I.ex.trans e, I.nB, e _ _ I.hB, fun f hf => (I.ok f hf).keep (Tx.of e) (by rw [(I.ok f hf).dn]; exact e _ _ (I.ok f hf).dn), I.ds, I.ch, I.len⟩
theorem Inv5.dB (I : Inv5 H0 H B o r) {f : Fr} (h : f ∈ r) : f.d ≠ B := fun z => (List.nodup_cons.mp I.ds).1 (by rw [← z]; exact List.mem_map.mpr ⟨f, h, rfl⟩)
theorem Inv5.dd (I : Inv5 H0 H B o (f :: r)) {g : Fr} (h : g ∈ r) : g.d ≠ f.d := fun z => by
  have q := (List.nodup_cons.mp (List.nodup_cons.mp I.ds).2).1
  exact q (List.mem_map.mpr ⟨g, h, z⟩)
theorem low_le : ∀ (fs : List Fr), lowM fs ≤ topM fs
  | [] => Nat.le_refl _
  | f :: r => by
    have : O.szs (f.ws.drop (f.n + 1)) ≤ O.szs (f.ws.drop f.n) := by
      cases e : f.ws[f.n]? with
      | none =>
        have h1 : f.ws.length ≤ f.n := List.getElem?_eq_none_iff.mp e
        rw [List.drop_eq_nil_of_le h1, List.drop_eq_nil_of_le (by omega)]
        exact Nat.le_refl _
      | some x => rw [szs_drop e]; omega
    show 3 * O.szs (f.ws.drop (f.n + 1)) + 1 + lowM r ≤ 3 * O.szs (f.ws.drop f.n) + 1 + lowM r
    omega
/-- one thing more is done -/
theorem Inv5.done (I : Inv5 H0 H B o (f :: r)) {x : O} {y : V} (hx : f.ws[f.n]? = some x) (hy : OV H y x.strip) :
    Inv5 H0 (upd H f.d (.lst (f.dv ++ [y]))) B o ({ f with dv := f.dv ++ [y], n := f.n + 1 } :: r) ∧ topM ({ f with dv := f.dv ++ [y], n := f.n + 1 } :: r) < topM (f :: r) := by
  have F := I.ok f (List.mem_cons_self ..)
  have t : Tx H (upd H f.d (.lst (f.dv ++ [y]))) := Tx.lst F.dn
  have hn : f.n < f.ws.length := (List.getElem?_eq_some_iff.mp hx).1
  have hs := szs_drop hx
  have hp := x.sz_pos
  have hm : topM ({ f with dv := f.dv ++ [y], n := f.n + 1 } :: r) + 3 * x.sz = topM (f :: r) := by
    show 3 * O.szs (f.ws.drop (f.n + 1)) + 1 + lowM r + 3 * x.sz = 3 * O.szs (f.ws.drop f.n) + 1 + lowM r
    rw [hs]
    omega
  refine ⟨⟨Ex.mut I.ex F.new, I.nB, ?_, ?_, I.ds, ?_, ?_⟩, by omega⟩
  · rw [upd_ne (I.dB (List.mem_cons_self ..)).symm, refs_cons]
    exact I.hB.trans (by rw [refs_cons])
  · intro g hg
    rcases List.mem_cons.mp hg with rfl | hg
    · refine ⟨F.wh, t _ _ F.tp, upd_same, F.new, ?_, hn, F.nod, F.sz⟩
      show OVs _ (f.dv ++ [y]) (O.strips (f.ws.take (f.n + 1)))
      rw [take_snoc hx, strips_eq, List.map_append, ← strips_eq]
      refine OVs.append (F.ov.tx t (strips_noL _) (by rw [strips_nod]; exact nods_take _ F.nod)) (.cons (hy.tx t (strip_noL _) (by rw [strip_nod]; exact nods_get F.nod hx)) .nil)
    · exact (I.ok g (List.mem_cons_of_mem _ hg)).keep t (upd_ne (I.dd hg))
  · cases r with
    | nil => exact I.ch
    | cons g r => exact I.ch
  · have := I.len
    show r.length + 1 + _ ≤ 90000
    have q : (f :: r).length = r.length + 1 := rfl
    omega
/-- one begins -/
theorem Inv5.push (I : Inv5 H0 H B o (f :: r)) {b : Bool} {ws : List O} {wv : V} {t d : Addr} (hx : f.ws[f.n]? = some (O.seq b ws)) (hw : OV H0 wv (O.seq b ws)) (ht : G t = some (.tup [wv, .ref d])) (hd : G d = some (.lst [])) (nd : H d = none) (e : Ex H G) :
    Inv5 H0 (upd G B (.lst (refs (f :: r) ++ [.ref t]))) B o (⟨wv, b, ws, t, d, [], 0⟩ :: f :: r) ∧ topM (⟨wv, b, ws, t, d, [], 0⟩ :: f :: r) < topM (f :: r) := by
  have F := I.ok f (List.mem_cons_self ..)
  have I1 := I.ext e
  have tB : Tx G (upd G B (.lst (refs (f :: r) ++ [.ref t]))) := Tx.lst I1.hB
  have hs := szs_drop hx
  rw [O.seq_sz] at hs
  have hdB : d ≠ B := fun z => by
    rw [z, I.hB] at nd
    cases nd
  have hm : topM (⟨wv, b, ws, t, d, [], 0⟩ :: f :: r) + 2 = topM (f :: r) := by
    show 3 * O.szs (ws.drop 0) + 1 + (3 * O.szs (f.ws.drop (f.n + 1)) + 1 + lowM r) + 2 = 3 * O.szs (f.ws.drop f.n) + 1 + lowM r
    rw [hs, List.drop_zero]
    omega
  have fresh0 : H0 d = none := fresh_back I.ex nd
  have hwz : O.szs ws + 1 ≤ 9000 := by
    have q : O.szs f.ws = O.szs (f.ws.take f.n) + O.szs (f.ws.drop f.n) := by rw [← O.szs_app, List.take_append_drop]
    have := F.sz
    omega
  refine ⟨⟨Ex.mut I1.ex I.nB, I.nB, ?_, ?_, ?_, ⟨hx, I.ch⟩, ?_⟩, by omega⟩
  · rw [upd_same, refs_cons _ (f :: r)]
  · intro g hg
    rcases List.mem_cons.mp hg with rfl | hg
    · refine ⟨hw, tB _ _ ht, by rw [upd_ne hdB]; exact hd, fresh0, .nil, Nat.zero_le _, ?_, by show O.szs ws ≤ 9000; omega⟩
      have := nods_get F.nod hx
      rw [seq_nod] at this
      exact this
    · exact (I1.ok g hg).keep tB (upd_ne (I.dB hg))
  · refine List.nodup_cons.mpr ⟨fun z => ?_, List.nodup_cons.mpr ⟨fun z => ?_, (List.nodup_cons.mp I.ds).2⟩⟩
    · rcases List.mem_cons.mp z with z | z
      · exact hdB z.symm
      · exact (List.nodup_cons.mp I.ds).1 z
    · obtain ⟨g, hg, e2⟩ := List.mem_map.mp z
      have := (I.ok g hg).dn
      rw [e2, nd] at this
      cases this
  · have := I.len
    show r.length + 1 + 1 + _ ≤ 90000
    have q : (f :: r).length = r.length + 1 := rfl
    omega
/-- the last one is done: it is what the one below waits for -/
theorem Inv5.pop (I : Inv5 H0 H B o (f :: g :: r)) (hn : f.n = f.ws.length) {u : Addr} (e1 : Ex (upd H B (.lst (refs (g :: r)))) G) (hu : G u = some (.tup f.dv)) :
    Inv5 H0 (upd G g.d (.lst (g.dv ++ [.ref u]))) B o ({ g with dv := g.dv ++ [.ref u], n := g.n + 1 } :: r) ∧ topM ({ g with dv := g.dv ++ [.ref u], n := g.n + 1 } :: r) < topM (f :: g :: r) := by
  have F := I.ok f (List.mem_cons_self ..)
  have tB : Tx H (upd H B (.lst (refs (g :: r)))) := Tx.lst I.hB
  have hx : g.ws[g.n]? = some (O.seq f.b f.ws) := I.ch.1
  have hl : lowM (g :: r) ≤ topM (g :: r) := low_le _
  have hm1 : topM (f :: g :: r) = 1 + lowM (g :: r) := by
    show 3 * O.szs (f.ws.drop f.n) + 1 + lowM (g :: r) = _
    rw [hn, List.drop_eq_nil_of_le (Nat.le_refl _)]
    rfl
  have hs := szs_drop hx
  rw [O.seq_sz] at hs
  have hm2 : topM (g :: r) = lowM (g :: r) + 3 * (O.szs f.ws + 1) := by
    show 3 * O.szs (g.ws.drop g.n) + 1 + lowM r = 3 * O.szs (g.ws.drop (g.n + 1)) + 1 + lowM r + _
    rw [hs]
    omega
  have I1 : Inv5 H0 (upd H B (.lst (refs (g :: r)))) B o (g :: r) ∨ True := .inr trivial
  -- below, without the bound
  have Gg := I.ok g (by simp)
  have tG : Tx H G := tB.trans (Tx.of e1)
  have ovU : OV G (.ref u) (O.seq f.b f.ws).strip := by
    rw [seq_strip]
    refine ⟨u, f.dv, rfl, hu, ?_⟩
    have := F.ov
    rw [hn, List.take_of_length_le (Nat.le_refl _)] at this
    exact this.tx tG (strips_noL _) (by rw [strips_nod]; exact F.nod)
  have keepD : ∀ h ∈ g :: r, G h.d = some (.lst h.dv) := fun h hh => e1 _ _ (by rw [upd_ne (I.dB (List.mem_cons_of_mem _ hh))]; exact (I.ok h (List.mem_cons_of_mem _ hh)).dn)
  have t : Tx G (upd G g.d (.lst (g.dv ++ [.ref u]))) := Tx.lst (keepD g (List.mem_cons_self ..))
  have hgn : g.n < g.ws.length := (List.getElem?_eq_some_iff.mp hx).1
  have ds2 : (B :: (g :: r).map (·.d)).Nodup := by
    have h1 := List.nodup_cons.mp I.ds
    exact List.nodup_cons.mpr ⟨fun z => h1.1 (List.mem_cons_of_mem _ z), (List.nodup_cons.mp h1.2).2⟩
  have dgr : ∀ h ∈ r, h.d ≠ g.d := fun h hh z => (List.nodup_cons.mp (List.nodup_cons.mp ds2).2).1 (List.mem_map.mpr ⟨h, hh, z⟩)
  have hm3 : topM ({ g with dv := g.dv ++ [.ref u], n := g.n + 1 } :: r) = lowM (g :: r) := rfl
  refine ⟨⟨Ex.mut ((Ex.mut I.ex I.nB).trans e1) Gg.new, I.nB, ?_, ?_, ds2, ?_, ?_⟩, by omega⟩
  · rw [upd_ne (I.dB (by simp)).symm, refs_cons]
    exact (e1 _ _ upd_same).trans (by rw [refs_cons])
  · intro h hh
    rcases List.mem_cons.mp hh with rfl | hh
    · refine ⟨Gg.wh, t _ _ (tG _ _ Gg.tp), upd_same, Gg.new, ?_, hgn, Gg.nod, Gg.sz⟩
      show OVs _ (g.dv ++ [.ref u]) (O.strips (g.ws.take (g.n + 1)))
      rw [take_snoc hx, strips_eq, List.map_append, ← strips_eq]
      refine OVs.append (Gg.ov.tx (tG.trans t) (strips_noL _) (by rw [strips_nod]; exact nods_take _ Gg.nod)) (.cons (ovU.tx t (strip_noL _) (by rw [strip_nod]; exact nods_get Gg.nod hx)) .nil)
    · have hk := I.ok h (by simp [hh])
      refine hk.keep (tG.trans t) ?_
      rw [upd_ne (dgr h hh), keepD h (List.mem_cons_of_mem _ hh), hk.dn]
  · cases r with
    | nil => exact I.ch.2
    | cons h r => exact I.ch.2
  · have := I.len
    have q : (f :: g :: r).length = r.length + 2 := rfl
    show r.length + 1 + _ ≤ 90000
    omega
end
section
variable {K : PySem.W.Frag} {σ : L2.St} {H G : Hp} {te ta tb : TE} {v : V} {D : Ends} {tz : TS}
/-- xs.pop() -/
theorem q_popD {l : Addr} {xs : List V} {y : V} (hl : H l = some (.lst (xs ++ [y]))) (ha : Ev ta σ H (.ref l)) (k : ∀ H1, Ex H H1 → tz D σ (upd H1 l (.lst xs))) : tSeq (tDrop (tBM0 K "list" rPop ta)) tz D σ H :=
  ha H (Ex.refl H) _ fun H1 e1 => ⟨.inl ⟨rfl, _, sq_of (e1 l _ hl)⟩, l, _, y, rfl, rfl, e1 l _ hl, last_at, by
    rw [List.dropLast_concat]
    exact k H1 e1⟩
/-- xs = [(e, [])] -/
theorem q_asgPN {i : Nat} (h : EvPN te σ H v) (k : ∀ t d B H2, H t = none → H d = none → Ex H H2 → H2 t = some (.tup [v, .ref d]) → H2 d = some (.lst []) → H2 B = none → tz D (σ.set i (some (.ref B))) (upd H2 B (.lst [.ref t]))) :
    tSeq (tAsg (tLst (tCons te tNil)) (gName i)) tz D σ H := h H (Ex.refl H) _ fun t d H2 nt nd td e2 ht hd => ⟨by show 1 ≤ sizeLine; decide, fun B hB => k t d B H2 nt nd e2 ht hd hB⟩
/-- x, y = t -/
theorem q_unp {i j : Nat} {t : Addr} {x y : V} (h : Ev te σ H (.ref t)) (ht : H t = some (.tup [x, y])) (k : ∀ H1, Ex H H1 → tz D ((σ.set i (some x)).set j (some y)) H1) : tSeq (tAsg te (gTup K 2 (gCons (gName i) (gCons (gName j) gNil)))) tz D σ H :=
  h H (Ex.refl H) _ fun H1 e => ⟨t, [x, y], rfl, st_of (e _ _ ht), rfl, _, _, rfl, _, _, rfl, rfl, k H1 e⟩
/-- xs.append((e, [])) -/
theorem s_appPN {l : Addr} {xs : List V} (hl : H l = some (.lst xs)) (ha : Ev ta σ H (.ref l)) (h : EvPN te σ H v) (hz : xs.length < 100000) (k : ∀ t d H1, H t = none → H d = none → t ≠ d → Ex H H1 → H1 t = some (.tup [v, .ref d]) → H1 d = some (.lst []) → D.nx σ (upd H1 l (.lst (xs ++ [.ref t])))) :
    tDrop (tBM K "list" rAppend ta (tCons te tNil)) D σ H := ha H (Ex.refl H) _ fun H1 e1 => ⟨.inl ⟨rfl, _, sq_of (e1 l _ hl)⟩, h H1 e1 _ fun t d H2 nt nd td e2 ht hd =>
  ⟨l, xs, .ref t, rfl, rfl, e2 l _ (e1 l _ hl), sz_lt hz, k t d H2 (fresh_back e1 nt) (fresh_back e1 nd) td (e1.trans e2) ht hd⟩⟩
end
section
variable {P : Program} {w : World} {K : PySem.W.Frag} {mg : Str → Option Value} {base : Heap}
theorem ok_frozen (T : T02 P w K mg base) : Ok P w K mg base CX0 "frozen" ["thing"] 2 spFz := by
  obtain ⟨fH, dH, GH, bH, kH, mH⟩ := (ok_has_lists T).ex
  refine T.ok 10 rfl sc_fz (fun vs H Q E h => ?_) (fun kV doc pm an cdv ct us hl => match us, hl with | [_], _ => rfl) (fun f cdv A outer s H vs Q E hr h => ?_)
  · obtain ⟨v, z, rfl, _⟩ := h
    rfl
  · obtain ⟨v, z, rfl, hw, hz, hnod, k⟩ := h
    refine ⟨_, pss_cons (ps_if (pt_not (pt_val (pe_call GH hr (by rfl) mH kH bH .nil pass0 (pa_cons (pv 0) pa_nil)))) (pss_one (ps_ret (pv 0))) pss_nil)
      (pss_cons (ps_set (i := 1) sc_fz.nd rfl (Or.inl rfl) (pe_lst (pa_cons (pe_tup (pa_cons (pv 0) (pa_cons (pe_lst pa_nil) pa_nil))) pa_nil)))
      (pss_one (ps_while PassesOwn.never (pt_val pe_bl)
        (pss_cons (ps_asg (pe_ix ix_list (pv 1) (pe_un un_neg pe_int) (fun _ _ => rfl)) (pg_tup rfl (pgs_cons (pg_name (i := 2) sc_fz.nd rfl (Or.inl rfl)) (pgs_cons (pg_name (i := 3) sc_fz.nd rfl (Or.inl rfl)) pgs_nil))))
        (pss_one (ps_if (pt_cmpR op_eq (pe_callB call_len (by rfl) T.len PySem.boot_len (pa_cons (pv 3) pa_nil)) (pe_callB call_len (by rfl) T.len PySem.boot_len (pa_cons (pv 2) pa_nil)) (nomark _))
          (pss_cons (ps_expr (pe_bm0 PySem.F.plainAttrs_list PySem.F.slot_list_pop PySem.F.type_list_pop mt_pop (pv 1)))
          (pss_cons (ps_if (pt_not (pt_truth (pv 1) (by intro _; rfl))) (pss_one (ps_ret (pe_callTy call_tuple_of (by rfl) T.tuple PyProof.Rows.boot_tuple (pa_cons (pv 3) pa_nil)))) pss_nil)
          (pss_one (ps_expr (pe_bm PySem.F.plainAttrs_list PySem.F.slot_list_append PySem.F.type_list_append mt_append (pe_ix ix_tup (pe_ix ix_list (pv 1) (pe_un un_neg pe_int) (fun _ _ => rfl)) pe_int (fun _ _ => rfl)) (pa_cons (pe_callTy call_tuple_of (by rfl) T.tuple PyProof.Rows.boot_tuple (pa_cons (pv 3) pa_nil)) pa_nil))))))
          (pss_one (ps_if (pt_val (pe_call GH hr (by rfl) mH kH bH .nil pass0 (pa_cons (pe_ix ix_seq (pv 2) (pe_callB call_len (by rfl) T.len PySem.boot_len (pa_cons (pv 3) pa_nil)) (fun _ _ => rfl)) pa_nil)))
            (pss_one (ps_expr (pe_bm PySem.F.plainAttrs_list PySem.F.slot_list_append PySem.F.type_list_append mt_append (pv 1) (pa_cons (pe_tup (pa_cons (pe_ix ix_seq (pv 2) (pe_callB call_len (by rfl) T.len PySem.boot_len (pa_cons (pv 3) pa_nil)) (fun _ _ => rfl)) (pa_cons (pe_lst pa_nil) pa_nil))) pa_nil))))
            (pss_one (ps_expr (pe_bm PySem.F.plainAttrs_list PySem.F.slot_list_append PySem.F.type_list_append mt_append (pv 3) (pa_cons (pe_ix ix_seq (pv 2) (pe_callB call_len (by rfl) T.len PySem.boot_len (pa_cons (pv 3) pa_nil)) (fun _ _ => rfl)) pa_nil)))))))))))), ?_⟩
    refine q_when (b := !z.hasL) (et_not (et_B (ev_call (ea_cons (ev_var rfl) ea_nil) (spv_hl hw hz)))) (fun hb H1 e1 => ?_) fun hb H1 e1 => ?_
    · have hno : z.hasL = false := by simpa using hb
      refine s_ret (ev_var rfl) fun H2 e2 => k v H2 (e1.trans e2) ?_
      rw [strip_id hno]
      exact hw.ext (e1.trans e2)
    have hyes : z.hasL = true := by simpa using hb
    obtain ⟨b, ws, rfl⟩ := hasL_seq hyes
    have hwsz : O.szs ws + 1 ≤ 9000 := by rw [← O.seq_sz (b := b)]; exact hz
    have hnods : O.nods ws = true := by rw [← seq_nod b]; exact hnod
    refine q_asgPN (epn (ev_var rfl)) fun t d B H2 nt nd e2 ht hd hB => ?_
    have e12 := e1.trans e2
    have hBd : B ≠ d := fun z => by
      rw [z, hd] at hB
      cases hB
    have hBt : B ≠ t := fun z => by
      rw [z, ht] at hB
      cases hB
    refine s_while (fun m σ' H' => ∃ (fs : List Fr) (o1 o2 : Option V), σ' = [some v, some (.ref B), o1, o2] ∧ Inv5 H H' B (O.seq b ws) fs ∧ m = topM fs) (topM [⟨v, b, ws, t, d, [], 0⟩]) ⟨[⟨v, b, ws, t, d, [], 0⟩], none, none, rfl, ?_, rfl⟩ ?_
    · refine ⟨Ex.mut e12 (fresh_back e12 hB), fresh_back e12 hB, upd_same, fun f hf => ?_, ?_, rfl, ?_⟩
      · obtain rfl : f = ⟨v, b, ws, t, d, [], 0⟩ := by simpa using hf
        exact ⟨hw, by rw [upd_ne hBt.symm]; exact ht, by rw [upd_ne hBd.symm]; exact hd, fresh_back e1 nd, .nil, Nat.zero_le _, hnods, by show O.szs ws ≤ 9000; omega⟩
      · simp [hBd]
      · show 1 + (3 * O.szs (ws.drop 0) + 1 + 0) ≤ 90000
        rw [List.drop_zero]
        omega
    rintro m σ' H' ⟨fs, o1, o2, rfl, I, rfl⟩
    match fs, I with
    | [], I => exact I.ch.elim
    | f :: r, I =>
    refine ⟨true, et_B ev_c, fun _ H3 e3 => ⟨fun σ2 H2 => ∃ m', m' < topM (f :: r) ∧ ∃ (fs : List Fr) (o1 o2 : Option V), σ2 = [some v, some (.ref B), o1, o2] ∧ Inv5 H H2 B (O.seq b ws) fs ∧ m' = topM fs, fun _ _ z => z, ?_⟩, fun z => nomatch z⟩
    have I3 := I.ext e3
    have F3 := I3.ok f (List.mem_cons_self ..)
    refine q_unp (ev_top (xs := refs r) (y := .ref f.t) rfl (by rw [I3.hB, refs_cons])) F3.tp fun H4 e4 => ?_
    have I4 := I3.ext e4
    have F := I4.ok f (List.mem_cons_self ..)
    obtain ⟨wa, wvs, ewv, hwa, hov⟩ := F.wh.seq
    have hwl : wvs.length = f.ws.length := hov.length
    have hwa4 : SqB H4 f.b wa wvs := I4.ex _ _ hwa
    have hdl := F.len
    have hlen := I4.len
    rw [ewv]
    refine s_if (b := decide (f.n = f.ws.length)) (et_is (et_test (ev_op (ev_lenL (ev_var rfl) (sq_of F.dn)) (ev_lenQ (ev_var rfl) hwa4) (rv_eq rfl))) ?_) (fun hb H5 e5 => ?_) fun hb H5 e5 => ?_
    · rw [hdl, hwl]
      by_cases q : f.n = f.ws.length
      · rw [decide_eq_true q, decide_eq_true (by rw [q])]
      · rw [decide_eq_false q, decide_eq_false (fun z => q (by have := V.int.inj z; omega))]
    · have hn : f.n = f.ws.length := of_decide_eq_true hb
      have I5 := I4.ext e5
      have F5 := I5.ok f (List.mem_cons_self ..)
      refine q_popD (xs := refs r) (y := .ref f.t) (by rw [I5.hB, refs_cons]) (ev_var rfl) fun H6 e6 => ?_
      have I6 := I5.ext e6
      have F6 := I6.ok f (List.mem_cons_self ..)
      have hBs : (upd H6 B (.lst (refs r))) B = some (.lst (refs r)) := upd_same
      have hfd : (upd H6 B (.lst (refs r))) f.d = some (.lst f.dv) := by rw [upd_ne (I6.dB (List.mem_cons_self ..))]; exact F6.dn
      refine q_when (b := !!(refs r).isEmpty) (et_not (et_truL (ev_var rfl) (sq_of hBs))) (fun he H7 e7 => ?_) fun he H7 e7 => ?_
      · match r, I6, e7, he, hfd with
        | [], I6, e7, he, hfd =>
          refine s_retU (eu_tupL (ev_var rfl) (sq_of (e7 _ _ hfd))) fun u G hu e8 h8 => k (.ref u) G (((Ex.mut I6.ex I6.nB).trans e7).trans e8) ?_
          rw [show O.seq b ws = O.seq f.b f.ws from I6.ch, seq_strip]
          refine ⟨u, f.dv, rfl, h8, ?_⟩
          have q := F6.ov
          rw [hn, List.take_of_length_le (Nat.le_refl _)] at q
          exact q.tx (((Tx.lst I6.hB).trans (Tx.of e7)).trans (Tx.of e8)) (strips_noL _) (by rw [strips_nod]; exact F6.nod)
        | g :: r, I6, e7, he, hfd =>
          rw [refs_cons] at he
          simp at he
      · match r, I6, e7, he, hfd, hBs with
        | [], I6, e7, he, hfd, hBs =>
          exact absurd he (by simp [refs])
        | g :: r, I6, e7, he, hfd, hBs =>
          have Gg := I6.ok g (by simp)
          have hgd : (upd H6 B (.lst (refs (g :: r)))) g.d = some (.lst g.dv) := by rw [upd_ne (I6.dB (by simp))]; exact Gg.dn
          have hgt : (upd H6 B (.lst (refs (g :: r)))) g.t = some (.tup [g.wv, .ref g.d]) := Tx.lst I6.hB _ _ Gg.tp
          refine s_appU (e7 _ _ hgd) (ev_op (ev_top (xs := refs r) (y := .ref g.t) rfl (by rw [e7 _ _ hBs, refs_cons])) ev_c (rv_ixT (st_of (e7 _ _ hgt)) (atI_nat (j := 1) rfl))) (eu_tupL (ev_var rfl) (sq_of (e7 _ _ hfd))) ?_ fun u G hu e8 h8 => ?_
          · have := Gg.len
            have := Gg.le
            have := O.len_szs g.ws
            have := Gg.sz
            omega
          · obtain ⟨J, lt⟩ := I6.pop hn (e7.trans e8) h8
            exact ⟨_, lt, _, _, _, rfl, J, rfl⟩
    · have hn : f.n ≠ f.ws.length := of_decide_eq_false hb
      have hlt : f.n < f.ws.length := Nat.lt_of_le_of_ne F.le hn
      obtain ⟨x, hx⟩ : ∃ x, f.ws[f.n]? = some x := ⟨f.ws[f.n], by simp [hlt]⟩
      obtain ⟨y, hy, hyo⟩ := hov.geto hx
      have I5 := I4.ext e5
      have F5 := I5.ok f (List.mem_cons_self ..)
      have hwa5 : SqB H5 f.b wa wvs := I5.ex _ _ hwa
      have hxz : x.sz ≤ 9000 := by
        have q : O.szs f.ws = O.szs (f.ws.take f.n) + O.szs (f.ws.drop f.n) := by rw [← O.szs_app, List.take_append_drop]
        have := szs_drop hx
        have := F.sz
        omega
      have ix : ∀ {G : Hp}, Ex H5 G → Ev (tOp (rIxQ K) (tVar 2) (tLen K (tVar 3))) [some v, some (.ref B), some (.ref wa), some (.ref f.d)] G y := fun e => ev_op (ev_var rfl) (ev_lenL (ev_var rfl) (sq_of (e _ _ F5.dn))) (rv_ixQ (hwa5.ext e) (by rw [F5.len]; exact atI_nat hy))
      refine s_if (b := x.hasL) (et_B (ev_call (ea_cons (ix (Ex.refl _)) ea_nil) (spv_hl (hyo.ext I5.ex) hxz))) (fun hL H6 e6 => ?_) fun hL H6 e6 => ?_
      · obtain ⟨b2, ws2, rfl⟩ := hasL_seq hL
        have I6 := I5.ext e6
        refine s_appPN I6.hB (ev_var rfl) (epn (ix e6)) ?_ fun t d G nt nd td e7 ht hd => ?_
        · unfold refs
          rw [List.length_map, List.length_reverse]
          omega
        · obtain ⟨J, lt⟩ := I6.push hx hyo ht hd nd e7
          exact ⟨_, lt, _, _, _, rfl, J, rfl⟩
      · have I6 := I5.ext e6
        have F6 := I6.ok f (List.mem_cons_self ..)
        refine s_app F6.dn (ev_var rfl) (ix e6) ?_ fun G e7 => ?_
        · have := O.len_szs f.ws
          have := F.sz
          omega
        · have I7 := I6.ext e7
          obtain ⟨J, lt⟩ := I7.done (y := y) hx (by rw [strip_id hL]; exact hyo.ext I7.ex)
          exact ⟨_, lt, _, _, _, rfl, J, rfl⟩
end
end K02

set_option Elab.async false
set_option linter.all false
set_option maxRecDepth 100000
set_option maxHeartbeats 4000000
/-! Words fit. -/
namespace K02
open PySem PySem.Spec PyProof.Rows L2 Evl
def headB (h : O) (n : Nat) : Bool := match h with
  | .str s => decide (n ≤ 6) && nameB s
  | _ => false
mutual
def O.fit : O → Bool
  | .str s => varB s
  | .lst xs => O.fitL xs
  | .tup xs => O.fitL xs
  | .non => false | .bl _ => false | .int _ => false | .dct => false
def O.fitL : List O → Bool
  | [] => false
  | h :: as => headB h as.length && O.fits as
def O.fits : List O → Bool
  | [] => true
  | x :: xs => x.fit && O.fits xs
end
mutual
def O.ss : O → Bool
  | .str s => SS.contains s
  | .lst xs => O.sss xs
  | .tup xs => O.sss xs
  | .non => true | .bl _ => true | .int _ => true | .dct => true
def O.sss : List O → Bool
  | [] => true
  | x :: xs => x.ss && O.sss xs
end
def placesL : List O → Bool
  | [] => false
  | h :: as => headB h as.length
def O.placesB : O → Bool
  | .lst xs => placesL xs
  | .tup xs => placesL xs
  | _ => false
theorem fits_app : ∀ (xs ys : List O), O.fits (xs ++ ys) = (O.fits xs && O.fits ys)
  | [], ys => by simp [O.fits]
  | x :: xs, ys => by
    show (x.fit && O.fits (xs ++ ys)) = (x.fit && O.fits xs && O.fits ys)
    rw [fits_app xs ys, Bool.and_assoc]
theorem sss_app : ∀ (xs ys : List O), O.sss (xs ++ ys) = (O.sss xs && O.sss ys)
  | [], ys => by simp [O.sss]
  | x :: xs, ys => by
    show (x.ss && O.sss (xs ++ ys)) = (x.ss && O.sss xs && O.sss ys)
    rw [sss_app xs ys, Bool.and_assoc]
theorem seq_ss (b : Bool) (xs : List O) : (O.seq b xs).ss = O.sss xs := by cases b <;> rfl
theorem seq_fit (b : Bool) (xs : List O) : (O.seq b xs).fit = O.fitL xs := by cases b <;> rfl
theorem seq_places (b : Bool) (xs : List O) : (O.seq b xs).placesB = placesL xs := by cases b <;> rfl
theorem str_ss {s : Str} (h : (O.str s).ss = true) : s ∈ SS := List.contains_iff_mem.mp h
section
variable {K : PySem.W.Frag} {σ : L2.St} {H G : Hp} {te ta tb : TE} {v : V} {D : Ends} {tz : TS}
theorem el_listQ {b : Bool} {p : Addr} {xs : List V} (ha : Ev ta σ H (.ref p)) (h : SqB H b p xs) : EvL (tCB (rListS K) (tCons ta tNil)) σ H xs := fun H1 e Q q =>
  ha H1 e _ fun H2 e2 => ⟨p, xs, rfl, by
    cases b with
    | true => exact .inl (sq_of (h.ext (e.trans e2)))
    | false => exact .inr (st_of (h.ext (e.trans e2))), fun l hl => q l _ (fresh_back e2 hl) (e2.trans (Ex.new hl)) upd_same⟩
/-- k not in d -/
theorem ev_notInD {ty td : TE} {d : Addr} {kvs : List (Key × V)} {k : Key} (h1 : Ev ty σ H (kV k)) (h2 : Ev td σ H (.ref d)) (hd : H d = some (.dK kvs)) : Ev (tDNotIn ty td) σ H (.bl (!(valV kvs k).isSome)) := fun H1 e Q q =>
  h1 H1 e _ fun H2 e2 => h2 H2 (e.trans e2) _ fun H3 e3 => ⟨d, _, rfl, DGet.k (e3 _ _ (e2 _ _ (e _ _ hd))), q H3 (e2.trans e3)⟩
/-- d[k] = v -/
theorem s_dput {td ty tv : TE} {d : Addr} {kvs : List (Key × V)} {k : Key} (hd : H d = some (.dK kvs)) (h2 : Ev tv σ H v) (h1 : Ev td σ H (.ref d)) (h0 : Ev ty σ H (kV k)) (hl : kvs.length < 100000) (q : ∀ H1, Ex H H1 → D.nx σ (upd H1 d (.dK (putK kvs k v)))) : sDPut td ty tv D σ H :=
  h2 H (Ex.refl H) _ fun H1 e1 => h1 H1 e1 _ fun H2 e2 => h0 H2 (e1.trans e2) _ fun H3 e3 => ⟨d, _, rfl, DPut.k (e3 _ _ (e2 _ _ (e1 _ _ hd))) (sz_lt hl), q H3 ((e1.trans e2).trans e3)⟩
end
theorem putK_new {kvs : List (Key × V)} {k : Key} {v : V} (h : valV kvs k = none) : putK kvs k v = kvs ++ [(k, v)] := by
  unfold putK
  have q : (kvs.any fun kv => decide (kv.1 = k)) = false := by
    rw [List.any_eq_false]
    intro p hp e
    have e1 : p.1 = k := of_decide_eq_true e
    unfold valV at h
    have := List.find?_eq_none.mp (Option.map_eq_none_iff.mp h) p hp
    exact this (decide_eq_true e1)
  rw [q]
  rfl
theorem valV_mem {kvs : List (Key × V)} {k : Key} (h : (valV kvs k).isSome = true) : ∃ v, (k, v) ∈ kvs := by
  unfold valV at h
  cases e : kvs.find? fun kv => decide (kv.1 = k) with
  | none => rw [e] at h; cases h
  | some p =>
    have h1 := List.find?_some e
    have h2 := List.mem_of_find?_eq_some e
    have e1 : p.1 = k := of_decide_eq_true h1
    exact ⟨p.2, by rw [← e1]; exact h2⟩
section
variable {P : Program} {w : World} {K : PySem.W.Frag} {mg : Str → Option Value} {base : Heap}
def spPl : Sp := fun vs H Q _ => ∃ v o, vs = [v, .non] ∧ OV H v o ∧ o.ss = true ∧ RetV (.bl o.placesB) H Q
theorem spv_pl {v : V} {o : O} {H : Hp} (h : OV H v o) (hs : o.ss = true) : SpV spPl ([v, .non] ++ []) H (.bl o.placesB) := fun H1 e Q q E => ⟨v, o, rfl, h.ext e, hs, q⟩
theorem sc_places : FnScope ["thing", "arities"] ["thing", "arities"] (defScope s_has_places) := ⟨rfl, rfl, rfl, by decide +kernel, rfl, by decide +kernel, by decide +kernel⟩
theorem ok_has_places (T : T02 P w K mg base) : Ok P w K mg base CX0 "has_places" ["thing", "arities"] 3 spPl := by
  obtain ⟨tl, mMo⟩ := T.most
  obtain ⟨fN, dN, GN, bN, kN, mN⟩ := (ok_is_name T).ex
  refine T.ok 11 rfl sc_places (fun vs H Q E h => ?_) (fun kV doc pm an cdv ct us hl => match us, hl with | [_, _], _ => rfl) (fun f cdv A outer s H vs Q E hr h => ?_)
  · obtain ⟨v, z, rfl, _⟩ := h
    rfl
  · obtain ⟨v, z, rfl, hw, hss, k⟩ := h
    refine ⟨_, pss_cons (ps_if (PW.pt (pw_or (pt_not (pt_val (pe_isiLT T.isi T.list T.tuple (pv 0)))) (pw_or (pt_cmpR op_eq (pe_callB call_len (by rfl) T.len PySem.boot_len (pa_cons (pv 0) pa_nil)) pe_int (nomark _))
        (pw_or1 (pt_not (pt_val (pe_isiB T.isi T.str PyProof.Rows.boot_str (pe_ix ix_seq (pv 0) pe_int (fun _ _ => rfl))))))))) (pss_one (ps_ret pe_bl)) pss_nil)
      (pss_cons (ps_if (pt_cmp (pc_isN (pv 1))) (pss_one (ps_ret (pe_and (pe_cmpR op_le (pe_callB call_len (by rfl) T.len PySem.boot_len (pa_cons (pv 0) pa_nil)) (pe_op op_add (pe_glob (v := .int 6) rfl mMo ⟨_, rfl⟩) pe_int) (nomark _))
        (pe_one (pe_call GN hr (by rfl) mN kN bN .nil pass0 (pa_cons (pe_ix ix_seq (pv 0) pe_int (fun _ _ => rfl)) pa_nil)))))) pss_nil)
      (pss_one ps_never)), ?_⟩
    cases hq : z.isLst || z.isTup with
    | false =>
      refine q_when (b := true) (et_is (et_or (a := true) (b := true) (et_is (et_not (et_B (ev_isSeq (ev_var rfl) hw))) (by rw [hq]; rfl)) fun z => nomatch z) rfl) (fun _ H1 e1 => ?_) fun z => nomatch z
      refine s_ret (ev_is ev_c ?_) fun H2 e2 => k H2 (e1.trans e2)
      cases z with
      | lst xs => cases hq
      | tup xs => cases hq
      | _ => rfl
    | true =>
      obtain ⟨b, xs, rfl⟩ := O.seq_of hq
      obtain ⟨a, us, rfl, ha, hov⟩ := hw.seq
      have hsq : SqB H b a us := ha
      rw [seq_places] at k
      rw [seq_ss] at hss
      match xs, hov, hss, k with
      | [], hov, hss, k =>
        obtain rfl : us = [] := hov
        refine q_when (b := true) (et_is (et_or (a := false) (b := true) (et_is (et_not (et_B (ev_isSeq (ev_var rfl) hw))) (by rw [hq]; rfl)) fun _ => et_or (a := true) (b := true) (et_is (et_test (ev_op (ev_lenQ (ev_var rfl) hsq) ev_c (rv_eq rfl))) (by decide)) fun z => nomatch z) rfl) (fun _ H1 e1 => ?_) fun z => nomatch z
        exact s_ret ev_c fun H2 e2 => k H2 (e1.trans e2)
      | h :: as, ⟨u, us', e0, hu, has⟩, hss, k =>
        subst e0
        obtain ⟨hh, hr2⟩ := Bool.and_eq_true_iff.mp hss
        have ev0 : ∀ {G : Hp}, Ex H G → Ev (tOp (rIxQ K) (tVar 0) (tC (.int 0))) [some (.ref a), some .non] G u := fun e => ev_op (ev_var rfl) ev_c (rv_ixQ (hsq.ext e) (atI_nat (j := 0) rfl))
        have hl : (u :: us').length = us'.length + 1 := rfl
        have hal := has.length
        have e12 : decide (V.int (((u :: us').length : Nat) : Int) = V.int 0) = false := decide_eq_false (by rw [hl]; intro q; have := V.int.inj q; omega)
        cases hst : h.isStr with
        | false =>
          refine q_when (b := true) (et_is (et_or (a := false) (b := true) (et_is (et_not (et_B (ev_isSeq (ev_var rfl) hw))) (by rw [hq]; rfl)) fun _ => et_is (et_or (a := false) (b := true) (et_is (et_test (ev_op (ev_lenQ (ev_var rfl) hsq) ev_c (rv_eq rfl))) e12) fun _ =>
            et_is (et_not (et_B (ev_isStr (ev0 (Ex.refl _)) hu))) (by rw [hst]; rfl)) rfl) rfl) (fun _ H1 e1 => ?_) fun z => nomatch z
          refine s_ret (ev_is ev_c ?_) fun H2 e2 => k H2 (e1.trans e2)
          cases h with
          | str s => cases hst
          | _ => rfl
        | true =>
          obtain ⟨s, rfl⟩ : ∃ s, h = .str s := by
            cases h with
            | str s => exact ⟨s, rfl⟩
            | _ => cases hst
          obtain rfl : u = .str s := hu
          refine q_when (b := false) (et_is (et_or (a := false) (b := false) (et_is (et_not (et_B (ev_isSeq (ev_var rfl) hw))) (by rw [hq]; rfl)) fun _ => et_is (et_or (a := false) (b := false) (et_is (et_test (ev_op (ev_lenQ (ev_var rfl) hsq) ev_c (rv_eq rfl))) e12) fun _ =>
            et_is (et_not (et_B (ev_isStr (o := .str s) (ev0 (Ex.refl _)) rfl))) rfl) rfl) rfl) (fun z => nomatch z) fun _ H1 e1 => ?_
          refine q_when (b := true) (et_test (ev_isN (ev_var rfl) rfl)) (fun _ H2 e2 => ?_) (fun z => nomatch z)
          refine s_ret (ev_is (ev_andV (ev_op (ev_lenQ (ev_var rfl) (hsq.ext (e1.trans e2))) (ev_op ev_c ev_c rv_I0) rv_I0) fun _ => ev_call (ea_cons (ev0 (e1.trans e2)) ea_nil) (spv_S (str_ss hh))) ?_) fun H3 e3 => k H3 ((e1.trans e2).trans e3)
          show V.bl (decide ((((V.str s :: us').length : Nat) : Int) ≤ 6 + 1) && nameB s) = V.bl (decide (as.length ≤ 6) && nameB s)
          have e : decide ((((V.str s :: us').length : Nat) : Int) ≤ 6 + 1) = decide (as.length ≤ 6) := by
            by_cases q : as.length ≤ 6
            · rw [decide_eq_true q, decide_eq_true (by rw [show (V.str s :: us').length = us'.length + 1 from rfl]; omega)]
            · rw [decide_eq_false q, decide_eq_false (by rw [show (V.str s :: us').length = us'.length + 1 from rfl]; omega)]
          rw [e]
end
end K02

set_option Elab.async false
set_option linter.all false
set_option maxRecDepth 100000
set_option maxHeartbeats 4000000
/-! Words fit, further. -/
namespace K02
open PySem PySem.Spec PyProof.Rows L2 Evl
section
variable {P : Program} {w : World} {K : PySem.W.Frag} {mg : Str → Option Value} {base : Heap}
def spFit : Sp := fun vs H Q _ => ∃ (a : Addr) (b : Bool) (us : List V) (os : List O), vs = [.ref a, .non, .non] ∧ SqB H b a us ∧ OVs H us os ∧ O.sss os = true ∧ O.szs os ≤ 9000 ∧ RetV (.bl (O.fits os)) H Q
abbrev nFit : List Str := ["words", "functions", "scope", "stood", "work", "part"]
theorem sc_fit : FnScope nFit ["words", "functions", "scope"] (defScope s_words_fit) := ⟨rfl, rfl, rfl, by decide +kernel, rfl, by decide +kernel, by decide +kernel⟩
theorem ok_words_fit (T : T02 P w K mg base) : Ok P w K mg base CX0 "words_fit" ["words", "functions", "scope"] 4 spFit := by
  obtain ⟨fN, dN, GN, bN, kN, mN⟩ := (ok_has_places T).ex
  obtain ⟨fV, dV, GV, bV, kV', mV⟩ := (ok_is_variable T).ex
  refine T.ok 12 rfl sc_fit (fun vs H Q E h => ?_) (fun kV doc pm an cdv ct us hl => match us, hl with | [_, _, _], _ => rfl) (fun f cdv A outer s H vs Q E hr h => ?_)
  · obtain ⟨a, b, us, os, rfl, _⟩ := h
    rfl
  · obtain ⟨a, b, us, os, rfl, ha, hov, hss, hz, k⟩ := h
    refine ⟨_, pss_cons (ps_set (i := 3) sc_fit.nd rfl (Or.inl rfl) pe_dnewK)
      (pss_cons (ps_set (i := 4) sc_fit.nd rfl (Or.inl rfl) (pe_callTy call_list_of (by rfl) T.list PyProof.Rows.boot_list (pa_cons (pv 0) pa_nil)))
      (pss_cons (ps_while PassesOwn.never (pt_truth (pv 4) (by intro _; rfl))
        (pss_cons (ps_set (i := 5) sc_fit.nd rfl (Or.inl rfl) (pe_bm0 PySem.F.plainAttrs_list PySem.F.slot_list_pop PySem.F.type_list_pop mt_pop (pv 4)))
        (pss_one (ps_if (pt_not (pt_val (pe_isiB T.isi T.str PyProof.Rows.boot_str (pv 5))))
          (pss_cons (ps_if (pt_not (pt_val (pe_call GN hr (by rfl) mN kN bN .nil pass0 (pa_cons (pv 5) (pa_cons (pv 1) pa_nil))))) (pss_one (ps_ret pe_bl)) pss_nil)
            (pss_one (ps_expr (pe_bm PySem.F.plainAttrs_list PySem.F.slot_list_extend PySem.F.type_list_extend mt_extQ (pv 4) (pa_cons (pe_slice sl_seq (pv 5) (po_some pe_int) po_none) pa_nil)))))
          (pss_one (ps_if (pt_cmp (pc_dnotin (hu_of hr) (pv 5) (pv 3)))
            (pss_cons (ps_if (PW.pt (pw_or (pt_not (pt_val (pe_call GV (hr.mono (by decide)) (by rfl) mV kV' bV .nil pass0 (pa_cons (pv 5) pa_nil)))) (pw_or1 (PW.pt (pw_and (pt_cmp (pc_notN (pv 2))) (pw_and1 (pt_cmp (pc_dnotin (hu_of hr) (pv 5) (pv 2))))))))) (pss_one (ps_ret pe_bl)) pss_nil)
              (pss_one (ps_dput (hu_of hr) (pv 3) (pv 5) pe_bl rfl))) pss_nil))))))
      (pss_one (ps_ret pe_bl)))), ?_⟩
    intro d hd
    have e0 : Ex H (upd H d (.dK [])) := Ex.new hd
    refine q_asgL (el_listQ (ev_var rfl) (ha.ext e0)) fun p H1 hp e1 h1 => ?_
    have hp0 : H p = none := fresh_back e0 hp
    have hpd : p ≠ d := fun z => by
      rw [z, upd_same] at hp
      cases hp
    refine q_while (fun m σ' H' => ∃ (xs : List V) (ts : List O) (kvs : List (Key × V)) (o : Option V), σ' = [some (.ref a), some .non, some .non, some (.ref d), some (.ref p), o] ∧ Ex H H' ∧ H' p = some (.lst xs) ∧ H' d = some (.dK kvs) ∧ OVs H xs ts ∧ m = O.szs ts ∧ kvs.length + m ≤ 9000 ∧ O.sss ts = true ∧
        (∀ q ∈ kvs, ∃ s, q.1 = Sum.inr s ∧ varB s = true) ∧ O.fits ts = O.fits os) (O.szs os)
      ⟨us, os, [], none, rfl, e0.trans e1, h1, e1 _ _ upd_same, hov, rfl, by simpa using hz, hss, (fun q hq => absurd hq (by simp)), rfl⟩ ?_
    rintro m σ' H' ⟨xs, ts, kvs, o, rfl, e2, h2, h2d, tv, hm, hm2, hss', hkv, hres⟩
    refine ⟨!xs.isEmpty, et_truL (ev_var rfl) (SqL.of h2), fun hb H3 e3 => ?_, fun hb H3 e3 => ?_⟩
    · rcases List.eq_nil_or_concat ts with ht | ⟨ts', t, ht⟩
      · subst ht
        rw [show xs = [] from tv] at hb
        exact absurd hb (by decide)
      rw [List.concat_eq_append] at ht
      subst ht
      obtain ⟨us', x, rfl, tv1, tvx⟩ := OVs.snoc tv
      have hsum := O.szs_app ts' [t]
      have hs1 : O.szs [t] = t.sz := by simp [O.szs]
      have hlen := O.len_szs ts'
      have hle := tv1.length
      have tp := t.sz_pos
      rw [fits_app, show O.fits [t] = t.fit by simp [O.fits]] at hres
      rw [sss_app, show O.sss [t] = t.ss by simp [O.sss]] at hss'
      obtain ⟨hs1', hs2'⟩ := Bool.and_eq_true_iff.mp hss'
      refine ⟨fun σ2 H2 => ∃ m', m' < m ∧ ∃ (xs : List V) (ts : List O) (kvs : List (Key × V)) (o : Option V), σ2 = [some (.ref a), some .non, some .non, some (.ref d), some (.ref p), o] ∧ Ex H H2 ∧ H2 p = some (.lst xs) ∧ H2 d = some (.dK kvs) ∧ OVs H xs ts ∧ m' = O.szs ts ∧ kvs.length + m' ≤ 9000 ∧ O.sss ts = true ∧
        (∀ q ∈ kvs, ∃ s, q.1 = Sum.inr s ∧ varB s = true) ∧ O.fits ts = O.fits os, fun σ2 H2 z => z, ?_⟩
      refine q_pop (e3 _ _ h2) (ev_var rfl) fun H4 e4 => ?_
      have e5 : Ex H (upd H4 p (.lst us')) := Ex.mut ((e2.trans e3).trans e4) hp0
      have h5d : (upd H4 p (.lst us')) d = some (.dK kvs) := by
        rw [upd_ne hpd.symm]
        exact e4 _ _ (e3 _ _ h2d)
      have tvx5 := tvx.ext e5
      refine s_if (b := !t.isStr) (et_not (et_B (ev_isStr (ev_var rfl) tvx5))) (fun hS H5 e6 => ?_) fun hS H5 e6 => ?_
      · have hns : t.isStr = false := by simpa using hS
        refine q_when (b := !t.placesB) (et_not (et_B (ev_call (ea_cons (ev_var rfl) (ea_cons (ev_var rfl) ea_nil)) (spv_pl (tvx5.ext e6) hs2')))) (fun hP H6 e7 => ?_) fun hP H6 e7 => ?_
        · have hnp : t.placesB = false := by simpa using hP
          refine s_ret (ev_is ev_c ?_) fun G e8 => k G (((e5.trans e6).trans e7).trans e8)
          have hf : t.fit = false := by
            cases t with
            | lst xs =>
              cases xs with
              | nil => rfl
              | cons h as => show (headB h as.length && O.fits as) = false; rw [show headB h as.length = false from hnp]; rfl
            | tup xs =>
              cases xs with
              | nil => rfl
              | cons h as => show (headB h as.length && O.fits as) = false; rw [show headB h as.length = false from hnp]; rfl
            | str s => cases hns
            | _ => rfl
          rw [← hres, hf, Bool.and_false]
        · have hp1 : t.placesB = true := by simpa using hP
          obtain ⟨b2, ys, rfl⟩ : ∃ b ys, t = O.seq b ys := by
            cases t with
            | lst xs => exact ⟨true, xs, rfl⟩
            | tup xs => exact ⟨false, xs, rfl⟩
            | _ => cases hp1
          rw [seq_places] at hp1
          rw [seq_ss] at hs2'
          rw [seq_fit] at hres
          rw [O.seq_sz] at hs1
          obtain ⟨r, as, rfl, hr', hya⟩ := tvx.seq
          match ys, hp1, hya, hs2', hres, hs1 with
          | hd1 :: tl1, hp1, ⟨u, us2, e0', hu, has⟩, hs2', hres, hs1 =>
            subst e0'
            have hh1 : headB hd1 tl1.length = true := hp1
            have hres2 : (O.fits ts' && O.fits tl1) = O.fits os := by
              rw [← hres]
              show _ = (O.fits ts' && (headB hd1 tl1.length && O.fits tl1))
              rw [hh1, Bool.true_and]
            have hsz2 : O.szs (hd1 :: tl1) = hd1.sz + O.szs tl1 := rfl
            have hdp := hd1.sz_pos
            have hal := has.length
            have hlt := O.len_szs tl1
            have e8 := (e5.trans e6).trans e7
            have hr8 : SqB H6 b2 r (u :: us2) := e8 _ _ hr'
            refine s_extQ ((e6.trans e7) _ _ upd_same) (ev_var rfl) (eq_tail (ev_var rfl) hr8) (by omega) fun H7 e9 => ?_
            have e10 := (e6.trans e7).trans e9
            refine ⟨O.szs (ts' ++ tl1), by rw [O.szs_app]; omega, us' ++ us2, ts' ++ tl1, kvs, _, rfl, Ex.mut (e8.trans e9) hp0, upd_same, by rw [upd_ne hpd.symm]; exact e10 _ _ h5d, tv1.append has, rfl, by rw [O.szs_app]; omega, ?_, hkv, by rw [fits_app]; exact hres2⟩
            rw [sss_app, hs1', (Bool.and_eq_true_iff.mp hs2').2]
            rfl
      · have hst : t.isStr = true := by simpa using hS
        obtain ⟨s, rfl⟩ : ∃ s, t = .str s := by
          cases t with
          | str s => exact ⟨s, rfl⟩
          | _ => cases hst
        obtain rfl : x = .str s := tvx
        have hms : s ∈ SS := str_ss hs2'
        have hsz1 : (O.str s).sz = 1 := rfl
        refine s_when (b := !(valV kvs (Sum.inr s)).isSome) (et_B (ev_notInD (k := Sum.inr s) (ev_var rfl) (ev_var rfl) (e6 _ _ h5d))) (fun hN H6 e7 => ?_) fun hN H6 e7 => ?_
        · have hnone : valV kvs (Sum.inr s : Key) = none := by
            cases q : valV kvs (Sum.inr s : Key) with
            | none => rfl
            | some y => rw [q] at hN; cases hN
          refine q_when (b := !varB s) (et_is (et_or (b := false) (et_not (et_B (ev_call (ea_cons (ev_var rfl) ea_nil) (spv_S hms)))) fun _ => et_is (et_and (a := false) (b := false) (et_B (ev_notN (ev_var rfl) rfl)) fun z => nomatch z) rfl) (Bool.or_false _)) (fun hV H7 e8 => ?_) fun hV H7 e8 => ?_
          · have hv0 : varB s = false := by simpa using hV
            refine s_ret (ev_is ev_c ?_) fun G e9 => k G ((((e5.trans e6).trans e7).trans e8).trans e9)
            rw [← hres, show (O.str s).fit = varB s from rfl, hv0, Bool.and_false]
          · have hv1 : varB s = true := by simpa using hV
            have e9 := (e6.trans e7).trans e8
            refine s_dput (k := Sum.inr s) (e9 _ _ h5d) ev_c (ev_var rfl) (ev_var rfl) (by omega) fun H8 e10 => ?_
            rw [putK_new hnone]
            refine ⟨O.szs ts', by omega, us', ts', _, _, rfl, Ex.mut ((e5.trans e9).trans e10) hd, ?_, upd_same, tv1, rfl, by rw [List.length_append, List.length_singleton]; omega, hs1', fun q hq => ?_, ?_⟩
            · rw [upd_ne hpd]
              exact e10 _ _ (e9 _ _ upd_same)
            · rcases List.mem_append.mp hq with hq | hq
              · exact hkv q hq
              · obtain rfl : q = (Sum.inr s, V.bl true) := by simpa using hq
                exact ⟨s, rfl, hv1⟩
            · rw [← hres, show (O.str s).fit = varB s from rfl, hv1, Bool.and_true]
        · have hsome : (valV kvs (Sum.inr s : Key)).isSome = true := by
            cases q : valV kvs (Sum.inr s : Key) with
            | none => rw [q] at hN; cases hN
            | some y => rfl
          obtain ⟨v, hv⟩ := valV_mem hsome
          obtain ⟨s', es, hv1⟩ := hkv _ hv
          obtain rfl : s = s' := Sum.inr.inj es
          refine ⟨O.szs ts', by omega, us', ts', kvs, _, rfl, (e5.trans e6).trans e7, (e6.trans e7) _ _ upd_same, (e6.trans e7) _ _ h5d, tv1, rfl, by omega, hs1', hkv, ?_⟩
          rw [← hres, show (O.str s).fit = varB s from rfl, hv1, Bool.and_true]
    · have hx : xs = [] := by
        cases xs with
        | nil => rfl
        | cons _ _ => cases hb
      have ht : ts = [] := by
        have := tv.length
        rw [hx] at this
        exact List.length_eq_zero_iff.mp this.symm
      rw [ht] at hres
      refine s_ret (ev_is ev_c ?_) fun H4 e4 => k H4 ((e2.trans e3).trans e4)
      rw [← hres]
      rfl
end
end K02

set_option Elab.async false
set_option linter.all false
set_option maxRecDepth 100000
set_option maxHeartbeats 4000000
/-! Atoms fit; an own error raised. -/
namespace K02
open PySem PySem.Spec PyProof.Rows L2 Evl
def eqL : List O → Bool
  | [.str s, _, _] => s == "="
  | _ => false
def O.eqB : O → Bool
  | .lst xs => eqL xs
  | .tup xs => eqL xs
  | _ => false
/-- of three things the first is a text -/
def e3L : List O → Bool
  | [h, _, _] => h.isStr
  | _ => true
def O.e3 : O → Bool
  | .lst xs => e3L xs
  | .tup xs => e3L xs
  | _ => true
def tailL : List O → Bool
  | [] => false
  | _ :: as => O.fits as
def O.fitA : O → Bool
  | .lst xs => (eqL xs || placesL xs) && tailL xs
  | .tup xs => (eqL xs || placesL xs) && tailL xs
  | _ => false
def O.fitW (o : O) : Bool := o.fit || o.fitA
theorem seq_eqB (b : Bool) (xs : List O) : (O.seq b xs).eqB = eqL xs := by cases b <;> rfl
theorem seq_e3 (b : Bool) (xs : List O) : (O.seq b xs).e3 = e3L xs := by cases b <;> rfl
theorem seq_fitA (b : Bool) (xs : List O) : (O.seq b xs).fitA = ((eqL xs || placesL xs) && tailL xs) := by cases b <;> rfl
theorem head_nod {h : O} {n : Nat} (k : headB h n = true) : h.nod = true := by
  cases h with
  | str s => rfl
  | _ => cases k
mutual
theorem fit_nod : ∀ {o : O}, o.fit = true → o.nod = true
  | .str _, _ => rfl
  | .lst xs, h => fitL_nod (xs := xs) h
  | .tup xs, h => fitL_nod (xs := xs) h
  | .non, h => nomatch h
  | .bl _, h => nomatch h
  | .int _, h => nomatch h
  | .dct, h => nomatch h
theorem fitL_nod : ∀ {xs : List O}, O.fitL xs = true → O.nods xs = true
  | [], h => nomatch h
  | h :: as, k => by
    obtain ⟨a, b⟩ := Bool.and_eq_true_iff.mp k
    show (h.nod && O.nods as) = true
    rw [head_nod a, fits_nod b]
    rfl
theorem fits_nod : ∀ {xs : List O}, O.fits xs = true → O.nods xs = true
  | [], _ => rfl
  | x :: xs, k => by
    obtain ⟨a, b⟩ := Bool.and_eq_true_iff.mp k
    show (x.nod && O.nods xs) = true
    rw [fit_nod a, fits_nod b]
    rfl
end
theorem fitA_nodL {xs : List O} (k : ((eqL xs || placesL xs) && tailL xs) = true) : O.nods xs = true := by
  obtain ⟨a, b⟩ := Bool.and_eq_true_iff.mp k
  match xs, a, b with
  | h :: as, a, b =>
    have hh : h.nod = true := by
      rcases Bool.or_eq_true_iff.mp a with q | q
      · cases h with
        | str s => rfl
        | _ => cases q
      · exact head_nod q
    show (h.nod && O.nods as) = true
    rw [hh, fits_nod (show O.fits as = true from b)]
    rfl
theorem fitW_nod {o : O} (h : o.fitW = true) : o.nod = true := by
  rcases Bool.or_eq_true_iff.mp h with q | q
  · exact fit_nod q
  · cases o with
    | lst xs => exact fitA_nodL q
    | tup xs => exact fitA_nodL q
    | _ => cases q
section
variable {K : PySem.W.Frag} {σ : L2.St} {H G : Hp} {te ta tb : TE} {v : V} {D : Ends} {tz : TS}
/-- a call with a new list or tuple ahead -/
theorem ev_callNQ {sp : Sp} {vs dvs xs : List V} {E : XK} {tr : TA} {z : V} (h : EvQ te σ H xs) (hr : EvA tr σ H vs) (hp : ∀ b p H1, Ex H H1 → SqB H1 b p xs → SpV sp ((.ref p :: vs) ++ dvs) H1 z) : Ev (tCall sp dvs E (tCons te tr)) σ H z := fun H1 e Q q =>
  h H1 e _ fun b p H2 _ e2 h2 => hr H2 (e.trans e2) _ fun H3 e3 => hp b p H3 ((e.trans e2).trans e3) (h2.ext e3) H3 (Ex.refl _) Q (fun H4 e4 => q H4 ((e2.trans e3).trans e4)) E
end
section
variable {P : Program} {w : World} {K : PySem.W.Frag} {mg : Str → Option Value} {base : Heap}
def spF (n : Nat) (f : O → Bool) : Sp := fun vs H Q _ => ∃ v o, vs = v :: List.replicate n .non ∧ OV H v o ∧ o.ss = true ∧ o.sz ≤ 8000 ∧ o.e3 = true ∧ RetV (.bl (f o)) H Q
theorem spF_len {n : Nat} {f : O → Bool} {vs : List V} {H : Hp} {Q : VK} {E : XK} (h : spF n f vs H Q E) : vs.length = n + 1 := by
  obtain ⟨v, o, rfl, _⟩ := h
  simp
theorem sc_eq : FnScope ["thing"] ["thing"] (defScope s_is_equality) := ⟨rfl, rfl, rfl, by decide +kernel, rfl, by decide +kernel, by decide +kernel⟩
theorem ok_is_equality (T : T02 P w K mg base) : Ok P w K mg base CX0 "is_equality" ["thing"] 2 (spF 0 O.eqB) := by
  obtain ⟨fL, dL, GL, bL, kL, mL⟩ := (ok_is_list T).ex
  refine T.ok 13 rfl sc_eq (fun vs H Q E h => spF_len h) (fun kV doc pm an cdv ct us hl => match us, hl with | [_], _ => rfl) (fun f cdv A outer s H vs Q E hr h => ?_)
  obtain ⟨v, z, rfl, hw, hss, hz, he3, k⟩ := h
  refine ⟨_, pss_one (ps_ret (pe_and (pe_call GL hr (by rfl) mL kL bL .nil pass0 (pa_cons (pv 0) pa_nil)) (pe_and (pe_cmpR op_eq (pe_callB call_len (by rfl) T.len PySem.boot_len (pa_cons (pv 0) pa_nil)) pe_int (nomark _)) (pe_one (pe_cmpR op_eq (pe_ix ix_seq (pv 0) pe_int (fun _ _ => rfl)) pe_str (nomark _)))))), ?_⟩
  cases hq : z.isLst || z.isTup with
  | false =>
    refine s_ret (ev_is (ev_andV (a := false) (b := false) (ev_is (ev_call (ea_cons (ev_var rfl) ea_nil) (spv_B hw)) (by rw [hq])) fun z => nomatch z) ?_) k
    cases z with
    | lst xs => cases hq
    | tup xs => cases hq
    | _ => rfl
  | true =>
    obtain ⟨b, xs, rfl⟩ := O.seq_of hq
    obtain ⟨a, us, rfl, ha, hov⟩ := hw.seq
    have hsq : SqB H b a us := ha
    rw [seq_eqB] at k
    rw [seq_e3] at he3
    have hul := hov.length
    by_cases h3 : xs.length = 3
    · match xs, h3, hov, he3, k, hul with
      | [h, x, y], h3, ⟨u, us', e0, hu, has⟩, he3, k, hul =>
        subst e0
        obtain ⟨s, rfl⟩ : ∃ s, h = .str s := by
          cases h with
          | str s => exact ⟨s, rfl⟩
          | _ => cases he3
        obtain rfl : u = .str s := hu
        refine s_ret (ev_is (ev_andV (a := true) (ev_is (ev_call (ea_cons (ev_var rfl) ea_nil) (spv_B hw)) (by rw [hq])) fun _ => ev_andV (a := true) (ev_is (ev_op (ev_lenQ (ev_var rfl) hsq) ev_c (rv_eq rfl)) (congrArg V.bl (decide_eq_true (by rw [hul]; rfl)))) fun _ => ev_op (ev_op (ev_var rfl) ev_c (rv_ixQ hsq (atI_nat (j := 0) rfl))) ev_c (rv_eq rfl)) ?_) k
        show V.bl (true && (true && decide (V.str s = V.str "="))) = V.bl (s == "=")
        by_cases q : s = "="
        · subst q
          rfl
        · rw [decide_eq_false (fun z => q (V.str.inj z)), beq_eq_false_iff_ne.mpr q]
          rfl
    · refine s_ret (ev_is (ev_andV (a := true) (b := false) (ev_is (ev_call (ea_cons (ev_var rfl) ea_nil) (spv_B hw)) (by rw [hq])) fun _ => ev_is (ev_andV (a := false) (b := false) (ev_is (ev_op (ev_lenQ (ev_var rfl) hsq) ev_c (rv_eq rfl)) (congrArg V.bl (decide_eq_false (by rw [hul]; intro q; exact h3 (by have := V.int.inj q; omega))))) fun z => nomatch z) rfl) ?_) k
      have e : eqL xs = false := by
        unfold eqL
        split
        · exact absurd rfl h3
        · rfl
      rw [e]
      rfl
theorem spv_F0 {f : O → Bool} {v : V} {o : O} {H : Hp} (h : OV H v o) (hs : o.ss = true) (hz : o.sz ≤ 8000) (h3 : o.e3 = true) : SpV (spF 0 f) ([v] ++ []) H (.bl (f o)) := fun H1 e Q q E => ⟨v, o, rfl, h.ext e, hs, hz, h3, q⟩
theorem sc_af : FnScope ["thing", "functions", "predicates", "scope"] ["thing", "functions", "predicates", "scope"] (defScope s_atom_fits) := ⟨rfl, rfl, rfl, by decide +kernel, rfl, by decide +kernel, by decide +kernel⟩
theorem ok_atom_fits (T : T02 P w K mg base) : Ok P w K mg base CX0 "atom_fits" ["thing", "functions", "predicates", "scope"] 5 (spF 3 O.fitA) := by
  obtain ⟨fE, dE, GE, bE, kE, mE⟩ := (ok_is_equality T).ex
  obtain ⟨fP, dP, GP, bP, kP, mP⟩ := (ok_has_places T).ex
  obtain ⟨fN, dN, GN, bN, kN, mN⟩ := (ok_words_fit T).ex
  refine T.ok 14 rfl sc_af (fun vs H Q E h => spF_len h) (fun kV doc pm an cdv ct us hl => match us, hl with | [_, _, _, _], _ => rfl) (fun f cdv A outer s H vs Q E hr h => ?_)
  obtain ⟨v, z, rfl, hw, hss, hz, he3, k⟩ := h
  refine ⟨_, pss_one (ps_ret (pe_and (pe_or (pe_call GE (hr.mono (by decide)) (by rfl) mE kE bE .nil pass0 (pa_cons (pv 0) pa_nil)) (pe_one (pe_call GP (hr.mono (by decide)) (by rfl) mP kP bP .nil pass0 (pa_cons (pv 0) (pa_cons (pv 2) pa_nil)))))
    (pe_one (pe_call GN hr (by rfl) mN kN bN .nil pass0 (pa_cons (pe_slice sl_seq (pv 0) (po_some pe_int) po_none) (pa_cons (pv 1) (pa_cons (pv 3) pa_nil))))))), ?_⟩
  have hor : Ev (tOrV (tCall (spF 0 O.eqB) [] E0 (tCons (tVar 0) tNil)) (tCall spPl [] E0 (tCons (tVar 0) (tCons (tVar 2) tNil)))) (L2.start ["thing", "functions", "predicates", "scope"] (v :: List.replicate 3 .non)) H (.bl (z.eqB || z.placesB)) :=
    ev_orV (ev_call (ea_cons (ev_var rfl) ea_nil) (spv_F0 hw hss hz he3)) fun _ => ev_call (ea_cons (ev_var rfl) (ea_cons (ev_var rfl) ea_nil)) (spv_pl hw hss)
  cases hb : z.eqB || z.placesB with
  | false =>
    rw [hb] at hor
    refine s_ret (ev_is (ev_andV (a := false) (b := false) hor fun z => nomatch z) ?_) k
    cases z with
    | lst xs => show V.bl false = V.bl ((eqL xs || placesL xs) && tailL xs); rw [show (eqL xs || placesL xs) = false from hb]; rfl
    | tup xs => show V.bl false = V.bl ((eqL xs || placesL xs) && tailL xs); rw [show (eqL xs || placesL xs) = false from hb]; rfl
    | _ => rfl
  | true =>
    rw [hb] at hor
    obtain ⟨b, xs, rfl⟩ : ∃ b xs, z = O.seq b xs := by
      cases z with
      | lst xs => exact ⟨true, xs, rfl⟩
      | tup xs => exact ⟨false, xs, rfl⟩
      | _ => cases hb
    obtain ⟨a, us, rfl, ha, hov⟩ := hw.seq
    have hsq : SqB H b a us := ha
    rw [seq_fitA] at k
    rw [seq_eqB, seq_places] at hb
    rw [seq_ss] at hss
    rw [O.seq_sz] at hz
    match xs, hov, hb, k, hss, hz with
    | h :: as, ⟨u, us', e0, hu, has⟩, hb, k, hss, hz =>
      subst e0
      have hsz : O.szs (h :: as) = h.sz + O.szs as := rfl
      refine s_ret (ev_is (ev_andV (a := true) hor fun _ => ev_callNQ (eq_tail (ev_var rfl) hsq) (ea_cons (ev_var rfl) (ea_cons (ev_var rfl) ea_nil)) fun b p H1 e1 h1 H2 e2 Q q E => ⟨p, b, us', as, rfl, h1.ext e2, has.ext (e1.trans e2), (Bool.and_eq_true_iff.mp hss).2, by omega, q⟩) ?_) k
      rw [hb]
      rfl
end
end K02

set_option Elab.async false
set_option linter.all false
set_option maxRecDepth 100000
set_option maxHeartbeats 4000000
/-! An own error raised; checked words. -/
namespace K02
open PySem PySem.Spec PyProof.Rows L2 Evl
/-- what __init__ leaves of a new error -/
def spI (K : PySem.W.Frag) (z : Str) : Sp := fun vs H Q _ => ∃ (a C : Addr) (x : V), vs = [.ref a, x] ∧ OexC K C ∧ PySem.W.findIn K (.ref C) z = some none ∧ H a = some (exo a C none) ∧
  ∀ d, H d = none → d ≠ a → Q .non (upd (upd H d (exd d [(z, x)])) a (exo a C (some d)))
section
variable {P : Program} {w : World} {K : PySem.W.Frag} {mg : Str → Option Value} {base : Heap} {qual : Str} {params : Arguments} {scope : Scope} {fI : Addr} {fd : FuncData} {p1 p2 p3 p4 : Pos}
theorem vis_of {N ps : List Str} {sc : Scope} (S : FnScope N ps sc) {x : Str} (h : x ∈ ps) : Vis sc x := by
  rcases S.par x h with q | q
  · exact .inl q
  · exact .inr (.inl q)
theorem ok_init {z : Str} (z1 : (z == ("__debug__" : Str)) = false) (z2 : (z == ("__classdict__" : Str)) = false) (F : FunD K "__init__" qual params [.Assign [.Attribute (.Name "self" p1) z p2] (.Name z p3) p4] scope [] [] fI fd) (S : FnScope ["self", z] ["self", z] scope) : FnOk P w K mg base CX0 1 fI fd ["self", z] (spI K z) := by
  refine F.ok S (fun vs H Q E hs => ?_) (fun cdv A outer s H vs Q E hr hs => ?_)
  · obtain ⟨a, C, x, rfl, _⟩ := hs
    rfl
  · obtain ⟨a, C, x, rfl, T, hno, ha, k⟩ := hs
    refine ⟨_, PSs.nox (pss_one (ps_ost (pe_var (i := 0) rfl (vis_of S (by simp))) (pe_var (i := 1) rfl (vis_of S (by simp)) z1 z2))), ?_⟩
    exact ⟨_, rfl, _, rfl, a, C, rfl, T, hno, .inl ⟨ha, fun dx n ne => k dx n ne⟩⟩
end
/-- raise x(e) -/
def tRz (K : PySem.W.Frag) (z : Str) (C : Addr) (W : WX) (te : TE) : TS := fun _ σ H => tMkO C (spI K z) [] (tCons te tNil) σ H fun cls d H' => W cls d σ H'
theorem ps_raiseE {X : Cx} {x z : Str} {W : WX} {a : Expr} {te : TE} {p pos pos2 : Pos} (hc : X.calm = true) (T : ErrC X.prog X.w X.K X.mg X.base x z) (tk : Takes X W) (hr : Room 2 X.A) (ha : PE X a te) (hg : Gl X x := by rfl)
    (hdb : (x == ("__debug__" : Str)) = false := by decide) (he : starEach (a :: []) X.env = (false, eval a X.env) :: starEach [] X.env := by rfl) (hpl : (backTo pos (starEach [] X.env)).any (·.1) = false := by rfl) :
    PS X (.Raise (some (.Call (.Name x p) [a] [] pos)) none pos2) (tRz X.K z (He.ga X.K x) W te) := by
  obtain ⟨fI, fd, p1, p2, p3, p4, params, scope, qual, iC, tI, F, S, B⟩ := T.ini
  have G1 := ok_init (P := X.prog) (w := X.w) (mg := X.mg) (base := X.base) T.z1 T.z2 F S
  exact ps_raise hc tk (pmk_oex T.oex iC tI G1 hr B .nil pass0 hg T.gl (pa_cons ha pa_nil he) hdb he hpl)
theorem s_raise {P : Program} {w : World} {K : PySem.W.Frag} {mg : Str → Option Value} {base : Heap} {x z : Str} {σ : L2.St} {H : Hp} {te : TE} {v : V} {W : WX} {D : Ends} (T : ErrC P w K mg base x z) (h : Ev te σ H v)
    (q : ∀ (d : Addr) (G : Hp), Ex H G → G d = some (.xd [(z, v)]) → W (.ref (He.ga K x)) (some d) σ G) : tRz K z (He.ga K x) W te D σ H :=
  h H (Ex.refl H) _ fun H1 e1 => ⟨by show 1 ≤ 1000; decide, fun a na => ⟨a, _, v, rfl, T.oex, T.no, upd_same, fun d nd ne => ⟨rfl, d, [(z, v)], upd_same, by rw [upd_ne ne, upd_same], by
    rw [upd_ne ne] at nd
    exact nd, q d _ (fun b o e => by
      rw [upd_ne ne] at nd
      have e2 := e1 _ _ e
      have nbd : b ≠ d := ne_of_none e2 nd
      have nba : b ≠ a := ne_of_none e2 na
      rw [upd_ne nbd, del_ne nba, upd_ne nba, upd_ne nbd, upd_ne nba]
      exact e2) upd_same⟩⟩⟩
/-- a word or an atom, all in it known -/
structure Rd (H : Hp) (v : V) (o : O) : Prop where
  ov : OV H v o
  ss : o.ss = true
  sz : o.sz ≤ 8000
  e3 : o.e3 = true
theorem Rd.ext {H G : Hp} {v : V} {o : O} (e : Ex H G) (h : Rd H v o) : Rd G v o := ⟨h.ov.ext e, h.ss, h.sz, h.e3⟩
section
variable {P : Program} {w : World} {K : PySem.W.Frag} {mg : Str → Option Value} {base : Heap}
/-- an error that keeps v -/
def BadZ (K : PySem.W.Frag) (x z : Str) (v : V) (H : Hp) (E : XK) : Prop := ∀ (d : Addr) (G : Hp), Ex H G → G d = some (.xd [(z, v)]) → E (.ref (He.ga K x)) (some d) G
theorem BadZ.mono {x z : Str} {v : V} {H G : Hp} {E : XK} (h : BadZ K x z v H E) (e : Ex H G) : BadZ K x z v G E := fun d G2 e2 hd => h d G2 (e.trans e2) hd
abbrev Bad (K : PySem.W.Frag) (x : Str) (v : V) (H : Hp) (E : XK) : Prop := BadZ K x "thing" v H E
def spCw (K : PySem.W.Frag) : Sp := fun vs H Q E => ∃ v o, vs = [v] ∧ Rd H v o ∧ (o.fitW = true → ∀ (u : V) (G : Hp), Ex H G → OV G u o.strip → Q u G) ∧ (o.fitW = false → Bad K "BadWord" v H E)
end
end K02

set_option Elab.async false
set_option linter.all false
set_option maxRecDepth 100000
set_option maxHeartbeats 4000000
/-! Right words as trees; places in them. -/
namespace K02
open PySem PySem.Spec PyProof.Rows L2 Evl
inductive W where
  | v (s : Str) | n (s : Str) (as : List W)
mutual
def W.o : W → O
  | .v s => .str s
  | .n s as => .tup (.str s :: W.os as)
def W.os : List W → List O
  | [] => []
  | x :: xs => x.o :: W.os xs
end
mutual
def W.dp : W → Nat
  | .v _ => 0
  | .n _ as => W.dps as + 1
def W.dps : List W → Nat
  | [] => 0
  | x :: xs => max x.dp (W.dps xs)
end
mutual
def W.sz : W → Nat
  | .v _ => 1
  | .n _ as => W.szs as + 2
def W.szs : List W → Nat
  | [] => 0
  | x :: xs => x.sz + W.szs xs
end
def WV (H : Hp) (u : V) (w : W) : Prop := OV H u w.o
def WVs (H : Hp) (us : List V) (ws : List W) : Prop := OVs H us (W.os ws)
mutual
theorem W.noL : ∀ w : W, w.o.hasL = false
  | .v _ => rfl
  | .n _ as => by show (false || O.hasLs (W.os as)) = false; rw [W.noLs as]; rfl
theorem W.noLs : ∀ ws : List W, O.hasLs (W.os ws) = false
  | [] => rfl
  | x :: xs => by show (x.o.hasL || O.hasLs (W.os xs)) = false; rw [W.noL x, W.noLs xs]; rfl
end
mutual
theorem W.nod : ∀ w : W, w.o.nod = true
  | .v _ => rfl
  | .n _ as => by show (true && O.nods (W.os as)) = true; rw [W.nods as]; rfl
theorem W.nods : ∀ ws : List W, O.nods (W.os ws) = true
  | [] => rfl
  | x :: xs => by show (x.o.nod && O.nods (W.os xs)) = true; rw [W.nod x, W.nods xs]; rfl
end
mutual
theorem W.osz : ∀ w : W, w.o.sz = w.sz
  | .v _ => rfl
  | .n _ as => by show (1 + O.szs (W.os as)) + 1 = W.szs as + 2; rw [W.oszs as]; omega
theorem W.oszs : ∀ ws : List W, O.szs (W.os ws) = W.szs ws
  | [] => rfl
  | x :: xs => by show x.o.sz + O.szs (W.os xs) = x.sz + W.szs xs; rw [W.osz x, W.oszs xs]
end
theorem W.os_map : ∀ ws : List W, W.os ws = ws.map W.o
  | [] => rfl
  | x :: xs => congrArg (x.o :: ·) (W.os_map xs)
section
variable {H G : Hp} {u : V} {w : W}
theorem WV.tx (e : Tx H G) (h : WV H u w) : WV G u w := OV.tx e w.noL w.nod h
theorem WV.ext (e : Ex H G) (h : WV H u w) : WV G u w := OV.ext e h
theorem WVs.tx {us : List V} {ws : List W} (e : Tx H G) (h : WVs H us ws) : WVs G us ws := OVs.tx e (W.noLs ws) (W.nods ws) h
theorem WVs.ext {us : List V} {ws : List W} (e : Ex H G) (h : WVs H us ws) : WVs G us ws := OVs.ext e h
theorem WVs.length {us : List V} {ws : List W} (h : WVs H us ws) : us.length = ws.length := by
  rw [OVs.length h, W.os_map, List.length_map]
theorem WVs.get {us : List V} {ws : List W} {i : Nat} {x : W} (h : WVs H us ws) (e : ws[i]? = some x) : ∃ v, us[i]? = some v ∧ WV H v x :=
  OVs.geto h (by rw [W.os_map, List.getElem?_map, e]; rfl)
theorem WVs.getv {us : List V} {ws : List W} {i : Nat} {v : V} (h : WVs H us ws) (e : us[i]? = some v) : ∃ x, ws[i]? = some x ∧ WV H v x := by
  obtain ⟨o, a, b⟩ := OVs.get h e
  rw [W.os_map, List.getElem?_map] at a
  obtain ⟨x, hx, rfl⟩ := Option.map_eq_some_iff.mp a
  exact ⟨x, hx, b⟩
/-- what is no variable is a tuple: its name, its parts -/
theorem WV.tup {s : Str} {as : List W} (h : WV H u (.n s as)) : ∃ r us, u = .ref r ∧ H r = some (.tup (.str s :: us)) ∧ WVs H us as := by
  obtain ⟨r, vs, e, h1, v0, us, e2, h0, h2⟩ := h
  subst e2
  obtain rfl : v0 = .str s := h0
  exact ⟨r, us, e, h1, h2⟩
theorem WV.of {s : Str} {as : List W} {r : Addr} {us : List V} (h : H r = some (.tup (.str s :: us))) (k : WVs H us as) : WV H (.ref r) (.n s as) := ⟨r, _, rfl, h, _, _, rfl, rfl, k⟩
theorem WV.str {s : Str} (h : WV H u (.v s)) : u = .str s := h
end
theorem W.lt_dp : ∀ {as : List W} {i : Nat} {x : W}, as[i]? = some x → x.dp ≤ W.dps as
  | [], _, _, e => by simp at e
  | a :: as, 0, x, e => by
    obtain rfl : a = x := by simpa using e
    exact Nat.le_max_left _ _
  | a :: as, i + 1, x, e => Nat.le_trans (W.lt_dp (as := as) (i := i) (by simpa using e)) (Nat.le_max_right _ _)
theorem W.lt_sz : ∀ {as : List W} {i : Nat} {x : W}, as[i]? = some x → x.sz ≤ W.szs as
  | [], _, _, e => by simp at e
  | a :: as, 0, x, e => by
    obtain rfl : a = x := by simpa using e
    exact Nat.le_add_right _ _
  | a :: as, i + 1, x, e => Nat.le_trans (W.lt_sz (as := as) (i := i) (by simpa using e)) (Nat.le_add_left _ _)
/-- the part at a place -/
def W.at : W → List Nat → Option W
  | w, [] => some w
  | .v _, _ :: _ => none
  | .n _ as, i :: p => match as[i]? with
    | some x => x.at p
    | none => none
section
variable {K : PySem.W.Frag} {σ : L2.St} {H G : Hp} {te ta tb tl : TE} {v : V} {D : Ends} {tz tu : TS} {tt : TT}
/-- over a list or a tuple -/
abbrev iQ (K : PySem.W.Frag) (tl : TE) : TI := fun σ H R => iList K tl σ H R ∨ iTup K tl σ H R
theorem pi_or {X : Cx} {tg e : Expr} {i1 i2 : TI} (h1 : PI X tg e i1) (h2 : PI X tg e i2) : PI X tg e (fun σ H R => i1 σ H R ∨ i2 σ H R) :=
  ⟨fun pins s σ H R I h => h.elim (h1.run pins s σ H R I) (h2.run pins s σ H R I)⟩
theorem pi_seq {X : Cx} {tg l : Expr} (hl : PE X l tl) : PI X tg l (iQ X.K tl) := pi_or (pi_list hl) (pi_tup hl)
theorem q_forQ {b : Bool} {a : Addr} {xs : List V} {j : Nat} (h : Ev tl σ H (.ref a)) (hx : SqB H b a xs) (Pv : Nat → L2.St → Hp → Prop) (h0 : ∀ H1, Ex H H1 → Pv 0 σ H1) (hl : ∀ i σ' H', i ≤ xs.length → Pv i σ' H' → SqB H' b a xs)
    (hs : ∀ i x σ' H', xs[i]? = some x → Pv i σ' H' → tu { D with nx := Pv (i + 1), ct := Pv (i + 1), bk := tz D } (σ'.set j (some x)) H') (hd : ∀ σ' H', Pv xs.length σ' H' → tz D σ' H') : tSeq (tFor (iQ K tl) (gName j) tu) tz D σ H := by
  cases b with
  | true => exact .inl (q_forLn h (sq_of hx) Pv h0 (fun i σ' H' hi p => sq_of (hl i σ' H' hi p)) hs hd)
  | false => exact .inr (q_forT h (st_of hx) Pv h0 (fun i σ' H' hi p => st_of (hl i σ' H' hi p)) hs hd)
theorem el_lcQ {b : Bool} {a : Addr} {xs : List V} {j : Nat} {vs : List Nat} (f : Nat → Bool) (g : Nat → V) (h : Ev tl σ H (.ref a)) (hx : SqB H b a xs) (hz : xs.length ≤ 40000) (hw : ∀ x, wipe ((wipe σ vs).set j (some x)) vs = wipe σ vs)
    (ht : ∀ (i : Nat) (x : V) H1, Ex H H1 → xs[i]? = some x → EvT tt ((wipe σ vs).set j (some x)) H1 (f i)) (he : ∀ (i : Nat) (x : V) H1, Ex H H1 → xs[i]? = some x → f i = true → Ev te ((wipe σ vs).set j (some x)) H1 (g i)) :
    EvL (tLc (iQ K tl) (gName j) tt te vs) σ H (given xs.length f g) := by
  cases b with
  | true => exact fun H1 e Q q => .inl (el_lcL f g h (sq_of hx) hz hw ht he H1 e Q q)
  | false =>
    exact fun H0 e Q q => .inr (h H0 e _ fun H1 e1 => ⟨a, rfl, ⟨xs, ex_t (e.trans e1) (st_of hx)⟩, fun Dl hD =>
      lc_tup (xs := xs) (Cw H1 f g Dl) ⟨hD, Ex.new hD, upd_same⟩ (fun i H' _ p => ex_t ((e.trans e1).trans p.2.1) (st_of hx)) (fun i x H' hi p => ⟨hw x, cw_turn p (by have := (List.getElem?_eq_some_iff.mp hi).1; omega) (ht i x H1 (e.trans e1) hi) (fun hf => he i x H1 (e.trans e1) hi hf)⟩)
        (fun H' p => q Dl H' (fresh_back e1 p.1) (e1.trans p.2.1) p.2.2)⟩)
end
/-- numbers as they stand in a row -/
def nums (p : List Nat) : List V := p.map fun i : Nat => V.int (i : Nat)
theorem nums_len (p : List Nat) : (nums p).length = p.length := by simp [nums]
theorem nums_get {p : List Nat} {i : Nat} {x : V} (h : (nums p)[i]? = some x) : ∃ k, p[i]? = some k ∧ x = .int (k : Int) := by
  unfold nums at h
  rw [List.getElem?_map] at h
  obtain ⟨k, a, b⟩ := Option.map_eq_some_iff.mp h
  exact ⟨k, a, b.symm⟩
section
variable {P : Program} {w : World} {K : PySem.W.Frag} {mg : Str → Option Value} {base : Heap}
def optV (H : Hp) (u : V) : Option W → Prop
  | none => u = .non
  | some x => WV H u x
def spPa : Sp := fun vs H Q _ => ∃ (u : V) (a : Addr) (b : Bool) (z : W) (p : List Nat), vs = [u, .ref a] ∧ WV H u z ∧ SqB H b a (nums p) ∧ ∀ (r : V) (G : Hp), Ex H G → optV G r (z.at p) → Q r G
theorem at_snoc : ∀ {p : List Nat} {z : W} {k : Nat}, z.at (p ++ [k]) = (z.at p).bind fun x => x.at [k]
  | [], z, k => by cases z <;> rfl
  | i :: p, .v s, k => rfl
  | i :: p, .n s as, k => by
    show (match as[i]? with | some x => x.at (p ++ [k]) | none => none) = (match as[i]? with | some x => x.at p | none => none).bind fun x => x.at [k]
    cases as[i]? with
    | none => rfl
    | some x => exact at_snoc (p := p) (z := x)
theorem at_none {z : W} {p r : List Nat} (h : z.at p = none) : z.at (p ++ r) = none := by
  induction r generalizing p with
  | nil => rw [List.append_nil]; exact h
  | cons k r ih =>
    have e : p ++ k :: r = (p ++ [k]) ++ r := by simp
    rw [e]
    refine ih ?_
    rw [at_snoc, h]
    rfl
end
end K02

set_option Elab.async false
set_option linter.all false
set_option maxRecDepth 100000
set_option maxHeartbeats 4000000
/-! All places of a word. -/
namespace K02
open PySem PySem.Spec PyProof.Rows L2 Evl
section
variable {K : PySem.W.Frag} {σ : L2.St} {H G : Hp} {te ta tb tl tk tx : TE} {tt : TT} {v : V} {D : Ends} {tu tz : TS}
theorem s_extLP {l : Addr} {xs : List V} {P : List V → Hp → Prop} (hl : H l = some (.lst xs)) (ha : Ev ta σ H (.ref l)) (hb : EvLP te σ H P) (hs : ∀ zs G, P zs G → xs.length + zs.length ≤ 100000) (k : ∀ zs H1, Ex H H1 → P zs H1 → D.nx σ (upd H1 l (.lst (xs ++ zs)))) :
    tDrop (tBM K "list" rExtend ta (tCons te tNil)) D σ H := ha H (Ex.refl H) _ fun H1 e1 => ⟨.inl ⟨rfl, _, sq_of (e1 l _ hl)⟩, hb H1 e1 _ fun p zs H2 _ e2 hp pz =>
  ⟨l, p, xs, zs, rfl, rfl, e2 l _ (e1 l _ hl), hp, sz_of (hs zs H2 pz), k zs H2 (e1.trans e2) pz⟩⟩
theorem et_yes : EvT tYes σ H true := fun H1 e Q q => q H1 (Ex.refl _)
theorem s_forEnumNT {xs : List V} {j1 j2 : Nat} (h : EvU tl σ H xs) (Pv : Nat → L2.St → Hp → Prop) (h0 : ∀ H1, Ex H H1 → Pv 0 σ H1)
    (hs : ∀ (i : Nat) x σ' H' H2, xs[i]? = some x → Pv i σ' H' → Ex H' H2 → ∀ N : L2.St → Hp → Prop, (∀ σ3 H3, Pv (i + 1) σ3 H3 → Tx H2 H3 → N σ3 H3) → tu { D with nx := N, ct := N, bk := D.nx } ((σ'.set j1 (some (.int i))).set j2 (some x)) H2) (hd : ∀ σ' H', Pv xs.length σ' H' → D.nx σ' H') : tFor (iEnumT K (tCons tl tNil)) (gPair K j1 j2) tu D σ H :=
  q_forEnumNT (D := D) (tz := fun D => D.nx) h Pv h0 hs hd
end
theorem filter_true (l : List Nat) : (l.filter fun _ => true) = l := List.filter_eq_self.mpr fun _ _ => rfl
theorem A2.of_get {α β : Type} {R : α → β → Prop} : ∀ {as : List α} {bs : List β}, as.length = bs.length → (∀ (i : Nat) a b, as[i]? = some a → bs[i]? = some b → R a b) → A2 R as bs
  | [], [], _, _ => trivial
  | a :: as, b :: bs, h, k => ⟨k 0 a b rfl rfl, A2.of_get (Nat.succ.inj h) fun i x y e1 e2 => k (i + 1) x y (by simpa using e1) (by simpa using e2)⟩
  | [], _ :: _, h, _ => nomatch h
  | _ :: _, [], h, _ => nomatch h
theorem a2_range {β : Type} {R : V → β → Prop} {L : List β} {n : Nat} {acc : List V} (hn : n = L.length) (h : A2 (fun j y => ∃ q, L[j]? = some q ∧ R y q) (List.range n) acc) : A2 R acc L := by
  have hl := h.length
  rw [List.length_range] at hl
  refine A2.of_get (by omega) fun i a b e1 e2 => ?_
  obtain ⟨j, hj, q, hq, hr⟩ := h.getb e1
  have hil : i < n := by have := (List.getElem?_eq_some_iff.mp e1).1; omega
  rw [List.getElem?_range hil] at hj
  obtain rfl : i = j := Option.some.inj hj
  rw [hq] at e2
  obtain rfl : q = b := Option.some.inj e2
  exact hr
mutual
def W.parts : W → List (List Nat × W)
  | .v s => [([], .v s)]
  | .n s as => ([], .n s as) :: W.partsL 0 as
def W.partsL : Nat → List W → List (List Nat × W)
  | _, [] => []
  | i, a :: as => (a.parts.map fun q => (i :: q.1, q.2)) ++ W.partsL (i + 1) as
end
theorem W.partsL_snoc : ∀ (xs : List W) (x : W) (j : Nat), W.partsL j (xs ++ [x]) = W.partsL j xs ++ x.parts.map fun q => ((j + xs.length) :: q.1, q.2)
  | [], x, j => by simp [W.partsL]
  | y :: ys, x, j => by
    show (y.parts.map fun q => (j :: q.1, q.2)) ++ W.partsL (j + 1) (ys ++ [x]) = ((y.parts.map fun q => (j :: q.1, q.2)) ++ W.partsL (j + 1) ys) ++ _
    rw [W.partsL_snoc ys x (j + 1), List.append_assoc]
    have e : j + 1 + ys.length = j + (y :: ys).length := by simp; omega
    rw [e]
mutual
theorem W.parts_len : ∀ w : W, w.parts.length ≤ w.sz
  | .v _ => Nat.le_refl _
  | .n _ as => by
    have := W.partsL_len 0 as
    show (W.partsL 0 as).length + 1 ≤ W.szs as + 2
    omega
theorem W.partsL_len : ∀ (i : Nat) (ws : List W), (W.partsL i ws).length ≤ W.szs ws
  | _, [] => Nat.le_refl _
  | i, x :: xs => by
    have h1 := W.parts_len x
    have h2 := W.partsL_len (i + 1) xs
    show ((x.parts.map _) ++ W.partsL (i + 1) xs).length ≤ x.sz + W.szs xs
    rw [List.length_append, List.length_map]
    omega
end
mutual
theorem W.parts_deep : ∀ (w : W) (q : List Nat × W), q ∈ w.parts → q.1.length ≤ w.dp
  | .v _, q, h => by
    obtain rfl : q = _ := by simpa [W.parts] using h
    exact Nat.le_refl _
  | .n s as, q, h => by
    rcases List.mem_cons.mp h with rfl | h
    · exact Nat.zero_le _
    · exact W.partsL_deep 0 as q h
theorem W.partsL_deep : ∀ (i : Nat) (ws : List W) (q : List Nat × W), q ∈ W.partsL i ws → q.1.length ≤ W.dps ws + 1
  | _, [], q, h => nomatch h
  | i, x :: xs, q, h => by
    rcases List.mem_append.mp h with h | h
    · obtain ⟨r, hr, rfl⟩ := List.mem_map.mp h
      have h1 := W.parts_deep x r hr
      have h2 : x.dp ≤ W.dps (x :: xs) := Nat.le_max_left _ _
      show r.1.length + 1 ≤ _
      omega
    · have h1 := W.partsL_deep (i + 1) xs q h
      have h2 : W.dps xs ≤ W.dps (x :: xs) := Nat.le_max_right _ _
      omega
end
/-- what is told of a place: its list, B of it -/
def PlV (B : Addr → Prop) (H : Hp) (x : V) (p : List Nat) : Prop := ∃ l, x = .ref l ∧ B l ∧ H l = some (.lst (nums p))
theorem PlV.mut {B B' : Addr → Prop} {H G : Hp} {x : V} {p : List Nat} (h : PlV B H x p) (l : ∀ a o, B a → H a = some o → G a = some o) (b : ∀ a, B a → B' a) : PlV B' G x p := by
  obtain ⟨a, rfl, h1, h2⟩ := h
  exact ⟨a, rfl, b _ h1, l _ _ h1 h2⟩
section
variable {P : Program} {w : World} {K : PySem.W.Frag} {mg : Str → Option Value} {base : Heap}
def plc (z : W) : List (List Nat) := z.parts.map (·.1)
def plcL (i : Nat) (ws : List W) : List (List Nat) := (W.partsL i ws).map (·.1)
theorem plcL_snoc (xs : List W) (x : W) : plcL 0 (xs ++ [x]) = plcL 0 xs ++ (plc x).map fun p => xs.length :: p := by
  unfold plcL plc
  rw [W.partsL_snoc, List.map_append, List.map_map, List.map_map, Nat.zero_add]
  rfl
def spPi (m : Nat) : Sp := fun vs H Q _ => ∃ v z, vs = [v] ∧ WV H v z ∧ z.dp < m ∧ m ≤ 40 ∧ z.sz ≤ 9000 ∧
  ∀ p xs H', H p = none → Ex H H' → H' p = some (.lst xs) → A2 (PlV (fun l => H l = none ∧ l ≠ p) H') xs (plc z) → Q (.ref p) H'
abbrev nPi : List Str := ["word", "told", "index", "part", "place"]
end
end K02

set_option Elab.async false
set_option linter.all false
set_option maxRecDepth 100000
set_option maxHeartbeats 4000000
/-! places, word_at. -/
namespace K02
open PySem PySem.Spec PyProof.Rows L2 Evl
/-- numbers told by any object: a list or a tuple of them -/
def numL : List O → Option (List Nat)
  | [] => some []
  | .int i :: r => if 0 ≤ i then (numL r).map (i.toNat :: ·) else none
  | _ :: _ => none
def O.numQ : O → Option (List Nat)
  | .lst xs => numL xs
  | .tup xs => numL xs
  | _ => none
def goodP (z : W) (o : O) : Bool := match o.numQ with
  | some p => (z.at p).isSome
  | none => false
theorem numL_some : ∀ {xs : List O} {p : List Nat} {H : Hp} {us : List V}, numL xs = some p → OVs H us xs → us = nums p ∧ ∀ (i : Nat) (o : O), xs[i]? = some o → o.isNumber = true
  | [], p, H, us, h, k => by
    obtain rfl : [] = p := Option.some.inj h
    exact ⟨k, fun i o e => by simp at e⟩
  | .int i :: r, p, H, us, h, ⟨u, us', e, hu, k⟩ => by
    unfold numL at h
    by_cases q : 0 ≤ i
    · rw [if_pos q] at h
      obtain ⟨p', hp, rfl⟩ := Option.map_eq_some_iff.mp h
      obtain ⟨a, b⟩ := numL_some hp k
      obtain rfl : u = .int i := hu
      refine ⟨?_, fun j o e2 => ?_⟩
      · rw [e, a]
        show _ = V.int ((i.toNat : Nat) : Int) :: nums p'
        rw [Int.toNat_of_nonneg q]
      · cases j with
        | zero =>
          obtain rfl : O.int i = o := by simpa using e2
          exact decide_eq_true q
        | succ j => exact b j o (by simpa using e2)
    · rw [if_neg q] at h
      cases h
  | .non :: _, _, _, _, h, _ => nomatch h
  | .bl _ :: _, _, _, _, h, _ => nomatch h
  | .str _ :: _, _, _, _, h, _ => nomatch h
  | .dct :: _, _, _, _, h, _ => nomatch h
  | .lst _ :: _, _, _, _, h, _ => nomatch h
  | .tup _ :: _, _, _, _, h, _ => nomatch h
theorem numL_none : ∀ {xs : List O}, numL xs = none → ∃ (i : Nat) (o : O), xs[i]? = some o ∧ o.isNumber = false
  | [], h => nomatch h
  | .int i :: r, h => by
    unfold numL at h
    by_cases q : 0 ≤ i
    · rw [if_pos q] at h
      obtain ⟨j, o, a, b⟩ := numL_none (Option.map_eq_none_iff.mp h)
      exact ⟨j + 1, o, by simpa using a, b⟩
    · exact ⟨0, .int i, rfl, decide_eq_false q⟩
  | .non :: _, _ => ⟨0, _, rfl, rfl⟩
  | .bl _ :: _, _ => ⟨0, _, rfl, rfl⟩
  | .str _ :: _, _ => ⟨0, _, rfl, rfl⟩
  | .dct :: _, _ => ⟨0, _, rfl, rfl⟩
  | .lst _ :: _, _ => ⟨0, _, rfl, rfl⟩
  | .tup _ :: _, _ => ⟨0, _, rfl, rfl⟩
theorem given_pos {n : Nat} {f : Nat → Bool} {g : Nat → V} {i : Nat} (h : i < n) (k : f i = true) : 0 < (given n f g).length := by
  unfold given
  rw [List.length_map]
  exact List.length_pos_iff_exists_mem.mpr ⟨i, List.mem_filter.mpr ⟨List.mem_range.mpr h, k⟩⟩
theorem ev_lenNG {K : PySem.W.Frag} {σ : L2.St} {H : Hp} {te : TE} {xs : List V} (h : EvL te σ H xs) : Ev (tLen K te) σ H (.int (xs.length : Nat)) := fun H1 e Q q => h H1 e _ fun p H2 _ e2 hp => ⟨.ref p, xs.length, rfl, .inl ⟨xs, sq_of hp, rfl⟩, q H2 e2⟩
theorem given_zero {n : Nat} {f : Nat → Bool} {g : Nat → V} (h : ∀ i, i < n → f i = false) : given n f g = [] := by
  unfold given
  rw [List.filter_eq_nil_iff.mpr fun i hi q => by rw [h i (List.mem_range.mp hi)] at q; cases q]
  rfl
section
variable {P : Program} {w : World} {K : PySem.W.Frag} {mg : Str → Option Value} {base : Heap}
def spCp (K : PySem.W.Frag) : Sp := fun vs H Q E => ∃ (u v : V) (z : W) (o : O), vs = [u, v] ∧ WV H u z ∧ OV H v o ∧ o.sz ≤ 9000 ∧ (goodP z o = true → RetV .non H Q) ∧ (goodP z o = false → Bad K "BadPlace" v H E)
abbrev nCp : List Str := ["word", "place", "index"]
end
end K02

set_option Elab.async false
set_option linter.all false
set_option maxRecDepth 100000
set_option maxHeartbeats 4000000
/-! A part put at a place; depths; variables. -/
namespace K02
open PySem PySem.Spec PyProof.Rows L2 Evl
def W.put : W → List Nat → W → W
  | _, [], y => y
  | .v s, _ :: _, _ => .v s
  | .n s as, i :: p, y => match as[i]? with
    | some x => .n s (as.set i (x.put p y))
    | none => .n s as
theorem WVs.set {H : Hp} : ∀ {us : List V} {ws : List W} {i : Nat} {r : V} {x : W}, WVs H us ws → WV H r x → WVs H (us.set i r) (ws.set i x)
  | us, [], i, r, x, h, _ => by
    have h : us = [] := h
    rw [h]
    exact rfl
  | us, w :: ws, 0, r, x, ⟨u, us', e, h1, h2⟩, k => by
    rw [e]
    exact ⟨r, us', rfl, k, h2⟩
  | us, w :: ws, i + 1, r, x, ⟨u, us', e, h1, h2⟩, k => by
    rw [e]
    exact ⟨u, _, rfl, h1, WVs.set h2 k⟩
theorem cut_to (xs : List V) (k : Nat) : cutV xs none (some (k : Int)) = xs.take k := by
  unfold cutV
  rw [HT.sIx_none, HT.sIx_nat, List.drop_zero, Nat.sub_zero]
  by_cases h : k ≤ xs.length
  · rw [Nat.min_eq_left h]
  · rw [Nat.min_eq_right (by omega), List.take_of_length_le (Nat.le_refl _), List.take_of_length_le (by omega)]
theorem cut_from (xs : List V) (k : Nat) : cutV xs (some (k : Int)) none = xs.drop k := by
  unfold cutV
  rw [HT.sIx_none, HT.sIx_nat]
  by_cases h : k ≤ xs.length
  · rw [Nat.min_eq_left h, List.take_of_length_le (by rw [List.length_drop]; omega)]
  · rw [Nat.min_eq_right (by omega), List.drop_eq_nil_of_le (Nat.le_refl _), List.drop_eq_nil_of_le (by omega)]
    simp
section
variable {K : PySem.W.Frag} {σ : L2.St} {H G : Hp} {te ta tb tl : TE} {v : V}
/-- t[:k], k within -/
theorem eu_to {a : Addr} {xs : List V} {k : Nat} (h : Ev te σ H (.ref a)) (hk : Ev tb σ H (.int (k : Nat))) (ha : SqT K H a xs) (hl : k < xs.length) : EvU (tSl (rSlT K) te tNoPart (tPart tb)) σ H (xs.take k) := fun H1 e Q q =>
  h H1 e _ fun H2 e2 => hk H2 (e.trans e2) _ fun H3 e3 => ⟨_, rfl, a, xs, rfl, ex_t ((e.trans e2).trans e3) ha, fun z => by
    have h2 := z.2
    rw [HT.sIx_nat] at h2
    omega, fun p hp => by
    rw [cut_to]
    exact q p _ (fresh_back (e2.trans e3) hp) ((e2.trans e3).trans (Ex.new hp)) upd_same⟩
/-- t[k:], k from 1 on -/
theorem eu_from {a : Addr} {xs : List V} {k : Nat} (h : Ev te σ H (.ref a)) (hk : Ev tb σ H (.int (k : Nat))) (ha : SqT K H a xs) (hl : 1 ≤ k) (hx : xs ≠ []) : EvU (tSl (rSlT K) te (tPart tb) tNoPart) σ H (xs.drop k) := fun H1 e Q q =>
  h H1 e _ fun H2 e2 => hk H2 (e.trans e2) _ fun H3 e3 => ⟨_, rfl, a, xs, rfl, ex_t ((e.trans e2).trans e3) ha, fun z => by
    have h2 := z.1
    rw [HT.sIx_nat] at h2
    have := List.length_pos_iff.mpr hx
    omega, fun p hp => by
    rw [cut_from]
    exact q p _ (fresh_back (e2.trans e3) hp) ((e2.trans e3).trans (Ex.new hp)) upd_same⟩
/-- a new tuple of which P holds -/
def EvUP (te : TE) (σ : L2.St) (H : Hp) (P : List V → Hp → Prop) : Prop := ∀ H1, Ex H H1 → ∀ Q : VK, (∀ p xs H2, H1 p = none → Ex H1 H2 → H2 p = some (.tup xs) → P xs H2 → Q (.ref p) H2) → te σ H1 Q
theorem EvUP.of {xs : List V} (h : EvU te σ H xs) : EvUP te σ H (fun ys _ => ys = xs) := fun H1 e Q q => h H1 e _ fun p H2 n e2 h2 => q p xs H2 n e2 h2 rfl
theorem eup_one {P : V → Hp → Prop} (h : EvP te σ H P) (up : ∀ r, Up (P r)) : EvUP (tTup (tCons te tNil)) σ H (fun ys G => ∃ r, ys = [r] ∧ P r G) := fun H1 e Q q =>
  h H1 e _ fun r H2 e2 pr => ⟨by show 1 ≤ sizeLine; decide, fun p hp => q p [r] _ (fresh_back e2 hp) (e2.trans (Ex.new hp)) upd_same ⟨r, rfl, up r _ _ (Ex.new hp) pr⟩⟩
theorem eup_cat {P1 P2 : List V → Hp → Prop} (ha : EvUP ta σ H P1) (hb : EvUP tb σ H P2) (u1 : ∀ xs, Up (P1 xs)) (u2 : ∀ xs, Up (P2 xs)) (ne : ∀ xs G, P1 xs G → xs ≠ []) (hl : ∀ xs ys G, P1 xs G → P2 ys G → xs.length + ys.length ≤ 100000) :
    EvUP (tOp (rCatT K) ta tb) σ H (fun zs G => ∃ xs ys, zs = xs ++ ys ∧ P1 xs G ∧ P2 ys G) := fun H1 e Q q =>
  ha H1 e _ fun p1 xs H2 n1 e2 h1 q1 => hb H2 (e.trans e2) _ fun p2 ys H3 n2 e3 h2 q2 => ⟨p1, p2, xs, ys, rfl, rfl, st_of (e3 _ _ h1), st_of h2, ne _ _ q1, sz_of (hl _ _ _ (u1 _ _ _ e3 q1) q2),
    fun z => by
      subst z
      exact q p1 xs H3 n1 (e2.trans e3) (e3 _ _ h1) ⟨xs, [], by simp, u1 _ _ _ e3 q1, q2⟩,
    fun _ p hp => q p (xs ++ ys) _ (fresh_back (e2.trans e3) hp) ((e2.trans e3).trans (Ex.new hp)) upd_same ⟨xs, ys, rfl, u1 _ _ _ (e3.trans (Ex.new hp)) q1, u2 _ _ _ (Ex.new hp) q2⟩⟩
theorem s_retUP {D : Ends} {P : List V → Hp → Prop} (h : EvUP te σ H P) (k : ∀ p xs H1, H p = none → Ex H H1 → H1 p = some (.tup xs) → P xs H1 → D.rt (.ref p) H1) : tRet te D σ H := h H (Ex.refl H) _ k
end
theorem W.len_szs : ∀ l : List W, l.length ≤ W.szs l
  | [] => Nat.le_refl _
  | c :: l => by
    have h1 : 1 ≤ c.sz := by cases c <;> simp [W.sz]
    have h2 := W.len_szs l
    show l.length + 1 ≤ c.sz + W.szs l
    omega
theorem at_cons {s : Str} {as : List W} {i : Nat} {p : List Nat} (h : ((W.n s as).at (i :: p)).isSome = true) : ∃ x, as[i]? = some x ∧ (x.at p).isSome = true := by
  have h : (match as[i]? with | some x => x.at p | none => none).isSome = true := h
  cases e : as[i]? with
  | none => rw [e] at h; cases h
  | some x => rw [e] at h; exact ⟨x, rfl, h⟩
section
variable {P : Program} {w : World} {K : PySem.W.Frag} {mg : Str → Option Value} {base : Heap}
def spWp (m : Nat) : Sp := fun vs H Q _ => ∃ (u q : V) (a : Addr) (b : Bool) (z y : W) (p : List Nat), vs = [u, .ref a, q] ∧ WV H u z ∧ SqB H b a (nums p) ∧ WV H q y ∧ p.length < m ∧ m ≤ 40 ∧ z.sz ≤ 9000 ∧ (z.at p).isSome = true ∧ ∀ (r : V) (G : Hp), Ex H G → WV G r (z.put p y) → Q r G
theorem ep_wp {σ : L2.St} {H : Hp} {m : Nat} {t1 t2 t3 : TE} {ux q : V} {x y : W} {p : List Nat} (h1 : Ev t1 σ H ux) (h2 : EvQ t2 σ H (nums p)) (h3 : Ev t3 σ H q) (hw : WV H ux x) (hy : WV H q y) (hp : p.length < m) (hm : m ≤ 40) (hs : x.sz ≤ 9000) (ha : (x.at p).isSome = true) :
    EvP (tCall (spWp m) [] E0 (tCons t1 (tCons t2 (tCons t3 tNil)))) σ H (fun r G => WV G r (x.put p y)) := fun H1 e Q k =>
  h1 H1 e _ fun H2 e2 => h2 H2 (e.trans e2) _ fun b a H3 _ e3 h3' => h3 H3 ((e.trans e2).trans e3) _ fun H4 e4 => ⟨ux, q, a, b, x, y, p, rfl, hw.ext (((e.trans e2).trans e3).trans e4), h3'.ext e4, hy.ext (((e.trans e2).trans e3).trans e4), hp, hm, hs, ha, fun r G e5 hr => k r G (((e2.trans e3).trans e4).trans e5) hr⟩
abbrev nWp : List Str := ["word", "place", "part", "at"]
end
end K02

set_option Elab.async false
set_option linter.all false
set_option maxRecDepth 100000
set_option maxHeartbeats 4000000
/-! Depths, variables. -/
namespace K02
open PySem PySem.Spec PyProof.Rows L2 Evl
section
variable {K : PySem.W.Frag} {σ : L2.St} {H : Hp} {te tl : TE} {tt : TT}
theorem el_lcNT {xs : List V} {j : Nat} {vs : List Nat} (f : Nat → Bool) (g : Nat → V) (h : EvU tl σ H xs) (hz : xs.length ≤ 40000) (hw : ∀ x, wipe ((wipe σ vs).set j (some x)) vs = wipe σ vs)
    (ht : ∀ (i : Nat) (x : V) H1, Ex H H1 → xs[i]? = some x → EvT tt ((wipe σ vs).set j (some x)) H1 (f i)) (he : ∀ (i : Nat) (x : V) H1, Ex H H1 → xs[i]? = some x → f i = true → Ev te ((wipe σ vs).set j (some x)) H1 (g i)) :
    EvL (tLc (iTup K tl) (gName j) tt te vs) σ H (given xs.length f g) := fun H0 e Q q => h H0 e _ fun a H1 ha e1 hx => ⟨a, rfl, ⟨xs, st_of hx⟩, fun Dl hD =>
  lc_tup (xs := xs) (Cw H1 f g Dl) ⟨hD, Ex.new hD, upd_same⟩ (fun i H' _ p => st_of (p.2.1 a _ hx)) (fun i x H' hi p => ⟨hw x, cw_turn p (by have := (List.getElem?_eq_some_iff.mp hi).1; omega) (ht i x H1 (e.trans e1) hi) (fun hf => he i x H1 (e.trans e1) hi hf)⟩)
    (fun H' p => q Dl H' (fresh_back e1 p.1) (e1.trans p.2.1) p.2.2)⟩
end
theorem ev_maxL {K : PySem.W.Frag} {σ : L2.St} {H : Hp} {te : TE} {ns : List Int} {m : Int} (h : EvL te σ H (ns.map V.int)) (hp : 0 < ns.length) (hm : ∀ m', m' ∈ ns → (∀ y, y ∈ ns → y ≤ m') → m' = m) : Ev (tCB (rMax K) (tCons te tNil)) σ H (.int m) := fun H1 e Q q =>
  h H1 e _ fun p H2 _ e2 h2 => ⟨p, ns, rfl, sq_of h2, hp, fun m' a b => by
    rw [hm m' a b]
    exact q H2 e2⟩
theorem given_map {α : Type} (xs : List α) (g : α → V) (n : Nat) (hn : n = xs.length) : given n (fun _ => true) (fun i => ((xs[i]?).map g).getD .non) = xs.map g := by
  subst hn
  unfold given
  rw [filter_true]
  refine List.ext_getElem? fun i => ?_
  rw [List.getElem?_map, List.getElem?_map]
  by_cases h : i < xs.length
  · rw [List.getElem?_range h]
    show some (((xs[i]?).map g).getD .non) = _
    rw [List.getElem?_eq_getElem h]
    rfl
  · rw [List.getElem?_eq_none_iff.mpr (by simp; omega), List.getElem?_eq_none_iff.mpr (by omega)]
    rfl
mutual
def W.de : W → Nat
  | .v _ => 0
  | .n _ as => W.dn as
def W.dn : List W → Nat
  | [] => 0
  | a :: r => max a.de (W.des r) + 1
def W.des : List W → Nat
  | [] => 0
  | a :: r => max a.de (W.des r)
end
theorem W.de_le : ∀ {as : List W} {x : W}, x ∈ as → x.de ≤ W.des as
  | a :: as, x, h => by
    rcases List.mem_cons.mp h with rfl | h
    · exact Nat.le_max_left _ _
    · exact Nat.le_trans (W.de_le h) (Nat.le_max_right _ _)
theorem W.de_max : ∀ {as : List W} {m : Nat}, (∃ x ∈ as, x.de = m) → (∀ x ∈ as, x.de ≤ m) → m = W.des as
  | as, m, ⟨x, hx, e⟩, h => by
    have h1 := W.de_le hx
    have h2 : ∀ as : List W, (∀ x ∈ as, x.de ≤ m) → W.des as ≤ m := by
      intro as
      induction as with
      | nil => intro _; exact Nat.zero_le _
      | cons a as ih =>
        intro h
        have q1 := h a (List.mem_cons_self ..)
        have q2 := ih fun x hx => h x (List.mem_cons_of_mem _ hx)
        show max a.de (W.des as) ≤ m
        omega
    have := h2 as h
    omega
theorem W.dn_des {as : List W} (h : as ≠ []) : W.dn as = W.des as + 1 := by
  cases as with
  | nil => exact absurd rfl h
  | cons a r => rfl
mutual
def W.vars : W → List Str
  | .v s => [s]
  | .n _ as => W.varsL [] as
def W.varsL : List Str → List W → List Str
  | acc, [] => acc
  | acc, a :: r => W.varsL (acc ++ a.vars.filter fun s => !acc.contains s) r
end
section
variable {P : Program} {w : World} {K : PySem.W.Frag} {mg : Str → Option Value} {base : Heap}
def spDe (m : Nat) : Sp := fun vs H Q _ => ∃ v z, vs = [v] ∧ WV H v z ∧ z.dp < m ∧ m ≤ 40 ∧ z.sz ≤ 9000 ∧ RetV (.int (z.de : Nat)) H Q
abbrev nDe : List Str := ["word", "part"]
theorem spv_de {m : Nat} {v : V} {z : W} {H : Hp} (h : WV H v z) (hd : z.dp < m) (hm : m ≤ 40) (hs : z.sz ≤ 9000) : SpV (spDe m) ([v] ++ []) H (.int (z.de : Nat)) := fun H1 e Q q E => ⟨v, z, rfl, h.ext e, hd, hm, hs, q⟩
def sVs (xs : List Str) : List V := xs.map V.str
theorem sVs_flat (xs : List Str) : (sVs xs).all flatV = true := by
  unfold sVs
  induction xs with
  | nil => rfl
  | cons r rs ih => exact ih
theorem eqV_beq (s r : Str) : eqV (.str s) (.str r) = (s == r) := by
  show decide (s = r) = (s == r)
  by_cases h : s = r
  · rw [decide_eq_true h, h]
    exact (beq_self_eq_true r).symm
  · rw [decide_eq_false h]
    exact (beq_eq_false_iff_ne.mpr h).symm
theorem sVs_in (s : Str) (xs : List Str) : inV (.str s) (sVs xs) = xs.contains s := by
  unfold inV sVs
  induction xs with
  | nil => rfl
  | cons r rs ih =>
    rw [List.map_cons, List.any_cons, ih, List.contains_cons, eqV_beq]
    first
      | rfl
      | rw [show (r == s) = (s == r) from by by_cases h : r = s; { rw [h] }; { rw [beq_eq_false_iff_ne.mpr h, beq_eq_false_iff_ne.mpr (Ne.symm h)] }]
def spVa (m : Nat) : Sp := fun vs H Q _ => ∃ v z, vs = [v] ∧ WV H v z ∧ z.dp < m ∧ m ≤ 40 ∧ z.sz ≤ 9000 ∧ ∀ p H', H p = none → Ex H H' → H' p = some (.lst (sVs z.vars)) → Q (.ref p) H'
abbrev nVa : List Str := ["word", "told", "part", "variable"]
mutual
theorem W.vars_len : ∀ w : W, w.vars.length ≤ w.sz
  | .v _ => Nat.le_refl _
  | .n _ as => by
    have := W.varsL_len [] as
    show (W.varsL [] as).length ≤ W.szs as + 2
    simp at this
    omega
theorem W.varsL_len : ∀ (acc : List Str) (as : List W), (W.varsL acc as).length ≤ acc.length + W.szs as
  | acc, [] => Nat.le_refl _
  | acc, a :: r => by
    have h1 := W.vars_len a
    have h2 := W.varsL_len (acc ++ a.vars.filter fun s => !acc.contains s) r
    have h3 := List.length_filter_le (fun s => !acc.contains s) a.vars
    rw [List.length_append] at h2
    show _ ≤ acc.length + (a.sz + W.szs r)
    show (W.varsL (acc ++ a.vars.filter fun s => !acc.contains s) r).length ≤ _
    omega
end
theorem W.varsL_snoc : ∀ (as : List W) (x : W) (acc : List Str), W.varsL acc (as ++ [x]) = W.varsL acc as ++ x.vars.filter fun s => !(W.varsL acc as).contains s
  | [], x, acc => rfl
  | a :: r, x, acc => W.varsL_snoc r x _
theorem given_sVs_to {xs : List Str} {f : Str → Bool} : ∀ n : Nat, n ≤ xs.length → given n (fun i => ((xs[i]?).map f).getD false) (fun i => ((xs[i]?).map V.str).getD .non) = sVs ((xs.take n).filter f)
  | 0, _ => by simp [given, sVs]
  | n + 1, h => by
    have ih := given_sVs_to (xs := xs) (f := f) n (by omega)
    obtain ⟨x, hx⟩ : ∃ x, xs[n]? = some x := ⟨xs[n], by simp⟩
    rw [take_snoc hx, List.filter_append]
    cases hf : f x with
    | true =>
      rw [given_yes (by rw [hx]; exact hf), ih, hx]
      show sVs _ ++ [V.str x] = _
      unfold sVs
      rw [List.filter_cons, if_pos hf, List.map_append]
      rfl
    | false =>
      rw [given_no (by rw [hx]; exact hf), ih, List.filter_cons, if_neg (by rw [hf]; decide)]
      simp
theorem given_sVs {xs : List Str} {f : Str → Bool} {n : Nat} (hn : n = xs.length) : given n (fun i => ((xs[i]?).map f).getD false) (fun i => ((xs[i]?).map V.str).getD .non) = sVs (xs.filter f) := by
  rw [given_sVs_to n (by omega), List.take_of_length_le (by omega)]
theorem szs_take (as : List W) (n : Nat) : W.szs (as.take n) ≤ W.szs as := by
  induction as generalizing n with
  | nil => simp [W.szs]
  | cons c l ih =>
    cases n with
    | zero => exact Nat.zero_le _
    | succ n =>
      have := ih n
      show c.sz + W.szs (l.take n) ≤ c.sz + W.szs l
      omega
end
end K02

set_option Elab.async false
set_option linter.all false
set_option maxRecDepth 100000
set_option maxHeartbeats 4000000
/-! The module's own functions. -/
namespace K02
open PySem PySem.Spec PyProof.Rows L2 Evl
mutual
theorem strip_sz : ∀ o : O, o.strip.sz = o.sz
  | .non => rfl | .bl _ => rfl | .int _ => rfl | .str _ => rfl | .dct => rfl
  | .lst xs => by show O.szs (O.strips xs) + 1 = O.szs xs + 1; rw [strips_sz xs]
  | .tup xs => by show O.szs (O.strips xs) + 1 = O.szs xs + 1; rw [strips_sz xs]
theorem strips_sz : ∀ os : List O, O.szs (O.strips os) = O.szs os
  | [] => rfl
  | x :: xs => by show x.strip.sz + O.szs (O.strips xs) = x.sz + O.szs xs; rw [strip_sz x, strips_sz xs]
end
/-- v stands for the right word z, lists perhaps for tuples -/
structure Lw (H : Hp) (v : V) (z : W) : Prop where
  ex : ∃ o, Rd H v o ∧ o.fitW = true ∧ o.strip = z.o
  dp : z.dp < 12
theorem Lw.ext {H G : Hp} {v : V} {z : W} (e : Ex H G) (h : Lw H v z) : Lw G v z := by
  obtain ⟨⟨o, a, b, c⟩, d⟩ := h
  exact ⟨⟨o, a.ext e, b, c⟩, d⟩
theorem sz_of_strip {o : O} {z : W} (h : o.strip = z.o) : z.sz = o.sz := by rw [← W.osz, ← h, strip_sz]
theorem Lw.sz {H : Hp} {v : V} {z : W} (h : Lw H v z) : z.sz ≤ 8000 := by
  obtain ⟨⟨o, a, b, c⟩, d⟩ := h
  rw [sz_of_strip c]
  exact a.sz
/-- v is no word, no atom -/
def NoW (H : Hp) (v : V) : Prop := ∃ o, Rd H v o ∧ o.fitW = false
theorem NoW.ext {H G : Hp} {v : V} (e : Ex H G) (h : NoW H v) : NoW G v := by
  obtain ⟨o, a, b⟩ := h
  exact ⟨o, a.ext e, b⟩
theorem numL_map : ∀ p : List Nat, numL (p.map fun i : Nat => O.int (i : Nat)) = some p
  | [] => rfl
  | i :: p => by
    show numL (O.int (i : Nat) :: _) = _
    unfold numL
    rw [if_pos (Int.natCast_nonneg i), numL_map p]
    rfl
theorem nums_ov {H : Hp} : ∀ p : List Nat, OVs H (nums p) (p.map fun i : Nat => O.int (i : Nat))
  | [] => rfl
  | i :: p => ⟨_, _, rfl, rfl, nums_ov p⟩
theorem nums_sz : ∀ p : List Nat, O.szs (p.map fun i : Nat => O.int (i : Nat)) = p.length
  | [] => rfl
  | i :: p => by show 1 + O.szs (p.map _) = p.length + 1; rw [nums_sz p]; omega
theorem place_ov {H : Hp} {b : Bool} {a : Addr} {p : List Nat} (h : SqB H b a (nums p)) : OV H (.ref a) (O.seq b (p.map fun i : Nat => O.int (i : Nat))) := by
  cases b with
  | true => exact ⟨a, _, rfl, h, nums_ov p⟩
  | false => exact ⟨a, _, rfl, h, nums_ov p⟩
theorem place_good {z : W} {b : Bool} {p : List Nat} : goodP z (O.seq b (p.map fun i : Nat => O.int (i : Nat))) = (z.at p).isSome := by
  have : (O.seq b (p.map fun i : Nat => O.int (i : Nat))).numQ = some p := by
    cases b with
    | true => exact numL_map p
    | false => exact numL_map p
  unfold goodP
  rw [this]
section
variable {P : Program} {w : World} {K : PySem.W.Frag} {mg : Str → Option Value} {base : Heap}
/-- the checked word, then what follows -/
theorem cw_go {σ : L2.St} {H : Hp} {te : TE} {v : V} {z : W} {E : L2.St → XK} {Q : VK} (h : Ev te σ H v) (hw : Lw H v z) (k : ∀ u G, Ex H G → WV G u z → Q u G) : tCallS (spCw K) E (tCons te tNil) σ H Q := by
  obtain ⟨⟨o, rd, hf, hs⟩, _⟩ := hw
  exact h H (Ex.refl H) _ fun H1 e1 => ⟨v, o, rfl, rd.ext e1, fun _ u G e2 hu => k u G (e1.trans e2) (by rw [hs] at hu; exact hu), fun q => by rw [hf] at q; cases q⟩
theorem cw_bad {σ : L2.St} {H : Hp} {te : TE} {v : V} {E : L2.St → XK} {Q : VK} (h : Ev te σ H v) (hw : NoW H v) (k : Bad K "BadWord" v H (E σ)) : tCallS (spCw K) E (tCons te tNil) σ H Q := by
  obtain ⟨o, rd, hf⟩ := hw
  exact h H (Ex.refl H) _ fun H1 e1 => ⟨v, o, rfl, rd.ext e1, (fun q => by rw [hf] at q; cases q), fun _ d G e2 hd => k d G (e1.trans e2) hd⟩
theorem cp_go {σ : L2.St} {H : Hp} {t1 t2 : TE} {u : V} {a : Addr} {b : Bool} {z : W} {p : List Nat} {E : L2.St → XK} {Q : VK} (h1 : Ev t1 σ H u) (h2 : Ev t2 σ H (.ref a)) (hw : WV H u z) (ha : SqB H b a (nums p)) (hl : p.length ≤ 900) (hat : (z.at p).isSome = true) (k : ∀ G, Ex H G → Q .non G) :
    tCallS (spCp K) E (tCons t1 (tCons t2 tNil)) σ H Q :=
  h1 H (Ex.refl H) _ fun H1 e1 => h2 H1 e1 _ fun H2 e2 => ⟨u, .ref a, z, _, rfl, hw.ext (e1.trans e2), place_ov (ha.ext (e1.trans e2)), by rw [O.seq_sz, nums_sz]; omega, fun _ G e3 => k G ((e1.trans e2).trans e3), fun q => by rw [place_good, hat] at q; cases q⟩
theorem cp_bad {σ : L2.St} {H : Hp} {t1 t2 : TE} {u v : V} {z : W} {o : O} {E : L2.St → XK} {Q : VK} (h1 : Ev t1 σ H u) (h2 : Ev t2 σ H v) (hw : WV H u z) (ho : OV H v o) (hz : o.sz ≤ 9000) (hg : goodP z o = false) (k : Bad K "BadPlace" v H (E σ)) :
    tCallS (spCp K) E (tCons t1 (tCons t2 tNil)) σ H Q :=
  h1 H (Ex.refl H) _ fun H1 e1 => h2 H1 e1 _ fun H2 e2 => ⟨u, v, z, o, rfl, hw.ext (e1.trans e2), ho.ext (e1.trans e2), hz, (fun q => by rw [hg] at q; cases q), fun _ d G e3 hd => k d G ((e1.trans e2).trans e3) hd⟩
theorem Bad.mono {x : Str} {v : V} {H G : Hp} {E : XK} (h : Bad K x v H E) (e : Ex H G) : Bad K x v G E := BadZ.mono h e
def spP1 (K : PySem.W.Frag) (T : W → Hp → VK → Prop) : Sp := fun vs H Q E => ∃ v, vs = [v] ∧ ((∃ z, Lw H v z ∧ T z H Q) ∨ (NoW H v ∧ Bad K "BadWord" v H E))
theorem spP1_len {T : W → Hp → VK → Prop} {vs : List V} {H : Hp} {Q : VK} {E : XK} (h : spP1 K T vs H Q E) : vs.length = 1 := by
  obtain ⟨v, rfl, _⟩ := h
  rfl
def tPlaces : W → Hp → VK → Prop := fun z H Q => ∀ p xs H', H p = none → Ex H H' → H' p = some (.lst xs) → A2 (PlV (fun l => H l = none ∧ l ≠ p) H') xs (plc z) → Q (.ref p) H'
def tDepth : W → Hp → VK → Prop := fun z H Q => RetV (.int (z.de : Nat)) H Q
def tVars : W → Hp → VK → Prop := fun z H Q => ∀ p H', H p = none → Ex H H' → H' p = some (.lst (sVs z.vars)) → Q (.ref p) H'
/-- a place: right, or what is none -/
inductive PlOk (H : Hp) (z : W) (v : V) : Option (List Nat) → Prop
  | yes {a : Addr} {b : Bool} {p : List Nat} : v = .ref a → SqB H b a (nums p) → p.length ≤ 30 → (z.at p).isSome = true → PlOk H z v (some p)
  | no {o : O} : OV H v o → o.sz ≤ 9000 → goodP z o = false → PlOk H z v none
def spWa (K : PySem.W.Frag) : Sp := fun vs H Q E => ∃ v x, vs = [v, x] ∧ ((NoW H v ∧ Bad K "BadWord" v H E) ∨ ∃ z, Lw H v z ∧ ((PlOk H z x none ∧ Bad K "BadPlace" x H E) ∨ ∃ p y, PlOk H z x (some p) ∧ z.at p = some y ∧ ∀ (r : V) (G : Hp), Ex H G → WV G r y → Q r G))
end
end K02

set_option Elab.async false
set_option linter.all false
set_option maxRecDepth 100000
set_option maxHeartbeats 4000000
/-! word_put. -/
namespace K02
open PySem PySem.Spec PyProof.Rows L2 Evl
def W.noEq : W → Bool
  | .v _ => true
  | .n s _ => !(s == "=")
theorem strip_str {x : O} {s : Str} (h : x.strip = .str s) : x = .str s := by
  cases x with
  | str t => exact h
  | _ => cases h
theorem eq_of_noEqL {xs : List O} {s : Str} {ys : List O} (h : O.strips xs = .str s :: ys) (k : (s == "=") = false) : eqL xs = false := by
  match xs, h with
  | x :: r, h =>
    have h1 : x.strip = .str s := (List.cons.inj h).1
    rw [strip_str h1]
    unfold eqL
    split
    · rename_i t a b e
      obtain rfl : s = t := by
        have := (List.cons.inj e).1
        exact O.str.inj this
      exact k
    · rfl
theorem eq_of_noEq {o : O} {z : W} (h : o.strip = z.o) (k : z.noEq = true) : o.eqB = false := by
  cases z with
  | v s => rw [strip_str h]; rfl
  | n s as =>
    have k2 : (s == "=") = false := by simpa [W.noEq] using k
    cases o with
    | lst xs => exact eq_of_noEqL (O.tup.inj h) k2
    | tup xs => exact eq_of_noEqL (O.tup.inj h) k2
    | _ => cases h
section
variable {P : Program} {w : World} {K : PySem.W.Frag} {mg : Str → Option Value} {base : Heap}
def spWu (K : PySem.W.Frag) : Sp := fun vs H Q E => ∃ v x q, vs = [v, x, q] ∧ ((NoW H v ∧ Bad K "BadWord" v H E) ∨ ∃ z, Lw H v z ∧ ((PlOk H z x none ∧ Bad K "BadPlace" x H E) ∨ ∃ p, PlOk H z x (some p) ∧
  ((p = [] ∧ NoW H q ∧ Bad K "BadWord" q H E) ∨ ∃ y, Lw H q y ∧ y.noEq = true ∧ ∀ (r : V) (G : Hp), Ex H G → WV G r (z.put p y) → Q r G)))
abbrev nWu : List Str := ["word", "place", "part", "told"]
end
end K02

set_option Elab.async false
set_option linter.all false
set_option maxRecDepth 100000
set_option maxHeartbeats 4000000
/-! The law's spring of draws. -/
namespace K02
open PySem PySem.Spec PyProof.Rows
open L2 Evl
/-- the spring at p: the cells left at q, what is left of a great one, how many were drawn, what all of them mix -/
structure Stm (H : Hp) (p q : Addr) (L : List Int) (a n t : Int) : Prop where
  hp : H p = some (.lst [.ref q, .int a, .int n, .int t])
  hq : H q = some (.lst (L.map V.int))
  ne : p ≠ q
  a0 : 0 ≤ a
  n0 : 0 ≤ n
  t0 : 0 ≤ t
  t1 : t < 2147483647
/-- all but two objects stay -/
def But (p q : Addr) (H G : Hp) : Prop := ∀ b o, b ≠ p → b ≠ q → H b = some o → G b = some o
def spDraw : Sp := fun vs H Q _ => ∃ (p q : Addr) (L : List Int) (a n t m : Int), vs = [.ref p, .int m] ∧ Stm H p q L a n t ∧ n < 10000000 ∧ 1 ≤ m ∧ m ≤ 1000 ∧
  ∀ (r : Int) (G : Hp) (L' : List Int) (a' t' : Int), 0 ≤ r → r < m → Stm G p q L' a' (n + 1) t' → But p q H G → Q (.int r) G
theorem scD : FnScope ["_law_stream", "_law_many", "_law_cell", "_law_digit", "_law_mixed_here"] ["_law_stream", "_law_many"] (defScope s__law_draw) := ⟨rfl, rfl, rfl, by decide +kernel, rfl, by decide +kernel, by decide +kernel⟩
theorem dp_ints {K : PySem.W.Frag} {H : Hp} : ∀ L : List Int, DpAll K H (L.map V.int) (L.map PyData.int)
  | [] => .nil
  | i :: r => .cons (.int i) (dp_ints r)
theorem lay_ints : ∀ L : List Int, PyData.canLayAll0 (L.map PyData.int) = true
  | [] => rfl
  | _ :: r => by
    show (PyData.canLay0 (.int _) && PyData.canLayAll0 (r.map PyData.int)) = true
    rw [lay_ints r]
    rfl
theorem depth_ints : ∀ L : List Int, PyData.depthAll (L.map PyData.int) ≤ 1
  | [] => Nat.zero_le _
  | _ :: r => by
    show max (PyData.depth (.int _)) (PyData.depthAll (r.map PyData.int)) ≤ 1
    exact Nat.max_le.mpr ⟨Nat.zero_le _, depth_ints r⟩
theorem shaped_ints (L : List Int) : SeqAt.shaped (.list (L.map PyData.int)) = true := by
  unfold SeqAt.shaped
  rw [Bool.and_eq_true]
  refine ⟨lay_ints L, decide_eq_true ?_⟩
  have h := depth_ints L
  show PyData.depthAll (L.map PyData.int) + 1 ≤ 64
  omega
/-! ### reading and storing at places of a list -/
theorem ixr {K : PySem.W.Frag} {σ : L2.St} {H : Hp} {Q : VK} {i j : Nat} {z : Int} {p : Addr} {xs : List V} {v : V} (hs : σ[i]? = some (some (.ref p))) (hp : H p = some (.lst xs)) (hz : z = (j : Int)) (hj : xs[j]? = some v) (h : Q v H) :
    tOp (rIxL K) (tVar i) (tC (V.int z)) σ H Q := by
  subst hz
  exact ⟨_, hs, p, xs, _, v, rfl, rfl, SqL.of hp, atI_nat hj, h⟩
theorem ixn {m j : Nat} (hj : j < m) : ixN m (j : Int) = some j := by
  unfold ixN
  rw [if_pos (Int.natCast_nonneg j), if_pos (Int.ofNat_lt.mpr hj), Int.toNat_natCast]
theorem setr {σ : L2.St} {H : Hp} {Q : L2.St → Hp → Prop} {i j : Nat} {z : Int} {p : Addr} {xs : List V} {v : V} (hs : σ[i]? = some (some (.ref p))) (hp : H p = some (.lst xs)) (hz : z = (j : Int)) (hj : j < xs.length)
    (h : Q σ (upd H p (.lst (xs.set j v)))) : gSub (tVar i) (tC (V.int z)) rSetL v σ H Q := by
  subst hz
  exact ⟨_, hs, p, xs, _, j, rfl, rfl, hp, ixn hj, h⟩
theorem But.refl {p q : Addr} {H : Hp} : But p q H H := fun _ _ _ _ e => e
theorem But.trans {p q : Addr} {H G J : Hp} (a : But p q H G) (b : But p q G J) : But p q H J := fun c o n1 n2 e => b c o n1 n2 (a c o n1 n2 e)
theorem But.l {p q : Addr} {H : Hp} {o : HO} : But p q H (upd H p o) := fun b u n1 _ e => by rw [upd_ne n1]; exact e
theorem But.r {p q : Addr} {H : Hp} {o : HO} : But p q H (upd H q o) := fun b u _ n2 e => by rw [upd_ne n2]; exact e
theorem But.of {p q : Addr} {H G : Hp} (k : Ex H G) : But p q H G := fun b o _ _ e => k b o e
section
variable {H G : Hp} {p q : Addr} {L : List Int} {a n t : Int}
theorem Stm.ext (S : Stm H p q L a n t) (k : Ex H G) : Stm G p q L a n t := ⟨k _ _ S.hp, k _ _ S.hq, S.ne, S.a0, S.n0, S.t0, S.t1⟩
theorem Stm.put (S : Stm H p q L a n t) {a' n' t' : Int} (h1 : 0 ≤ a') (h2 : 0 ≤ n') (h3 : 0 ≤ t') (h4 : t' < 2147483647) : Stm (upd H p (.lst [.ref q, .int a', .int n', .int t'])) p q L a' n' t' :=
  ⟨upd_same, by rw [upd_ne S.ne.symm]; exact S.hq, S.ne, h1, h2, h3, h4⟩
theorem Stm.cut (S : Stm H p q L a n t) (L' : List Int) : Stm (upd H q (.lst (L'.map V.int))) p q L' a n t :=
  ⟨by rw [upd_ne S.ne]; exact S.hp, upd_same, S.ne, S.a0, S.n0, S.t0, S.t1⟩
end
/-! ### the readings -/
def dIx (K : PySem.W.Frag) (j : Int) : TE := tOp (rIxL K) (tVar 0) (tC (.int j))
def dNum (t : TE) : TE := tCB (fun xs H Q => (∃ i, xs = [V.int i] ∧ Q (.int i) H) ∨ ∃ k, xs = [V.bl k] ∧ Q (.int (if k = true then 1 else 0)) H) (tCons t tNil)
abbrev dAdd : TE → TE → TE := tOp (rI0 fun i j => .int (i + j))
abbrev dMul : TE → TE → TE := tOp (rI CMul fun i j => .int (i * j))
abbrev dMod : TE → TE → TE := tOp (rI (fun _ j => 0 < j) fun i j => .int (i % j))
abbrev dPow : TE → TE → TE := tOp (rI CPow fun i j => .int (i ^ j.toNat))
abbrev nC (i : Int) : TE := tC (.int i)
def dSet (j : Int) (te : TE) : TS := tAsg te (gSub (tVar 0) (nC j) rSetL)
def dTest (K : PySem.W.Frag) : TT := tAnd (tTest (tOp rEq (dIx K 1) (nC 0))) (tTest (tOp (rNeD K) (dIx K 0) (tLst tNil)))
def dTurn (K : PySem.W.Frag) : TS := tSeq (tAsg (tBM K "list" rPopAt (dIx K 0) (tCons (nC 0) tNil)) (gName 2))
  (tSeq (dSet 3 (dMod (dNum (dAdd (dAdd (dMul (dIx K 3) (nC 8191)) (tVar 2)) (nC 3))) (nC 2147483647)))
  (dSet 1 (tIf (tTest (tOp (rI0 fun i j => .bl (decide (j ≤ i))) (tVar 2) (dPow (nC 10) (nC 18)))) (tVar 2) (nC 0))))
def dEnd (K : PySem.W.Frag) : TS := tSeq (tIfS (tTest (tOp (rI0 fun i j => .bl (decide (j < i))) (dIx K 1) (nC 0)))
    (tSeq (tAsg (dMod (dNum (dIx K 1)) (tVar 1)) (gName 3)) (tSeq (dSet 1 (tOp (rI CDivN fun i j => .int (i.fdiv j)) (dIx K 1) (tVar 1))) (tRet (tVar 3)))) tNext)
  (tSeq (tAsg (dMod (dNum (dPow (dAdd (dAdd (dIx K 3) (dMul (nC 7919) (dIx K 2))) (nC 104729)) (nC 5))) (nC 2147483629)) (gName 4))
  (tRet (dMod (dMod (dNum (dPow (dAdd (dAdd (dMul (tVar 4) (nC 48271)) (dMul (nC 30011) (dIx K 2))) (nC 29)) (nC 3))) (nC 1000000007)) (tVar 1))))
def dAll (K : PySem.W.Frag) : TS := tSeq (dSet 2 (dAdd (dIx K 2) (nC 1))) (tSeq (tWhile (dTest K) (dTurn K)) (dEnd K))
section
variable {K : PySem.W.Frag}
theorem turn_ok {D : Ends} {σ : L2.St} {H : Hp} {p q : Addr} {c a n t : Int} {L : List Int} (S : Stm H p q (c :: L) a n t) (s0 : σ[0]? = some (some (.ref p))) (sl : σ.length = 5)
    (h : ∀ (G : Hp) (a' t' : Int), Stm G p q L a' n t' → But p q H G → D.nx (σ.set 2 (some (.int c))) G) : dTurn K D σ H := by
  have e0 : (σ.set 2 (some (V.int c)))[0]? = some (some (.ref p)) := by rw [List.getElem?_set_ne (by decide)]; exact s0
  have e2 : (σ.set 2 (some (V.int c)))[2]? = some (some (.int c)) := List.getElem?_set_self (by omega)
  refine ixr (j := 0) s0 S.hp rfl rfl ⟨.inl ⟨rfl, _, SqL.of S.hq⟩, q, _, 0, 0, .int c, rfl, rfl, S.hq, by decide, by decide, ?_, rfl, ?_⟩
  · unfold seqIndex?
    simp
  have S1 : Stm (upd H q (.lst (L.map V.int))) p q L a n t := S.cut L
  have t0 := S.t0
  have t1 := S.t1
  -- what all of them mix
  refine ixr (j := 3) e0 S1.hp rfl rfl ⟨_, _, rfl, rfl, .inl ⟨by omega, by omega⟩, _, e2, _, _, rfl, rfl, _, _, rfl, rfl, .inl ⟨_, rfl, _, _, rfl, rfl, (show (0 : Int) < 2147483647 by decide), ?_⟩⟩
  refine setr (j := 3) e0 S1.hp rfl (by show 3 < 4; omega) ?_
  have m0 := Int.emod_nonneg (t * 8191 + c + 3) (show (2147483647 : Int) ≠ 0 by decide)
  have m1 := Int.emod_lt_of_pos (t * 8191 + c + 3) (show (0 : Int) < 2147483647 by decide)
  have S2 := S1.put (a' := a) (n' := n) (t' := (t * 8191 + c + 3) % 2147483647) S.a0 S.n0 m0 m1
  have B2 : But p q H (upd (upd H q (.lst (L.map V.int))) p (.lst [.ref q, .int a, .int n, .int ((t * 8191 + c + 3) % 2147483647)])) := But.trans But.r But.l
  refine ⟨_, e2, _, _, rfl, rfl, ⟨by decide, by decide, by decide⟩, _, _, rfl, rfl, _, rfl, ?_⟩
  by_cases hc : (10 : Int) ^ (18 : Int).toNat ≤ c
  · rw [decide_eq_true hc]
    refine iteT ⟨_, e2, ?_⟩
    refine setr (j := 1) e0 S2.hp rfl (by show 1 < 4; omega) (h _ _ _ (S2.put (a' := c) ?_ S.n0 m0 m1) (B2.trans But.l))
    have z : (0 : Int) ≤ 10 ^ (18 : Int).toNat := by decide
    omega
  · rw [decide_eq_false hc]
    refine iteF ?_
    exact setr (j := 1) e0 S2.hp rfl (by show 1 < 4; omega) (h _ _ _ (S2.put (a' := 0) (by decide) S.n0 m0 m1) (B2.trans But.l))
theorem fin_ok {D : Ends} {σ : L2.St} {H : Hp} {p q : Addr} {a n t m k : Int} {L : List Int} (S : Stm H p q L a n t) (s0 : σ[0]? = some (some (.ref p))) (s1 : σ[1]? = some (some (.int m))) (sl : σ.length = 5)
    (hn : n ≤ 10000000) (hm : 1 ≤ m) (hm2 : m ≤ 1000) (k0 : 0 ≤ k) (k1 : k < 2147483629)
    (h : ∀ (r : Int) (G : Hp) (L' : List Int) (a' t' : Int), 0 ≤ r → r < m → Stm G p q L' a' n t' → But p q H G → D.rt (.int r) G) :
    tRet (dMod (dMod (dNum (dPow (dAdd (dAdd (dMul (tVar 4) (nC 48271)) (dMul (nC 30011) (dIx K 2))) (nC 29)) (nC 3))) (nC 1000000007)) (tVar 1)) D (σ.set 4 (some (V.int k))) H := by
  have n0 := S.n0
  have e0 : (σ.set 4 (some (V.int k)))[0]? = some (some (.ref p)) := by rw [List.getElem?_set_ne (by decide)]; exact s0
  have e1 : (σ.set 4 (some (V.int k)))[1]? = some (some (.int m)) := by rw [List.getElem?_set_ne (by decide)]; exact s1
  have e4 : (σ.set 4 (some (V.int k)))[4]? = some (some (.int k)) := List.getElem?_set_self (by omega)
  refine ⟨_, e4, _, _, rfl, rfl, .inl ⟨by omega, by omega⟩, ?_⟩
  refine ixr (j := 2) e0 S.hp rfl rfl ⟨_, _, rfl, rfl, .inl ⟨by decide, by decide⟩, _, _, rfl, rfl, _, _, rfl, rfl, _, _, rfl, rfl, ⟨by decide, by decide, by omega⟩,
    .inl ⟨_, rfl, _, _, rfl, rfl, (show (0 : Int) < 1000000007 by decide), _, e1, _, _, rfl, rfl, by omega, ?_⟩⟩
  exact h _ _ _ _ _ (Int.emod_nonneg _ (by omega)) (Int.emod_lt_of_pos _ (by omega)) S But.refl
theorem end_ok {Q : VK} {nx : L2.St → Hp → Prop} {σ : L2.St} {H : Hp} {p q : Addr} {a n t m : Int} {L : List Int} (S : Stm H p q L a n t) (s0 : σ[0]? = some (some (.ref p))) (s1 : σ[1]? = some (some (.int m))) (sl : σ.length = 5)
    (hn : n ≤ 10000000) (hm : 1 ≤ m) (hm2 : m ≤ 1000)
    (h : ∀ (r : Int) (G : Hp) (L' : List Int) (a' t' : Int), 0 ≤ r → r < m → Stm G p q L' a' n t' → But p q H G → Q (.int r) G) : dEnd K { nx := nx, rt := Q } σ H := by
  have n0 := S.n0
  have t0 := S.t0
  have t1 := S.t1
  have a0 := S.a0
  refine ixr (j := 1) s0 S.hp rfl rfl ⟨_, _, rfl, rfl, _, rfl, ?_⟩
  by_cases ha : 0 < a
  · rw [decide_eq_true ha]
    refine iteT ?_
    have e0 : (σ.set 3 (some (V.int (a % m))))[0]? = some (some (.ref p)) := by rw [List.getElem?_set_ne (by decide)]; exact s0
    have e1 : (σ.set 3 (some (V.int (a % m))))[1]? = some (some (.int m)) := by rw [List.getElem?_set_ne (by decide)]; exact s1
    have e3 : (σ.set 3 (some (V.int (a % m))))[3]? = some (some (.int (a % m))) := List.getElem?_set_self (by omega)
    refine ixr (j := 1) s0 S.hp rfl rfl (.inl ⟨_, rfl, _, s1, _, _, rfl, rfl, by omega, ?_⟩)
    refine ixr (j := 1) e0 S.hp rfl rfl ⟨_, e1, _, _, rfl, rfl, ⟨by omega, by omega⟩, ?_⟩
    refine setr (j := 1) e0 S.hp rfl (by show 1 < 4; omega) ⟨_, e3, ?_⟩
    exact h _ _ _ _ _ (Int.emod_nonneg a (by omega)) (Int.emod_lt_of_pos a (by omega)) (S.put (a' := a.fdiv m) (n' := n) (t' := t) (by rw [Int.fdiv_eq_ediv_of_nonneg _ (by omega)]; exact Int.ediv_nonneg a0 (by omega)) n0 t0 t1) But.l
  · rw [decide_eq_false ha]
    refine iteF ?_
    refine ixr (j := 3) s0 S.hp rfl rfl ?_
    refine ixr (j := 2) s0 S.hp rfl rfl ⟨_, _, rfl, rfl, .inl ⟨by decide, by decide⟩, _, _, rfl, rfl, _, _, rfl, rfl, _, _, rfl, rfl, ⟨by decide, by decide, by omega⟩, .inl ⟨_, rfl, _, _, rfl, rfl, (show (0 : Int) < 2147483629 by decide), ?_⟩⟩
    exact fin_ok S s0 s1 sl hn hm hm2 (Int.emod_nonneg _ (by decide)) (Int.emod_lt_of_pos _ (by decide)) h
theorem all_ok (vs : List V) (H : Hp) (Q : VK) (E : XK) (hs : spDraw vs H Q E) : dAll K { nx := fun _ H' => Q .non H', rt := Q } (L2.start ["_law_stream", "_law_many", "_law_cell", "_law_digit", "_law_mixed_here"] vs) H := by
  obtain ⟨p, q, L, a, n, t, m, rfl, S, hn, hm, hm2, k⟩ := hs
  -- one more was drawn
  refine ixr (j := 2) rfl S.hp rfl rfl ⟨_, _, rfl, rfl, ?_⟩
  refine setr (j := 2) rfl S.hp rfl (by show 2 < 4; omega) ?_
  have S1 := S.put (a' := a) (n' := n + 1) (t' := t) S.a0 (by have := S.n0; omega) S.t0 S.t1
  refine while_by (fun σ G => ∃ L' a' t', Stm G p q L' a' (n + 1) t' ∧ But p q H G ∧ σ[0]? = some (some (.ref p)) ∧ σ[1]? = some (some (.int m)) ∧ σ.length = 5)
    (fun _ G => match G q with | some (.lst xs) => xs.length | _ => 0) ⟨L, a, t, S1, But.l, rfl, rfl, rfl⟩ ?_ ?_
  · rintro σ G ⟨L', a', t', Z, B, s0, s1, sl⟩
    have fin : ∀ (G' : Hp) (L2 : List Int), Stm G' p q L2 a' (n + 1) t' → But p q H G' → dEnd K { nx := fun _ H' => Q .non H', rt := Q } σ G' := fun G' L2 Z' B' =>
      end_ok Z' s0 s1 sl (by omega) hm hm2 fun r G2 L3 a3 t3 r0 r1 z b => k r G2 L3 a3 t3 r0 r1 z (B'.trans b)
    refine ixr (j := 1) s0 Z.hp rfl rfl ⟨rfl, _, rfl, ?_⟩
    by_cases ha : a' = 0
    · subst ha
      rw [decide_eq_true (rfl : V.int 0 = V.int 0)]
      refine iteT ?_
      refine ixr (j := 0) s0 Z.hp rfl rfl ⟨Nat.zero_le _, fun l hl => ?_⟩
      have Zl := Z.ext (Ex.new (o := .lst []) hl)
      have Bl : But p q H (upd G l (.lst [])) := B.trans (But.of (Ex.new hl))
      refine ⟨.list (L'.map PyData.int), .list [], .lst (SqL.of Zl.hq) (dp_ints L'), .lst (SqL.of upd_same) .nil, shaped_ints L', by decide +kernel, _, rfl, ?_⟩
      cases L' with
      | nil =>
        refine iteF ?_
        exact fin _ [] Zl Bl
      | cons c L' =>
        refine iteT ?_
        refine turn_ok Zl s0 sl fun G2 a2 t2 z b => ⟨⟨L', a2, t2, z, Bl.trans b, by rw [List.getElem?_set_ne (by decide)]; exact s0, by rw [List.getElem?_set_ne (by decide)]; exact s1, by simpa using sl⟩, ?_⟩
        rw [z.hq, Z.hq]
        simp
    · rw [decide_eq_false (fun z => ha (V.int.inj z))]
      exact iteF (fin _ L' Z B)
  · rintro σ G Q1 Q2 hq h
    obtain ⟨v, e1, p1, xs, i, z, y1, y2, y3, y4, y5, kk, y6, h⟩ := h
    refine ⟨v, e1, p1, xs, i, z, y1, y2, y3, y4, y5, kk, y6, ?_⟩
    cases kk with
    | false =>
      rw [if_neg Bool.false_ne_true] at h ⊢
      exact hq _ _ h
    | true =>
      rw [if_pos rfl] at h ⊢
      obtain ⟨v, e1, p1, xs, i, z, y1, y2, y3, y4, y5, y6⟩ := h
      refine ⟨v, e1, p1, xs, i, z, y1, y2, y3, y4, y5, fun l n => ?_⟩
      obtain ⟨d, e, d1, d2, d3, d4, k2, y, z⟩ := y6 l n
      exact ⟨d, e, d1, d2, d3, d4, k2, y, hq _ _ z⟩
end
section
variable {P : Program} {w : World} {K : PySem.W.Frag} {mg : Str → Option Value} {base : Heap}
theorem ok_draw {f : Addr} {fd : FuncData} (F : FnP K "_law_draw" s__law_draw f fd) (mI : mg "int" = none) : FnOk P w K mg base CX0 1 f fd ["_law_stream", "_law_many"] spDraw := by
  refine F.ok scD (fun vs H Q E h => ?_) (fun cdv A outer s H vs Q E hr h => ⟨dAll K, PSs.nox ?_, all_ok vs H Q E h⟩)
  · obtain ⟨p, q, L, a, n, t, m, rfl, _⟩ := h
    rfl
  · exact pss_cons (ps_asg (pe_op op_add (pe_ix ix_list (pv 0) pe_int (fun _ _ => rfl)) pe_int) (pg_sub (pv 0) pe_int set_list))
      (pss_cons (ps_while PassesOwn.never (PW.pt (pw_and (pt_cmpR op_eq (pe_ix ix_list (pv 0) pe_int (fun _ _ => rfl)) pe_int (nomark _))
          (pw_and1 (pt_cmpR (op_neD hr.units) (pe_ix ix_list (pv 0) pe_int (fun _ _ => rfl)) (pe_lst pa_nil) (nomark _)))))
        (pss_cons (ps_set (i := 2) scD.nd rfl (.inl rfl) (pe_bm PySem.F.plainAttrs_list PySem.F.slot_list_pop PySem.F.type_list_pop mt_popAt (pe_ix ix_list (pv 0) pe_int (fun _ _ => rfl)) (pa_cons pe_int pa_nil)))
        (pss_cons (ps_asg (pe_op op_mod (pe_callTy call_int1 (by rfl) mI PySem.Pv.boot_int (pa_cons (pe_op op_add (pe_op op_add (pe_op op_mul (pe_ix ix_list (pv 0) pe_int (fun _ _ => rfl)) pe_int) (pv 2)) pe_int) pa_nil)) pe_int)
          (pg_sub (pv 0) pe_int set_list))
        (pss_one (ps_asg (pe_ifExp (pt_cmpR op_ge (pv 2) (pe_op op_pow pe_int pe_int) (nomark _)) (pv 2) pe_int) (pg_sub (pv 0) pe_int set_list))))))
      (pss_cons (ps_if (pt_cmpR op_gt (pe_ix ix_list (pv 0) pe_int (fun _ _ => rfl)) pe_int (nomark _))
        (pss_cons (ps_set (i := 3) scD.nd rfl (.inl rfl) (pe_op op_mod (pe_callTy call_int1 (by rfl) mI PySem.Pv.boot_int (pa_cons (pe_ix ix_list (pv 0) pe_int (fun _ _ => rfl)) pa_nil)) (pv 1)))
        (pss_cons (ps_asg (pe_op op_fdivN (pe_ix ix_list (pv 0) pe_int (fun _ _ => rfl)) (pv 1)) (pg_sub (pv 0) pe_int set_list))
        (pss_one (ps_ret (pv 3))))) pss_nil)
      (pss_cons (ps_set (i := 4) scD.nd rfl (.inl rfl) (pe_op op_mod (pe_callTy call_int1 (by rfl) mI PySem.Pv.boot_int (pa_cons (pe_op op_pow (pe_op op_add (pe_op op_add (pe_ix ix_list (pv 0) pe_int (fun _ _ => rfl))
          (pe_op op_mul pe_int (pe_ix ix_list (pv 0) pe_int (fun _ _ => rfl)))) pe_int) pe_int) pa_nil)) pe_int))
      (pss_one (ps_ret (pe_op op_mod (pe_op op_mod (pe_callTy call_int1 (by rfl) mI PySem.Pv.boot_int (pa_cons (pe_op op_pow (pe_op op_add (pe_op op_add (pe_op op_mul (pv 4) pe_int)
          (pe_op op_mul pe_int (pe_ix ix_list (pv 0) pe_int (fun _ _ => rfl)))) pe_int) pe_int) pa_nil)) pe_int) (pv 1)))))))
end
end K02

set_option Elab.async false
set_option linter.all false
set_option maxRecDepth 100000
set_option maxHeartbeats 4000000
/-! Draws: start, pick, mixed. -/
namespace K02
open PySem PySem.Spec PyProof.Rows L2 Evl
/-- the spring at p, its cells at q, n drawn -/
def Spr (H : Hp) (p q : Addr) (n : Int) : Prop := ∃ L a t, Stm H p q L a n t
theorem Spr.ext {H G : Hp} {p q : Addr} {n : Int} (e : Ex H G) (h : Spr H p q n) : Spr G p q n := let ⟨L, a, t, s⟩ := h; ⟨L, a, t, s.ext e⟩
theorem Spr.keep {H G : Hp} {p q : Addr} {n : Int} (h : Spr H p q n) (e1 : ∀ o, H p = some o → G p = some o) (e2 : ∀ o, H q = some o → G q = some o) : Spr G p q n := let ⟨L, a, t, s⟩ := h; ⟨L, a, t, e1 _ s.hp, e2 _ s.hq, s.ne, s.a0, s.n0, s.t0, s.t1⟩
theorem Spr.lst {H : Hp} {p q : Addr} {n : Int} (h : Spr H p q n) : ∃ xs ys, H p = some (.lst xs) ∧ H q = some (.lst ys) := let ⟨L, a, t, s⟩ := h; ⟨_, _, s.hp, s.hq⟩
section
variable {P : Program} {w : World} {K : PySem.W.Frag} {mg : Str → Option Value} {base : Heap} {C : Addr}
def spDr : Sp := fun vs H Q _ => ∃ (p q : Addr) (n m : Int), vs = [.ref p, .int m] ∧ Spr H p q n ∧ n < 10000000 ∧ 1 ≤ m ∧ m ≤ 1000 ∧
  ∀ (r : Int) (G : Hp), 0 ≤ r → r < m → Spr G p q (n + 1) → But p q H G → Q (.int r) G
theorem ok_dr (T : T02 P w K mg base) : Ok P w K mg base CX0 "_law_draw" ["_law_stream", "_law_many"] 1 spDr := by
  obtain ⟨⟨fd, F⟩, m⟩ := T.df 29 "_law_draw" s__law_draw rfl
  have G := ok_draw (P := P) (w := w) (mg := mg) (base := base) F T.int
  refine ⟨_, fd, ?_, F.bindsN fun kV doc pm an cdv ct us hl => match us, hl with | [_, _], _ => rfl, F.kp, m⟩
  exact FnOk.imp G fun vs H Q E ⟨p, q, n, m, h1, ⟨L, a, t, S⟩, h2, h3, h4, k⟩ => ⟨p, q, L, a, n, t, m, h1, S, h2, h3, h4, fun r G L' a' t' r0 r1 S' B => k r G r0 r1 ⟨L', a', t', S'⟩ B⟩
def spStart (K : PySem.W.Frag) : Sp := fun vs H Q _ => ∃ (a : Addr) (ns : List Int), vs = [.ref a] ∧ SqL K H a (ns.map V.int) ∧ ∀ p q G, H p = none → H q = none → Ex H G → Spr G p q 0 → Q (.ref p) G
theorem sc_start : FnScope ["_law_script"] ["_law_script"] (defScope s__law_start) := ⟨rfl, rfl, rfl, by decide +kernel, rfl, by decide +kernel, by decide +kernel⟩
theorem ok_start (T : T02 P w K mg base) : Ok P w K mg base CX0 "_law_start" ["_law_script"] 1 (spStart K) := by
  refine T.ok 28 rfl sc_start (fun vs H Q E h => ?_) (fun kV doc pm an cdv ct us hl => match us, hl with | [_], _ => rfl) (fun f cdv A outer s H vs Q E hr h => ?_)
  · obtain ⟨a, ns, rfl, _⟩ := h
    rfl
  · obtain ⟨a, ns, rfl, hS, k⟩ := h
    refine ⟨_, pss_one (ps_ret (pe_lst (pa_cons (pe_callTy call_list_of (by rfl) T.list PyProof.Rows.boot_list (pa_cons (pv 0) pa_nil)) (pa_cons pe_int (pa_cons pe_int (pa_cons pe_int pa_nil)))))), ?_⟩
    refine ⟨_, rfl, a, _, rfl, .inl hS, fun l nl => ⟨by show 4 ≤ sizeLine; rw [sizeLine_eq]; omega, fun p np => ?_⟩⟩
    have ne : l ≠ p := fun z => by
      rw [z, upd_same] at np
      cases np
    exact k p l _ (fresh_back (Ex.new nl) np) nl ((Ex.new nl).trans (Ex.new np)) ⟨ns, 0, 11, upd_same, by rw [upd_ne ne, upd_same], ne.symm, Int.le_refl _, Int.le_refl _, by decide, by decide⟩
def spPick (K : PySem.W.Frag) : Sp := fun vs H Q _ => ∃ (p q c : Addr) (n : Int) (xs : List V), vs = [.ref p, .ref c] ∧ Spr H p q n ∧ n < 10000000 ∧ H c = some (.lst xs) ∧ c ≠ p ∧ c ≠ q ∧ xs ≠ [] ∧ xs.length ≤ 1000 ∧
  ∀ (y : V) (G : Hp), y ∈ xs → Spr G p q (n + 1) → But p q H G → Q y G
theorem sc_pick : FnScope ["_law_stream", "_law_some"] ["_law_stream", "_law_some"] (defScope s__law_pick) := ⟨rfl, rfl, rfl, by decide +kernel, rfl, by decide +kernel, by decide +kernel⟩
theorem ok_pick (T : T02 P w K mg base) : Ok P w K mg base CX0 "_law_pick" ["_law_stream", "_law_some"] 2 (spPick K) := by
  obtain ⟨fD, dD, GD, bD, kD, mD⟩ := (ok_dr T).ex
  refine T.ok 30 rfl sc_pick (fun vs H Q E h => ?_) (fun kV doc pm an cdv ct us hl => match us, hl with | [_, _], _ => rfl) (fun f cdv A outer s H vs Q E hr h => ?_)
  · obtain ⟨p, q, c, n, xs, rfl, _⟩ := h
    rfl
  · obtain ⟨p, q, c, n, xs, rfl, S, hn, hc, n1, n2, hne, hl, k⟩ := h
    refine ⟨_, pss_one (ps_ret (pe_ix ix_list (pv 1) (pe_call GD hr (by rfl) mD kD bD .nil pass0 (pa_cons (pv 0) (pa_cons (pe_callB call_len (by rfl) T.len PySem.boot_len (pa_cons (pv 1) pa_nil)) pa_nil))) (fun _ _ => rfl))), ?_⟩
    have hpos : 0 < xs.length := List.length_pos_iff.mpr hne
    refine ⟨_, rfl, _, rfl, _, rfl, _, xs.length, rfl, .inl ⟨xs, sq_of hc, rfl⟩, p, q, n, _, rfl, S, hn, by omega, by omega, fun r G r0 r1 S' B => ?_⟩
    obtain ⟨j, rfl⟩ : ∃ j : Nat, r = (j : Int) := ⟨r.toNat, by omega⟩
    have hj : j < xs.length := by omega
    exact ⟨c, xs, _, xs[j], rfl, rfl, sq_of (B _ _ n1 n2 hc), atI_nat (by simp [hj]), k _ G (List.getElem_mem _) S' B⟩
end
end K02

set_option Elab.async false
set_option linter.all false
set_option maxRecDepth 100000
set_option maxHeartbeats 4000000
/-! Several except clauses, each with the same name for what it catches. -/
namespace K02
open PySem PySem.Spec PyProof.Rows L2 Evl
/-- what the clauses wish of what the body lets out, one behind another; slot i is their name's -/
def wNam (K : PySem.W.Frag) (i : Nat) (Wo : WX) (D : Ends) : List (Value × (Addr → Value → Option Addr → TS)) → WX
  | [] => Wo
  | p :: r => fun cl dc τ G => ∃ y, PySem.W.exmOne K cl p.1 = some y ∧ (y = true → ∀ ae, G ae = none → p.2 ae cl dc { nx := fun τ1 G1 => D.nx (τ1.set i none) G1, rt := D.rt, bk := fun τ1 G1 => D.bk (τ1.set i none) G1, ct := fun τ1 G1 => D.ct (τ1.set i none) G1 } (τ.set i (some (.ref ae))) G) ∧
      (y = false → wNam K i Wo D r cl dc τ G)
inductive HNam (X : Cx) (n : Str) : List ExceptHandler → List (Value × (Addr → Value → Option Addr → TS)) → Prop
  | nil : HNam X n [] []
  | cons {x : Str} {cv : Value} {tu : Addr → Value → Option Addr → TS} {st : Stmt} {sts : List Stmt} {p1 p2 : Pos} {hs : List ExceptHandler} {l : List (Value × (Addr → Value → Option Addr → TS))} (hcl : Names X x cv)
      (hbd : ∀ (ae : Addr) (ob : Obj) (cl : Value) (dc : Option Addr) (pn : List (Addr × Obj)), Zc cl dc ob → (∃ vs, ob.data = .fields vs) → PSs (X.suite ae ((ae, ob) :: pn)) (st :: sts) (tu ae cl dc)) (r : HNam X n hs l) :
      HNam X n (.ExceptHandler (some (.Name x p1)) (some n) (st :: sts) p2 :: hs) ((cv, tu) :: l)
section
variable {X : Cx} {body : List Stmt} {h1 : ExceptHandler} {hds : List ExceptHandler} {l : List (Value × (Addr → Value → Option Addr → TS))} {pos : Pos} {tb : WX → TS} {Wo : WX} {i : Nat} {n : Str}
theorem ps_tryN (hst : X.stack = X.env :: X.outer) (hfm : X.env.frame = some X.env.locals) (hN : X.N.Nodup) (hni : X.N[i]? = some n) (hnl : X.env.kindOf n = some .local) (tk : Takes X Wo)
    (hbody : ∀ (W : WX) (pn : List (Addr × Obj)) (xe : Value → Shared → Prop), Takes (X.tr pn xe) W → PassesOwn (model X.prog X.w) X.A X.env xe → PSs (X.tr pn xe) body (tb W))
    (hh : HNam X n (h1 :: hds) l) : PS X (.Try body (h1 :: hds) [] [] pos) (fun D τ G => tb (wNam X.K i Wo D l) D τ G) := by
  refine ⟨fun pins s τ G D I hw => ?_⟩
  have ok := I.ok
  have frs0 : X.A.frames = some (X.env :: X.outer) := by rw [ok.frames, hst]
  have locn : Loc X.env.scope n := .inl hnl
  refine wpAny_Try_except ?_
  refine wpAny_mono ((hbody (wNam X.K i Wo D l) (X.pn ++ pins) (fun e1 t1 => wpAny (model X.prog X.w) X.A (noteFrame e1 X.env) (fun _ t2 => wpAny (model X.prog X.w) X.A (setFlight e1 none) (fun _ t3 =>
    wpAny (model X.prog X.w) X.A (handleBy e1 X.env (h1 :: hds)) (SP X pins D) X.xe t3) X.xe t2) X.xe t1) (fun u t' xx => ?_) PassesOwn.looking).run [] s τ G D (I.toTry _) hw) (fun f t1 hsp => ?_) (fun e1 t1 he => he)
  · obtain ⟨ae, Bk, sK, pins', τ', G', cl, dc, rfl, J', nbk, upk, skk, nae, osk, agk, wish⟩ := xx
    have J : Inv X pins τ' G' sK := J'.ofTry ok
    have sk2 : Sky Bk (X.env :: X.outer) ae (Zc cl dc) X.env.locals t'.heap := by rw [← hst]; exact skk
    show wpAny (model X.prog X.w) X.A (noteFrame (.ref ae) X.env) _ _ _
    refine Sky.land Zc.steady frs0 hfm sk2 fun hp3 fl3 up3 => ?_
    have J3 : Inv X pins τ' G' { t' with heap := hp3 } := J.landed nbk fl3.1 (upk.trans up3) osk agk
    obtain ⟨ob3, vs3, at3, z3, dat3⟩ := fl3.there
    have offFr : ∀ {hq : Heap} {oq : Obj} {vq : Array Value}, hq.FunFrames Bk (X.env :: X.outer) → hq.get? ae = some oq → oq.data = .fields vq → ae ∉ frs (X.env :: X.outer) := fun {hq oq vq} ff eq dq hm => by
      obtain ⟨_, oz, ez, hnf⟩ := ff.mem hm
      rw [eq] at ez
      cases ez
      exact hnf _ dq
    have off3 := offFr fl3.2.2.1 at3 dat3
    have notL : ae ≠ X.env.locals := fun z => off3 (List.mem_filterMap.mpr ⟨X.env, List.mem_cons_self, by rw [hfm, z]⟩)
    have notF : ae ∉ X.fs := fun hm => by
      obtain ⟨ev, hev, qv⟩ := List.mem_filterMap.mp hm
      exact off3 (List.mem_filterMap.mpr ⟨ev, List.mem_cons_of_mem _ hev, qv⟩)
    have S3 := J3.suite at3 dat3 nae notL notF
    have walk : ∀ {hq : List ExceptHandler} {lq : List (Value × (Addr → Value → Option Addr → TS))}, HNam X n hq lq → wNam X.K i Wo D lq cl dc τ' G' →
        wpAny (model X.prog X.w) X.A (handleBy (.ref ae) X.env hq) (SP X pins D) X.xe { t' with heap := hp3 } := by
      intro hq lq hk
      induction hk with
      | nil =>
        intro ww
        refine wpAny_handleBy_nil ?_
        obtain ⟨b1, b2, b3, obj, fvs, Tc, oTc, tz, b4, b5, b6, b7, b8⟩ := id fl3
        unfold PySem.passOn
        refine wpAny_bind (wpAny_field b4 b6 b7 ?_)
        rw [if_neg (show ¬((Value.ref Tc == Value.none) = true) from by simp)]
        have out : wpAny (model X.prog X.w) X.A (setFlight (.ref ae) X.env.frame) (fun _ t4 => wpAny (model X.prog X.w) X.A (throw (.ref ae) : Sem Flow) (SP X pins D) X.xe t4) X.xe { t' with heap := hp3 } := by
          rw [hfm]
          refine HandSPX.setFlight_upZ fl3 fun hp4 hh4 up4 => wpAny_throw (tk _ _ ?_)
          exact ⟨ae, Bk, sK, pins, τ', G', cl, dc, rfl, J, nbk, (upk.trans up3).trans up4, .inr (.inr (by rw [hst]; exact hh4)), nae, osk, agk, ww⟩
        first
          | exact wpAny_bind (wpAny_pure (wpAny_bind out))
          | exact wpAny_bind out
      | @cons x cv tu st sts p1 p2 hq2 l2 hcl hbd r ih =>
        intro ww
        obtain ⟨y, hy, yes, no⟩ := ww
        refine wpAny_handleBy_cons (codeAny_handlers_test ?_) (by intro q; cases q)
        have lookT : PySem.W.Looks (model X.prog X.w) hp3 (typeOf (.ref ae)) cl := fun A2 Q2 E2 s2 k2 q2 => wpAny_typeOf_ref (k2 _ _ at3) (by rw [z3.1]; exact q2)
        have lookM := PySem.W.exm_one (M := model X.prog X.w) (J3.kIn) lookT hy
        have nameV : ∀ {Q2 : Value → Shared → Prop} {E2 : Value → Shared → Prop}, Q2 cv { t' with heap := hp3 } → wpAny (model X.prog X.w) (X.A.mark (some (.ref ae))) (eval (.Name x p1) X.env) Q2 E2 { t' with heap := hp3 } := fun {Q2 E2} q2 => by
          obtain ⟨g1, g2, g3 | ⟨g3, g4, g5⟩⟩ := hcl
          · exact ld_glob (X := X.suite ae ((ae, ob3) :: (X.pn ++ pins))) S3 g1 g3 q2 g2
          · exact ld_blt (X := X.suite ae ((ae, ob3) :: (X.pn ++ pins))) S3 g1 g3 g4 q2 g5 g2
        refine nameV (lookM.here ?_)
        cases y with
        | true =>
          refine codeAny_handlers_suite_as ?_
          refine HandSPX.lands_againZ fl3 fun hp4 fl4 up4 => ?_
          have J4 : Inv X pins τ' G' { t' with heap := hp4 } := J.landed nbk fl4.1 ((upk.trans up3).trans up4) osk agk
          obtain ⟨ob4, vs4, at4, z4, dat4⟩ := fl4.there
          have S4 := J4.suite at4 dat4 nae notL notF
          refine store_ok (X := X.suite ae ((ae, ob4) :: (X.pn ++ pins))) (v := .ref ae) S4 hN hni locn rfl (fun t5 S5 => ?_) (.inr hnl)
          refine wpAny_mono ((hbd ae ob4 cl dc (X.pn ++ pins) z4 ⟨_, dat4⟩).run [] t5 _ G' _ S5 (yes rfl ae nae)) (fun f t6 hsp => ?_) (fun _ _ z => False.elim z)
          have fin : ∀ {τ6 : L2.St} {G6 : Hp} {Q6 : Shared → Prop}, Inv (X.suite ae ((ae, ob4) :: (X.pn ++ pins))) [] τ6 G6 t6 → (∀ t7, Inv X pins (τ6.set i none) G6 t7 → Q6 t7) →
              wpAny (model X.prog X.w) X.A (do bindName X.env n .none; unbindBehindTheSuite X.env n p2) (fun _ t7 => Q6 t7) X.xe t6 := fun {τ6 G6 Q6} S6 q6 => gone_ok (S6.unsuite ok) hN hni hnl q6
          cases f with
          | next =>
            obtain ⟨τ6, G6, S6, w6⟩ := hsp
            exact fin S6 fun _ J7 => ⟨_, _, J7, w6⟩
          | brk =>
            obtain ⟨τ6, G6, S6, w6⟩ := hsp
            exact fin S6 fun _ J7 => ⟨_, _, J7, w6⟩
          | cont =>
            obtain ⟨τ6, G6, S6, w6⟩ := hsp
            exact fin S6 fun _ J7 => ⟨_, _, J7, w6⟩
          | ret u6 =>
            obtain ⟨v6, τ6, G6, S6, r6, w6⟩ := hsp
            exact fin S6 fun _ J7 => ⟨_, _, _, J7, r6, w6⟩
        | false =>
          show wpAny _ X.A (handleBy (.ref ae) X.env hq2) _ _ _
          exact ih (no rfl)
    exact walk hh wish
  · cases f with
    | next =>
      obtain ⟨τ2, G2, J2, w2⟩ := hsp
      exact wpAny_execs_nil ⟨τ2, G2, J2.ofTry ok, w2⟩
    | brk =>
      obtain ⟨τ2, G2, J2, w2⟩ := hsp
      exact ⟨τ2, G2, J2.ofTry ok, w2⟩
    | cont =>
      obtain ⟨τ2, G2, J2, w2⟩ := hsp
      exact ⟨τ2, G2, J2.ofTry ok, w2⟩
    | ret u2 =>
      obtain ⟨v2, τ2, G2, J2, r2, w2⟩ := hsp
      exact ⟨v2, τ2, G2, J2.ofTry ok, r2, w2⟩
end
end K02

set_option Elab.async false
set_option linter.all false
set_option maxRecDepth 100000
set_option maxHeartbeats 4000000
/-! What is met: told, or the thing of an error. -/
namespace K02
open PySem PySem.Spec PyProof.Rows L2 Evl LamX
/-- a new pair of a text and v -/
def Pr (s : Str) (v : V) (H : Hp) (Q : VK) : Prop := 2 ≤ sizeLine ∧ ∀ p, H p = none → Q (.ref p) (upd H p (.tup [.str s, v]))
/-- errors: their class, what they keep, how they are told -/
def mets : List (Str × Str × Str) := [("BadWord", "thing", "word"), ("BadPlace", "thing", "place"), ("BadSubstitution", "thing", "put"), ("BadRows", "index", "rows"), ("BadOrder", "thing", "order"), ("NotOrdered", "name", "name")]
def Emet (K : PySem.W.Frag) (Q : VK) : XK := fun cl dc G => ∃ q ∈ mets, cl = .ref (He.ga K q.1) ∧ ∃ dd v, dc = some dd ∧ G dd = some (.xd [(q.2.1, v)]) ∧ Pr q.2.2 v G Q
def TTmet (K : PySem.W.Frag) : (XK → Hp → VK → Prop) → Hp → VK → Prop := fun tl H Q => tl (Emet K Q) H (fun v G => Pr "told" v G Q)
def tuX (K : PySem.W.Frag) (x z s : Str) : Addr → Value → Option Addr → TS := fun ae cl dc => tRet (tTup (tCons (tC (.str s)) (tCons (tXf ae cl dc (He.ga K x) z (tVar 1)) tNil)))
def tuN : Addr → Value → Option Addr → TS := fun _ _ _ _ _ _ => False
def hlist (K : PySem.W.Frag) : List (Value × (Addr → Value → Option Addr → TS)) :=
  [(.ref (He.ga K "BadWord"), tuX K "BadWord" "thing" "word"), (.ref (He.ga K "BadPlace"), tuX K "BadPlace" "thing" "place"), (.ref (He.ga K "BadSubstitution"), tuX K "BadSubstitution" "thing" "put"), (.ref (He.ga K "BadPairs"), tuN), (.ref (He.ga K "BadClause"), tuN), (.ref (He.ga K "BadClauses"), tuN), (.ref (He.ga K "BadTaken"), tuN), (.ref (He.ga K "BadTruth"), tuN), (.ref (He.ga K "BadRows"), tuX K "BadRows" "index" "rows"), (.ref (He.ga K "BadOrder"), tuX K "BadOrder" "thing" "order"), (.ref (He.ga K "NotOrdered"), tuX K "NotOrdered" "name" "name"), (.ref (He.ga K "BadNumber"), tuN), (.ref (He.ga K "BadArities"), tuN), (.ref (He.ga K "NotGround"), tuN)]
abbrev nMe : List Str := ["_law_ask", "e"]
end K02

set_option Elab.async false
set_option linter.all false
set_option maxRecDepth 100000
set_option maxHeartbeats 4000000
/-! Drawn words: what holds of them. -/
namespace K02
open PySem PySem.Spec PyProof.Rows L2 Evl
mutual
def W.nd : W → Nat
  | .v _ => 1
  | .n _ as => W.nds as + 1
def W.nds : List W → Nat
  | [] => 0
  | x :: xs => x.nd + W.nds xs
end
mutual
theorem W.sz_nd : ∀ w : W, w.sz ≤ 2 * w.nd
  | .v _ => by show 1 ≤ 2 * 1; decide
  | .n _ as => by have := W.szs_nd as; show W.szs as + 2 ≤ 2 * (W.nds as + 1); omega
theorem W.szs_nd : ∀ ws : List W, W.szs ws ≤ 2 * W.nds ws
  | [] => Nat.le_refl _
  | x :: xs => by have h1 := W.sz_nd x; have h2 := W.szs_nd xs; show x.sz + W.szs xs ≤ 2 * (x.nd + W.nds xs); omega
end
theorem strips_len (xs : List O) : (O.strips xs).length = xs.length := by rw [strips_eq, List.length_map]
theorem os_len (as : List W) : (W.os as).length = as.length := by rw [W.os_map, List.length_map]
end K02

set_option Elab.async false
set_option linter.all false
set_option maxRecDepth 100000
set_option maxHeartbeats 4000000
/-! Words drawn. -/
namespace K02
open PySem PySem.Spec PyProof.Rows L2 Evl
theorem But.tx {p q : Addr} {H G : Hp} (B : But p q H G) (hp : ∃ xs, H p = some (.lst xs)) (hq : ∃ xs, H q = some (.lst xs)) : Tx H G := fun a xs h => B _ _ (fun z => by
  obtain ⟨ys, e⟩ := hp
  rw [z, e] at h
  cases h) (fun z => by
  obtain ⟨ys, e⟩ := hq
  rw [z, e] at h
  cases h) h
theorem Spr.tx {p q : Addr} {H G : Hp} {n : Int} (S : Spr H p q n) (B : But p q H G) : Tx H G := by
  obtain ⟨xs, ys, h1, h2⟩ := S.lst
  exact B.tx ⟨_, h1⟩ ⟨_, h2⟩
theorem Spr.nep {p q : Addr} {H : Hp} {n : Int} (S : Spr H p q n) {a : Addr} (h : H a = none) : a ≠ p ∧ a ≠ q := by
  obtain ⟨xs, ys, h1, h2⟩ := S.lst
  exact ⟨(ne_of_none h1 h).symm, (ne_of_none h2 h).symm⟩
section
variable {K : PySem.W.Frag} {σ : L2.St} {H : Hp} {te ta tb : TE}
def AllP (R : V → Hp → Prop) (m : Nat) (xs : List V) (G : Hp) : Prop := xs.length ≤ m ∧ ∀ y ∈ xs, R y G
theorem elp_cat {P1 P2 : List V → Hp → Prop} (ha : EvLP ta σ H P1) (hb : EvLP tb σ H P2) (u1 : ∀ xs, Up (P1 xs)) (u2 : ∀ xs, Up (P2 xs)) (hl : ∀ xs ys G, P1 xs G → P2 ys G → xs.length + ys.length ≤ 100000) :
    EvLP (tOp rCat ta tb) σ H (fun zs G => ∃ xs ys, zs = xs ++ ys ∧ P1 xs G ∧ P2 ys G) := fun H1 e Q q =>
  ha H1 e _ fun p1 xs H2 n1 e2 h1 q1 => hb H2 (e.trans e2) _ fun p2 ys H3 n2 e3 h2 q2 => ⟨p1, p2, xs, ys, rfl, rfl, e3 _ _ h1, h2, sz_of (hl _ _ _ (u1 _ _ _ e3 q1) q2),
    fun p hp => q p (xs ++ ys) _ (fresh_back (e2.trans e3) hp) ((e2.trans e3).trans (Ex.new hp)) upd_same ⟨xs, ys, rfl, u1 _ _ _ (e3.trans (Ex.new hp)) q1, u2 _ _ _ (Ex.new hp) q2⟩⟩
theorem EvLP.of {xs : List V} (h : EvL te σ H xs) : EvLP te σ H (fun ys _ => ys = xs) := fun H1 e Q q => h H1 e _ fun p H2 n e2 h2 => q p xs H2 n e2 h2 rfl
theorem EvLP.imp {P1 P2 : List V → Hp → Prop} (h : EvLP te σ H P1) (k : ∀ xs G, Ex H G → P1 xs G → P2 xs G) : EvLP te σ H P2 := fun H1 e Q q => h H1 e _ fun p xs H2 n e2 h2 h3 => q p xs H2 n e2 h2 (k xs H2 (e.trans e2) h3)
/-- a constant's word, in a list alone -/
theorem elp_c1 {s : Str} : EvLP (tLst (tCons (tTup (tCons (tC (.str s)) tNil)) tNil)) σ H (fun xs G => ∃ y, xs = [y] ∧ WV G y (.n s [])) := fun H1 e Q q =>
  ⟨by show 1 ≤ sizeLine; decide, fun t ht => ⟨by show 1 ≤ sizeLine; decide, fun p hp => q p _ _ (fresh_back (Ex.new ht) hp) ((Ex.new ht).trans (Ex.new hp)) upd_same ⟨_, rfl, WV.of (us := []) (Ex.new hp _ _ upd_same) rfl⟩⟩⟩
theorem elp_c2 {s1 s2 : Str} : EvLP (tLst (tCons (tTup (tCons (tC (.str s1)) tNil)) (tCons (tTup (tCons (tC (.str s2)) tNil)) tNil))) σ H (fun xs G => ∃ y1 y2, xs = [y1, y2] ∧ WV G y1 (.n s1 []) ∧ WV G y2 (.n s2 [])) := fun H1 e Q q =>
  ⟨by show 1 ≤ sizeLine; decide, fun t ht => ⟨by show 1 ≤ sizeLine; decide, fun t2 ht2 => ⟨by show 2 ≤ sizeLine; decide, fun p hp => q p _ _ (fresh_back ((Ex.new ht).trans (Ex.new ht2)) hp) (((Ex.new ht).trans (Ex.new ht2)).trans (Ex.new hp)) upd_same
    ⟨_, _, rfl, WV.of (us := []) (((Ex.new ht2).trans (Ex.new hp)) _ _ upd_same) rfl, WV.of (us := []) (Ex.new hp _ _ upd_same) rfl⟩⟩⟩⟩
theorem elp_rep {P : List V → Hp → Prop} {k : Int} (ha : EvLP ta σ H P) (u : ∀ xs, Up (P xs)) (hb : Ev tb σ H (.int k)) (hk : 0 ≤ k ∧ k ≤ 1) (hl : ∀ xs G, P xs G → xs.length ≤ 1000) : EvLP (tOp rRep ta tb) σ H (fun zs G => zs = [] ∨ P zs G) := fun H1 e Q q =>
  ha H1 e _ fun p1 xs H2 n1 e2 h1 q1 => hb H2 (e.trans e2) _ fun H3 e3 => by
    have q3 := u _ _ _ e3 q1
    have hz : xs.length * k.toNat ≤ 1000 := by
      have h2 := hl _ _ q3
      have h3 : k.toNat ≤ 1 := by omega
      calc xs.length * k.toNat ≤ xs.length * 1 := Nat.mul_le_mul_left _ h3
        _ ≤ 1000 := by omega
    refine ⟨p1, k, xs, rfl, rfl, e3 _ _ h1, by omega, by omega, sz_of (by omega), fun p hp => q p _ _ (fresh_back (e2.trans e3) hp) ((e2.trans e3).trans (Ex.new hp)) upd_same ?_⟩
    rcases (by omega : k = 0 ∨ k = 1) with rfl | rfl
    · exact .inl rfl
    · right
      show P (List.replicate 1 xs).flatten _
      simp
      exact u _ _ _ (Ex.new hp) q3
end
end K02

set_option Elab.async false
set_option linter.all false
set_option maxRecDepth 100000
set_option maxHeartbeats 4000000
/-! What is known beside some objects, and beside tables; words handed loosely. -/
namespace K02
open PySem PySem.Spec PyProof.Rows L2 Evl LamX
open Classical in
/-- the heap without the objects of B, without tables -/
noncomputable def Hx (B : Addr → Prop) (H : Hp) : Hp := fun b => if B b then none else match H b with
  | some (.tbl _) => none
  | o => o
theorem hx_of {B : Addr → Prop} {H : Hp} {b : Addr} {o : HO} (n : ¬ B b) (t : ∀ ps, o ≠ .tbl ps) (h : H b = some o) : Hx B H b = some o := by
  unfold Hx
  rw [if_neg n, h]
  split
  · rename_i ps e
    exact absurd (Option.some.inj e) (t ps)
  · rfl
theorem hx_to {B : Addr → Prop} {H : Hp} {b : Addr} {o : HO} (h : Hx B H b = some o) : ¬ B b ∧ (∀ ps, o ≠ .tbl ps) ∧ H b = some o := by
  unfold Hx at h
  by_cases n : B b
  · rw [if_pos n] at h
    cases h
  · rw [if_neg n] at h
    split at h
    · cases h
    · rename_i x hx
      exact ⟨n, fun ps e => hx ps (by rw [h, e]), h⟩
/-- all but the objects of B and the tables stay -/
def Go (B : Addr → Prop) (H G : Hp) : Prop := ∀ b o, ¬ B b → (∀ ps, o ≠ .tbl ps) → H b = some o → G b = some o
theorem Go.ex {B : Addr → Prop} {H G : Hp} (g : Go B H G) : Ex (Hx B H) (Hx B G) := fun b o h => by
  obtain ⟨h1, h2, h3⟩ := hx_to h
  exact hx_of h1 h2 (g b o h1 h2 h3)
theorem hx_ex {B : Addr → Prop} {H : Hp} : Ex (Hx B H) H := fun b o h => (hx_to h).2.2
theorem hx_mono {B B' : Addr → Prop} {H : Hp} (m : ∀ b, B b → B' b) : Ex (Hx B' H) (Hx B H) := fun b o h => by
  obtain ⟨h1, h2, h3⟩ := hx_to h
  exact hx_of (fun z => h1 (m b z)) h2 h3
theorem Go.of {B : Addr → Prop} {H G : Hp} (e : Ex H G) : Go B H G := fun b o _ _ h => e b o h
theorem Go.ofN {B : Addr → Prop} {H G : Hp} (e : ExtN H G) : Go B H G := fun b o _ t h => e b o h t
theorem Go.but {B : Addr → Prop} {p q : Addr} {H G : Hp} (e : But p q H G) (bp : B p) (bq : B q) : Go B H G := fun b o n _ h => e b o (fun z => n (by rw [z]; exact bp)) (fun z => n (by rw [z]; exact bq)) h
theorem Go.trans {B : Addr → Prop} {H G J : Hp} (a : Go B H G) (b : Go B G J) : Go B H J := fun c o n t h => b c o n t (a c o n t h)
theorem Go.upd {B : Addr → Prop} {H : Hp} {p : Addr} {o : HO} (b : B p) : Go B H (upd H p o) := fun c u n _ h => by
  rw [upd_ne (fun z => n (by rw [z]; exact b))]
  exact h
theorem Go.refl {B : Addr → Prop} {H : Hp} : Go B H H := fun _ _ _ _ h => h
theorem Go.new {B : Addr → Prop} {H : Hp} {p : Addr} {o : HO} (n : H p = none) : Go B H (L2.upd H p o) := Go.of (Ex.new n)
def Old (H : Hp) (b : Addr) : Prop := ∃ xs, H b = some (.lst xs)
theorem Old.ex {H G : Hp} (e : Ex H G) {b : Addr} (h : Old H b) : Old G b := by
  obtain ⟨xs, h⟩ := h
  exact ⟨xs, e _ _ h⟩
theorem Old.but {p q : Addr} {H G : Hp} {n : Int} (B : But p q H G) (S : Spr G p q n) {b : Addr} (h : Old H b) : Old G b := by
  obtain ⟨xs, ys, h1, h2⟩ := S.lst
  by_cases e1 : b = p
  · exact ⟨xs, by rw [e1]; exact h1⟩
  · by_cases e2 : b = q
    · exact ⟨ys, by rw [e2]; exact h2⟩
    · obtain ⟨zs, h⟩ := h
      exact ⟨zs, B _ _ e1 e2 h⟩
theorem Spr.old {p q : Addr} {H : Hp} {n : Int} (S : Spr H p q n) : Old H p ∧ Old H q := by
  obtain ⟨xs, ys, h1, h2⟩ := S.lst
  exact ⟨⟨_, h1⟩, ⟨_, h2⟩⟩
theorem not_old {H : Hp} {b : Addr} (h : H b = none) : ¬ Old H b := fun ⟨xs, e⟩ => by
  rw [h] at e
  cases e
theorem But.back {p q : Addr} {H G : Hp} {n : Int} (B : But p q H G) (S : Spr G p q n) {a : Addr} (h : G a = none) : H a = none := by
  obtain ⟨a1, a2⟩ := S.nep h
  cases e : H a with
  | none => rfl
  | some o =>
    have := B a o a1 a2 e
    rw [h] at this
    cases this
theorem asg_opL {σ : L2.St} {H : Hp} {D : Ends} {tz : TS} {r : R2} {ta tb : TE} {xs : List V} {g : TG} (h : EvL ta σ H xs) (k : ∀ p H1, H p = none → Ex H H1 → H1 p = some (.lst xs) → tb σ H1 (fun y H2 => r (.ref p) y H2 (fun x H3 => g x σ H3 (tz D)))) : tSeq (tAsg (tOp r ta tb) g) tz D σ H := h H (Ex.refl H) _ k
theorem lst_tbl {xs : List V} : ∀ ps, HO.lst xs ≠ .tbl ps := fun _ z => nomatch z
theorem tup_tbl {xs : List V} : ∀ ps, HO.tup xs ≠ .tbl ps := fun _ z => nomatch z
end K02

set_option Elab.async false
set_option linter.all false
set_option maxRecDepth 100000
set_option maxHeartbeats 4000000
/-! Data the same. -/
namespace K02
open PySem PySem.Spec PyProof.Rows L2 Evl
mutual
def O.dq : O → Nat
  | .non => 0 | .bl _ => 0 | .int _ => 0 | .str _ => 0 | .dct => 2 | .lst xs => O.dqs xs + 1 | .tup xs => O.dqs xs + 1
def O.dqs : List O → Nat
  | [] => 0
  | x :: xs => max x.dq (O.dqs xs)
end
mutual
def O.mx : O → Nat
  | .non => 0 | .bl _ => 0 | .int _ => 0 | .str _ => 0 | .dct => 0 | .lst xs => max xs.length (O.mxs xs) | .tup xs => max xs.length (O.mxs xs)
def O.mxs : List O → Nat
  | [] => 0
  | x :: xs => max x.mx (O.mxs xs)
end
theorem seq_mx {b : Bool} {xs : List O} : (O.seq b xs).mx = max xs.length (O.mxs xs) := by cases b <;> rfl
theorem mxs_le : ∀ {xs : List O} {i : Nat} {x : O}, xs[i]? = some x → x.mx ≤ O.mxs xs
  | [], _, _, h => by simp at h
  | a :: as, 0, x, h => by
    obtain rfl : a = x := by simpa using h
    exact Nat.le_max_left _ _
  | a :: as, i + 1, x, h => Nat.le_trans (mxs_le (xs := as) (i := i) (by simpa using h)) (Nat.le_max_right _ _)
theorem mxs_all {n : Nat} : ∀ {xs : List O}, (∀ x ∈ xs, x.mx ≤ n) → O.mxs xs ≤ n
  | [], _ => Nat.zero_le _
  | x :: xs, h => Nat.max_le.mpr ⟨h x List.mem_cons_self, mxs_all fun y hy => h y (List.mem_cons_of_mem _ hy)⟩
theorem dqs_le : ∀ {xs : List O} {i : Nat} {x : O}, xs[i]? = some x → x.dq ≤ O.dqs xs
  | [], _, _, e => by simp at e
  | a :: as, 0, x, e => by
    obtain rfl : a = x := by simpa using e
    exact Nat.le_max_left _ _
  | a :: as, i + 1, x, e => Nat.le_trans (dqs_le (xs := as) (i := i) (by simpa using e)) (Nat.le_max_right _ _)
theorem szs_le : ∀ {xs : List O} {i : Nat} {x : O}, xs[i]? = some x → x.sz ≤ O.szs xs
  | [], _, _, e => by simp at e
  | a :: as, 0, x, e => by
    obtain rfl : a = x := by simpa using e
    exact Nat.le_add_right _ _
  | a :: as, i + 1, x, e => Nat.le_trans (szs_le (xs := as) (i := i) (by simpa using e)) (Nat.le_add_left _ _)
section
variable {P : Program} {w : World} {K : PySem.W.Frag} {mg : Str → Option Value} {base : Heap}
theorem all_true (n : Nat) : (List.replicate n true).all id = true := by
  induction n with
  | zero => rfl
  | succ n ih => rw [List.replicate_succ, List.all_cons, ih]; rfl
def spSa (m : Nat) : Sp := fun vs H Q _ => ∃ u v o, vs = [u, v] ∧ OV H u o ∧ OV H v o ∧ o.dq < m ∧ m ≤ 40 ∧ o.mx ≤ 40000 ∧ RetV (.bl true) H Q
theorem spv_sa {m : Nat} {u v : V} {o : O} {H : Hp} (h1 : OV H u o) (h2 : OV H v o) (hd : o.dq < m) (hm : m ≤ 40) (hs : o.mx ≤ 40000) : SpV (spSa m) ([u, v] ++ []) H (.bl true) := fun H1 e Q q E => ⟨u, v, o, rfl, h1.ext e, h2.ext e, hd, hm, hs, q⟩
abbrev nSa : List Str := ["_law_found", "_law_due", "_law_x", "_law_y"]
theorem sc_sa : FnScope nSa ["_law_found", "_law_due"] (defScope s__law_same) := ⟨rfl, rfl, rfl, by decide +kernel, rfl, by decide +kernel, by decide +kernel⟩
theorem boot_dict23 : bootBuiltins "dict" = some (.type "dict") := by decide +kernel
theorem kit_four (o : O) : PySem.W.kitAny K (.type o.ty) (["int", "list", "tuple", "dict"].map Value.type) = some (o.isInt || (o.isLst || (o.isTup || o.isDct))) := by
  refine kitAny_cons (b := o.isInt) (kit_ty (kit_int o)) (fun h1 => ?_) fun h1 => by rw [h1]; rfl
  rw [h1, Bool.false_or]
  refine kitAny_cons (b := o.isLst) (kit_ty (kit_lst o)) (fun h2 => ?_) fun h2 => by rw [h2]; rfl
  rw [h2, Bool.false_or]
  refine kitAny_cons (b := o.isTup) (kit_ty (kit_tup o)) (fun h3 => ?_) fun h3 => by rw [h3]; rfl
  rw [h3, Bool.false_or]
  refine kitAny_cons (b := o.isDct) (kit_ty (kit_dct o)) (fun h4 => ?_) fun h4 => by rw [h4]
  rw [h4]
  exact kitAny_nil
theorem ok_same (T : T02 P w K mg base) : ∀ m, Ok P w K mg base CX0 "_law_same" ["_law_found", "_law_due"] (m + 1) (spSa m)
  | 0 => T.ok 32 rfl sc_sa (fun vs H Q E h => by obtain ⟨u, v, o, rfl, _⟩ := h; rfl) (fun kV doc pm an cdv ct us hl => match us, hl with | [_, _], _ => rfl) (fun f cdv A outer s H vs Q E hr h => by obtain ⟨u, v, o, _, _, _, h0, _⟩ := h; exact absurd h0 (Nat.not_lt_zero _))
  | m + 1 => by
    obtain ⟨fR, dR, GR, bR, kR, mR⟩ := (ok_same T m).ex
    refine T.ok 32 rfl sc_sa (fun vs H Q E h => ?_) (fun kV doc pm an cdv ct us hl => match us, hl with | [_, _], _ => rfl) (fun f cdv A outer s H vs Q E hr h => ?_)
    · obtain ⟨u, v, o, rfl, _⟩ := h
      rfl
    · obtain ⟨u, v, o, rfl, hu, hv, hd, hm, hs, k⟩ := h
      refine ⟨_, pss_cons (ps_if (pt_val (pe_isiLT T.isi T.list T.tuple (pv 1)))
          (pss_cons (ps_if (PW.pt (pw_or (pt_cmpR op_ne (pe_isiB T.isi T.list PyProof.Rows.boot_list (pv 0)) (pe_isiB T.isi T.list PyProof.Rows.boot_list (pv 1)) (nomark _)) (pw_or1 (pt_cmpR op_ne (pe_isiB T.isi T.tuple PyProof.Rows.boot_tuple (pv 0)) (pe_isiB T.isi T.tuple PyProof.Rows.boot_tuple (pv 1)) (nomark _))))) (pss_one ps_never) pss_nil)
          (pss_one (ps_ret (pe_and (pe_cmpR op_eq (pe_callB call_len (by rfl) T.len PySem.boot_len (pa_cons (pv 0) pa_nil)) (pe_callB call_len (by rfl) T.len PySem.boot_len (pa_cons (pv 1) pa_nil)) (nomark _))
            (pe_one (pe_callB (cr_all rfl) (by rfl) T.all (by decide +kernel) (pa_cons (pe_lc (own := [("_law_x", 2), ("_law_y", 3)]) (g := gPair K 2 3) (tt := tYes) (te := tCall (spSa m) [] E0 (tCons (tVar 2) (tCons (tVar 3) tNil))) rfl sc_sa.nd (RZ.pi_zipA (by rfl) T.zip (pa_cons (pv 0) (pa_cons (pv 1) pa_nil))) (blkOk_by (N := nSa) (sc := defScope s__law_same) (by decide +kernel))
              (fun _ _ _ _ _ => pg_tup rfl (pgs_cons (pg_name (i := 2) sc_sa.nd rfl (Or.inl rfl)) (pgs_cons (pg_name (i := 3) sc_sa.nd rfl (Or.inl rfl)) pgs_nil))) (fun _ _ _ _ _ => pts_nil) (fun _ _ _ _ _ => pe_call GR hr (by rfl) mR kR bR .nil pass0 (pa_cons (pv 2) (pa_cons (pv 3) pa_nil)))) pa_nil)))))))
          pss_nil)
        (pss_cons (ps_if (pt_val (pe_isiB T.isi T.dict boot_dict23 (pv 1))) (pss_one (ps_ret (pe_and (pe_isiB T.isi T.dict boot_dict23 (pv 0))
            (pe_one (pe_call GR hr (by rfl) mR kR bR .nil pass0 (pa_cons (LiI.pe_listItems rfl (pv 0) (by rfl) T.list PyProof.Rows.boot_list) (pa_cons (LiI.pe_listItems rfl (pv 1) (by rfl) T.list PyProof.Rows.boot_list) pa_nil))))))) pss_nil)
        (pss_cons (ps_if (pt_val (pe_isiB T.isi T.int PyProof.Rows.boot_int (pv 1))) (pss_one (ps_ret (pe_and (pe_isiB T.isi T.int PyProof.Rows.boot_int (pv 0)) (pe_and (pe_cmpR op_eq (pe_isiB T.isi T.bool PyProof.Rows.boot_bool (pv 0)) (pe_isiB T.isi T.bool PyProof.Rows.boot_bool (pv 1)) (nomark _))
            (pe_one (pe_cmpR op_eq (pv 0) (pv 1) (nomark _))))))) pss_nil)
        (pss_one (ps_ret (pe_and (pe_not (pe_callB call_isiT (by rfl) T.isi PyProof.Rows.boot_isinstance (pa_cons (pv 0) (pa_cons (pe_tup (pa_cons (pe_bltn (v := .ty "int") (by rfl) T.int PyProof.Rows.boot_int rfl) (pa_cons (pe_bltn (v := .ty "list") (by rfl) T.list PyProof.Rows.boot_list rfl) (pa_cons (pe_bltn (v := .ty "tuple") (by rfl) T.tuple PyProof.Rows.boot_tuple rfl) (pa_cons (pe_bltn (v := .ty "dict") (by rfl) T.dict (by decide +kernel) rfl) pa_nil))))) pa_nil))))
          (pe_one (pe_cmpR op_eq (pv 0) (pv 1) (nomark _)))))))), ?_⟩
      have huo := hu
      have hvo := hv
      cases hq : o.isLst || o.isTup with
      | true =>
        obtain ⟨b, xs, rfl⟩ := O.seq_of hq
        obtain ⟨a1, us, rfl, ha1, hus⟩ := hu.seq
        obtain ⟨a2, ws, rfl, ha2, hws⟩ := hv.seq
        have sq1 : SqB H b a1 us := ha1
        have sq2 : SqB H b a2 ws := ha2
        have hul := hus.length
        have hwl := hws.length
        rw [seq_mx] at hs
        have hxl := Nat.le_max_left xs.length (O.mxs xs)
        have hxm := Nat.le_max_right xs.length (O.mxs xs)
        have hdq : O.dqs xs < m := by
          have : (O.seq b xs).dq = O.dqs xs + 1 := by cases b <;> rfl
          omega
        refine q_if (b := true) (et_is (et_B (ev_isSeq (ev_var rfl) hvo)) hq) (fun _ H1 e1 => ?_) (fun z => nomatch z)
        refine q_when (b := false) (et_is (et_or (a := false) (b := false) (et_is (et_test (ev_op (ev_isLst (ev_var rfl) (huo.ext e1)) (ev_isLst (ev_var rfl) (hvo.ext e1)) rv_neB)) (by simp)) fun _ => et_is (et_test (ev_op (ev_isTup (ev_var rfl) (huo.ext e1)) (ev_isTup (ev_var rfl) (hvo.ext e1)) rv_neB)) (by simp)) rfl) (fun z => nomatch z) fun _ H2 e2 => ?_
        have e02 := e1.trans e2
        have sq12 := sq1.ext e02
        have sq22 := sq2.ext e02
        refine s_ret (ev_andV (a := true) (b := true) (ev_is (ev_op (ev_lenQ (ev_var rfl) sq12) (ev_lenQ (ev_var rfl) sq22) (rv_eq rfl)) (congrArg V.bl (decide_eq_true (by rw [hul, hwl])))) fun _ G1 g1 Q1 q1 => ?_) fun H3 e3 => k H3 (e02.trans e3)
        have turn : ∀ (Dl : Addr) (i : Nat) (x : V) (G G' : Hp), G1 Dl = none → i < us.length → (Ex G1 G ∧ G Dl = some (.lst ((List.replicate i true).map V.bl))) → YPair (fun i => us[i]?) (fun i => ws[i]?) i G x G' → gPair K 2 3 x (wipe [some (.ref a1), some (.ref a2), none, none] [2, 3]) G' fun σ2 H2 => wipe σ2 [2, 3] = wipe [some (.ref a1), some (.ref a2), none, none] [2, 3] ∧ tYes σ2 H2 fun b H3 =>
            if b = true then tCall (spSa m) [] E0 (tCons (tVar 2) (tCons (tVar 3) tNil)) σ2 H3 fun y H4 => ∃ acc, H4 Dl = some (.lst acc) ∧ acc.length < sizeLine ∧ (Ex G1 (upd H4 Dl (.lst (acc ++ [y]))) ∧ (upd H4 Dl (.lst (acc ++ [y]))) Dl = some (.lst ((List.replicate (i + 1) true).map V.bl))) else Ex G1 H3 ∧ H3 Dl = some (.lst ((List.replicate (i + 1) true).map V.bl)) := by
          rintro Dl i x G G' hD hi ⟨c1, c2⟩ ⟨t, x1, x2, rfl, ht, rfl, hx1, hx2⟩
          obtain ⟨y1, hy1, ho1⟩ := hus.get hx1
          obtain ⟨y2, hy2, ho2⟩ := hws.get hx2
          rw [hy1] at hy2
          obtain rfl : y1 = y2 := Option.some.inj hy2
          have eT : Ex G (upd G t (.tup [x1, x2])) := Ex.new ht
          have h3 := dqs_le hy1
          have h4 := mxs_le hy1
          refine ⟨t, _, rfl, st_of upd_same, rfl, _, _, rfl, _, _, rfl, rfl, rfl, ?_⟩
          unfold tYes
          dsimp only
          rw [if_pos rfl]
          have eall := ((e02.trans g1).trans c1).trans eT
          refine ⟨_, rfl, _, rfl, x1, x2, y1, rfl, ho1.ext eall, ho2.ext eall, by omega, by omega, by omega, fun G3 g3 => ⟨_, g3 _ _ (eT _ _ c2), sz_lt (by simp; omega), Ex.mut ((c1.trans eT).trans g3) hD, ?_⟩⟩
          rw [upd_same, List.replicate_succ']
          simp
        have fin : ∀ (Dl : Addr) (G : Hp), (Ex G1 G ∧ G Dl = some (.lst ((List.replicate (min us.length ws.length) true).map V.bl))) → ∃ (p : Addr) (bs : List Bool), [V.ref Dl] = [V.ref p] ∧ SqL K G p (bs.map V.bl) ∧ Q1 (.bl (bs.all id)) G := by
          rintro Dl G ⟨c1, c2⟩
          exact ⟨Dl, _, rfl, sq_of c2, by rw [all_true]; exact q1 G c1⟩
        have h1 := sq12.ext g1
        have h2 := sq22.ext g1
        refine ⟨_, rfl, _, rfl, a1, a2, us, ws, rfl, ?_⟩
        cases b with
        | true => exact .inl ⟨sq_of h1, sq_of h2, fun Dl hD => lc_it (walk_zip (K := K) (a := a1) (b := a2) (xs := us) (ys := ws) rfl) (fun i G => Ex G1 G ∧ G Dl = some (.lst ((List.replicate i true).map V.bl))) ⟨Ex.new hD, upd_same⟩ (fun i G _ c => ⟨sq_of (c.1 _ _ h1), sq_of (c.1 _ _ h2)⟩) (fun i x G G' hi c y => turn Dl i x G G' hD (by omega) c y) (fun G c => fin Dl G c)⟩
        | false => exact .inr ⟨st_of h1, st_of h2, fun Dl hD => lc_it (walk_zipT (K := K) (a := a1) (b := a2) (xs := us) (ys := ws) rfl) (fun i G => Ex G1 G ∧ G Dl = some (.lst ((List.replicate i true).map V.bl))) ⟨Ex.new hD, upd_same⟩ (fun i G _ c => ⟨st_of (c.1 _ _ h1), st_of (c.1 _ _ h2)⟩) (fun i x G G' hi c y => turn Dl i x G G' hD (by omega) c y) (fun G c => fin Dl G c)⟩
      | false =>
        have hd1 : o.isLst = false := (Bool.or_eq_false_iff.mp hq).1
        have hd2 : o.isTup = false := (Bool.or_eq_false_iff.mp hq).2
        refine q_when (b := false) (et_is (et_B (ev_isSeq (ev_var rfl) hvo)) hq) (fun z => nomatch z) fun _ H1 e1 => ?_
        cases hdd : o.isDct with
        | true =>
          cases o with
          | dct =>
            obtain ⟨a1, rfl, ha1⟩ := huo
            obtain ⟨a2, rfl, ha2⟩ := hvo
            have hm2 : 2 < m + 1 := hd
            refine q_when (b := true) (et_B (ev_isDct (o := .dct) (ev_var rfl) ⟨a2, rfl, e1 _ _ ha2⟩)) (fun _ H2 e2 => ?_) fun z => nomatch z
            have e02 := e1.trans e2
            refine s_ret (ev_andV (a := true) (b := true) (ev_isDct (o := .dct) (ev_var rfl) ⟨a1, rfl, e02 _ _ ha1⟩) fun _ G1 g1 Q1 q1 => ?_) fun H3 e3 => k H3 (e02.trans e3)
            refine ⟨.ref a1, rfl, a1, [], rfl, g1 _ _ (e02 _ _ ha1), fun G2 p1 ts1 x1 n1 _ _ h1 pr1 => ⟨.ref a2, rfl, a2, [], rfl, x1 _ _ (g1 _ _ (e02 _ _ ha2)), fun G3 p2 ts2 x2 n2 _ _ h2 pr2 => ?_⟩⟩
            cases pr1
            cases pr2
            have x2' : Ex G2 G3 := x2
            have x1' : Ex G1 G2 := x1
            exact ⟨.ref p1, .ref p2, .lst [], rfl, ⟨p1, [], rfl, x2' _ _ h1, rfl⟩, ⟨p2, [], rfl, h2, rfl⟩, by show 1 < m; omega, by omega, by decide, fun G4 g4 => q1 G4 ((x1'.trans x2').trans g4)⟩
          | _ => cases hdd
        | false =>
          refine q_when (b := false) (et_is (et_B (ev_isDct (ev_var rfl) (hvo.ext e1))) hdd) (fun z => nomatch z) fun _ H2 e2 => ?_
          have e02 := e1.trans e2
          cases hii : o.isInt with
          | true =>
            refine q_when (b := true) (et_is (et_B (ev_isInt (ev_var rfl) (hvo.ext e02))) hii) (fun _ H3 e3 => ?_) fun z => nomatch z
            have e03 := e02.trans e3
            refine s_ret (ev_andV (a := true) (b := true) (ev_is (ev_isInt (ev_var rfl) (huo.ext e03)) (by rw [hii])) fun _ => ev_andV (a := true) (b := true) (ev_is (ev_op (ev_isBool (ev_var rfl) (huo.ext e03)) (ev_isBool (ev_var rfl) (hvo.ext e03)) (rv_eq rfl)) (congrArg V.bl (decide_eq_true rfl))) fun _ => ?_) fun H4 e4 => k H4 (e03.trans e4)
            cases o with
            | bl c =>
              obtain rfl : u = .bl c := huo
              obtain rfl : v = .bl c := hvo
              exact ev_is (ev_op (ev_var rfl) (ev_var rfl) (rv_eq rfl)) (congrArg V.bl (decide_eq_true rfl))
            | int c =>
              obtain rfl : u = .int c := huo
              obtain rfl : v = .int c := hvo
              exact ev_is (ev_op (ev_var rfl) (ev_var rfl) (rv_eq rfl)) (congrArg V.bl (decide_eq_true rfl))
            | _ => cases hii
          | false =>
            refine q_when (b := false) (et_is (et_B (ev_isInt (ev_var rfl) (hvo.ext e02))) hii) (fun z => nomatch z) fun _ H3 e3 => ?_
            have e03 := e02.trans e3
            have hu3 := huo.ext e03
            have h4 : PySem.W.kitAny K (.type o.ty) (["int", "list", "tuple", "dict"].map Value.type) = some false := by
              rw [kit_four, hii, hd1, hd2, hdd]
              rfl
            refine s_ret (ev_andV (a := true) (b := true) (ev_notV (a := false) (ev_isiN (m := o.ty) (cs := ["int", "list", "tuple", "dict"]) (ev_var rfl) hu3.tyx h4 (eu_tup (ea_cons ev_c (ea_cons ev_c (ea_cons ev_c (ea_cons ev_c ea_nil)))) (by show 4 ≤ 100000; decide)))) fun _ => ?_) fun H4 e4 => k H4 (e03.trans e4)
            cases o with
            | non =>
              obtain rfl : u = .non := huo
              obtain rfl : v = .non := hvo
              exact ev_is (ev_op (ev_var rfl) (ev_var rfl) (rv_eq rfl)) (congrArg V.bl (decide_eq_true rfl))
            | str c =>
              obtain rfl : u = .str c := huo
              obtain rfl : v = .str c := hvo
              exact ev_is (ev_op (ev_var rfl) (ev_var rfl) (rv_eq rfl)) (congrArg V.bl (decide_eq_true rfl))
            | bl c => cases hii
            | int c => cases hii
            | dct => cases hdd
            | lst c => cases hd1
            | tup c => cases hd2
end
end K02

set_option Elab.async false
set_option linter.all false
set_option maxRecDepth 100000
set_option maxHeartbeats 4000000
/-! Things that are no words. -/
namespace K02
open PySem PySem.Spec PyProof.Rows L2 Evl
/-- a new thing, beside the lists of H0 -/
def EvOx (H0 : Hp) (te : TE) (σ : L2.St) (H : Hp) (o : O) : Prop := ∀ H1, Ex H H1 → ∀ Q : VK, (∀ v H2, Ex H1 H2 → OV (Hx (Old H0) H2) v o → Q v H2) → te σ H1 Q
def EvAx (H0 : Hp) (ta : TA) (σ : L2.St) (H : Hp) (os : List O) : Prop := ∀ H1, Ex H H1 → ∀ Q : List V → Hp → Prop, (∀ vs H2, Ex H1 H2 → OVs (Hx (Old H0) H2) vs os → Q vs H2) → ta σ H1 Q
def EvLx (H0 : Hp) (te : TE) (σ : L2.St) (H : Hp) (os : List O) : Prop := ∀ H1, Ex H H1 → ∀ Q : VK, (∀ p xs H2, H1 p = none → Ex H1 H2 → H2 p = some (.lst xs) → OVs (Hx (Old H0) H2) xs os → Q (.ref p) H2) → te σ H1 Q
section
variable {H0 H : Hp} {σ : L2.St} {te : TE} {ta : TA}
theorem eox_int {i : Int} : EvOx H0 (tC (.int i)) σ H (.int i) := fun H1 e Q q => q _ _ (Ex.refl _) rfl
theorem eox_str {i : Str} : EvOx H0 (tC (.str i)) σ H (.str i) := fun H1 e Q q => q _ _ (Ex.refl _) rfl
theorem eox_bl {i : Bool} : EvOx H0 (tC (.bl i)) σ H (.bl i) := fun H1 e Q q => q _ _ (Ex.refl _) rfl
theorem eox_non : EvOx H0 (tC .non) σ H .non := fun H1 e Q q => q _ _ (Ex.refl _) rfl
theorem eax_nil : EvAx H0 tNil σ H [] := fun H1 e Q q => q _ _ (Ex.refl _) rfl
theorem eax_cons {o : O} {os : List O} (h : EvOx H0 te σ H o) (k : EvAx H0 ta σ H os) : EvAx H0 (tCons te ta) σ H (o :: os) := fun H1 e Q q =>
  h H1 e _ fun v H2 e2 hv => k H2 (e.trans e2) _ fun vs H3 e3 hvs => q (v :: vs) H3 (e2.trans e3) (.cons (hv.ext (Go.of e3).ex) hvs)
theorem eox_tup {os : List O} (h0 : Ex H0 H) (h : EvAx H0 ta σ H os) (n : os.length ≤ 1000) : EvOx H0 (tTup ta) σ H (.tup os) := fun H1 e Q q =>
  h H1 e _ fun vs H2 e2 hvs => ⟨sz_of (by rw [hvs.length]; omega), fun p hp => q (.ref p) _ (e2.trans (Ex.new hp)) ⟨p, vs, rfl, hx_of (not_old (fresh_back (h0.trans (e.trans e2)) hp)) tup_tbl upd_same, hvs.ext (Go.of (Ex.new hp)).ex⟩⟩
theorem eox_lst {os : List O} (h0 : Ex H0 H) (h : EvAx H0 ta σ H os) (n : os.length ≤ 1000) : EvOx H0 (tLst ta) σ H (.lst os) := fun H1 e Q q =>
  h H1 e _ fun vs H2 e2 hvs => ⟨sz_of (by rw [hvs.length]; omega), fun p hp => q (.ref p) _ (e2.trans (Ex.new hp)) ⟨p, vs, rfl, hx_of (not_old (fresh_back (h0.trans (e.trans e2)) hp)) lst_tbl upd_same, hvs.ext (Go.of (Ex.new hp)).ex⟩⟩
theorem eox_dct (h0 : Ex H0 H) : EvOx H0 tDNewK σ H .dct := fun H1 e Q q => fun p hp => q (.ref p) _ (Ex.new hp) ⟨p, rfl, hx_of (not_old (fresh_back (h0.trans e) hp)) (fun _ z => nomatch z) upd_same⟩
theorem elx_lst {os : List O} (h : EvAx H0 ta σ H os) (n : os.length ≤ 1000) : EvLx H0 (tLst ta) σ H os := fun H1 e Q q =>
  h H1 e _ fun vs H2 e2 hvs => ⟨sz_of (by rw [hvs.length]; omega), fun p hp => q p vs _ (fresh_back e2 hp) (e2.trans (Ex.new hp)) upd_same (hvs.ext (Go.of (Ex.new hp)).ex)⟩
theorem s_retLx {D : Ends} {os : List O} (h : EvLx H0 te σ H os) (k : ∀ p xs H1, H p = none → Ex H H1 → H1 p = some (.lst xs) → OVs (Hx (Old H0) H1) xs os → D.rt (.ref p) H1) : tRet te D σ H := h H (Ex.refl H) _ k
end
end K02

set_option Elab.async false
set_option linter.all false
set_option maxRecDepth 100000
set_option maxHeartbeats 4000000
/-! repr of words; defs that run where no guard stands. -/
namespace K02
open PySem PySem.Spec PyProof.Rows L2 Evl
/-- a def's promise where no guard stands -/
structure FnG (P : Program) (w : World) (K : PySem.W.Frag) (mg : Str → Option Value) (base : Heap) (k : Nat) (f : Addr) (fd : FuncData) (ps : List Str) (sp : Sp) : Prop where
  len : ∀ vs H Q E, sp vs H Q E → vs.length = ps.length
  run : ∀ (A : Around) (outer : List Env) (s : Shared) (H : Hp) (args : Args) (us : List Value) (vs : List V) (Q : VK), A.guards = some [] → Room k A → Env0 P w K mg base A outer s H → BindsTo s fd args (ps.zip us) → Vals vs us → sp vs H Q E0 →
    codeAny (model P w) A (.call (.ref f) args) (CR CX0 outer P w H s Q E0) s
section
variable {P : Program} {w : World} {K : PySem.W.Frag} {mg : Str → Option Value} {base : Heap}
theorem FnG.of {x qual : Str} {params : Arguments} {body : List Stmt} {scope : Scope} {f : Addr} {fd : FuncData} {N ps : List Str} {k : Nat} {sp : Sp} (F : FunD K x qual params body scope [] [] f fd) (S : FnScope N ps scope) (len : ∀ vs H Q E, sp vs H Q E → vs.length = ps.length)
    (hb : ∀ (c : Addr), (∃ oc od osl, K.lookup f = some ⟨oc, od, .func fd, osl⟩ ∧ fd.code = .ref c) → ∀ (A : Around) (outer : List Env) (s : Shared) (H : Hp) (vs : List V) (Q : VK), A.guards = some [] → Room k (A.deeper (envOfC qual scope s.heap.objs.size f (.ref c))) → sp vs H Q E0 →
      ∃ t, PSs (cxOf CX0 P w K mg base N qual scope f (.ref c) A outer s H E0) body t ∧ t { nx := fun _ G => Q .non G, rt := Q } (L2.start N vs) H) : FnG P w K mg base (k + 1) f fd ps sp := by
  obtain ⟨oc, od, dV, kV, doc, pm, an, cd, ct, osl, rfl, lk, hcd, _, _⟩ := F.ex
  obtain ⟨c, hc⟩ := He.codeIn_ref hcd
  subst hc
  constructor
  · exact len
  intro A outer s H args us vs Q hg hr e0 hbi r hs
  have hK : K.In s.heap := e0.mod.kin.keeps fun b o e => (e0.bs b o e).1
  have hL : s.heap.NoLimit := e0.mod.nolimit.keeps fun b o e => (e0.bs b o e).1
  refine codeAny_call_function hr.depth (hK _ _ lk) rfl S.co S.gen rfl (PySem.W.codeRec_of hK hcd) (hbi _ _ _ _ ?_)
  refine wpAny_newFunctionEnv_cells S.kind (fun y hy => ?_) fun env he s1 x => ?_
  · rcases S.par y.1 (List.of_mem_zip (a := y.1) (b := y.2) hy).1 with q | q
    · exact Or.inl q
    · exact Or.inr ⟨q, PySem.W.cellsFrom_some _ _ _ (Or.inl q)⟩
  · subst he
    obtain ⟨t, ht, hq⟩ := hb c ⟨_, _, _, lk, rfl⟩ A outer s H vs Q hg (hr.deeper _) hs
    refine ⟨hL.keeps x.toInCall.keep, codeAny_func (wpAny_mono (ht.run [] s1 (L2.start N vs) H _ (inv_start S hr.hd e0 (len _ _ _ _ hs) r x) hq) (fun fl s' z => ?_) fun _ _ z => z)⟩
    match fl, z with
    | .ret u, ⟨v, σ', G, J, rv, q⟩ => exact ⟨v, G, J.os, J.bare, J.base, J.hok, rv, q⟩
    | .next, ⟨σ', G, J, q⟩ => exact ⟨V.non, G, J.os, J.bare, J.base, J.hok, rfl, q⟩
    | .brk, ⟨_, _, _, q⟩ => exact q.elim
    | .cont, ⟨_, _, _, q⟩ => exact q.elim
end
section
variable {X : Cx}
/-- a call of such a def -/
theorem pe_callG {k : Nat} {f : Addr} {fd : FuncData} {ps : List Str} {sp : Sp} {x : Str} {p pos : Pos} {e : Expr} {es : List Expr} {t : TA} (F : FnG X.prog X.w X.K X.mg X.base k f fd ps sp) (hg : X.A.guards = some []) (hr : Room k X.A) (hx : Gl X x) (hm : X.mg x = some (.ref f))
    (hk : PySem.W.keepIn X.K (.ref f) = true) (hb : Binds X.K fd ps []) (ha : PA X (e :: es) t) (hdb : (x == ("__debug__" : Str)) = false := by decide) (he : starEach (e :: es) X.env = (false, eval e X.env) :: starEach es X.env := by rfl)
    (hpl : (backTo pos (starEach es X.env)).any (·.1) = false := by rfl) : PE X (.Call (.Name x p) (e :: es) [] pos) (tCall sp [] E0 t) := by
  refine ⟨fun pins s σ H Q I h => wpAny_Call_Name_kw (ld_glob I hx hm (PySem.W.callWith_K (h₀ := X.base) I.ok.mod.kin hk (thn (ha.run pos pins s σ H _ I h) fun us s1 ⟨vs, H1, I1, r, q⟩ => ⟨I1.kIn, ?_⟩) he hpl) hdb)⟩
  have q : sp (vs ++ []) H1 Q E0 := q
  rw [List.append_nil] at q
  have hl : us.length = ps.length := by
    rw [← r.length]
    exact F.len _ _ _ _ q
  have b := hb s1 us I1.kIn (by simpa using hl)
  rw [List.append_nil] at b
  refine wpAny_call (codeAny_mono (F.run X.A X.stack s1 H1 ⟨us, []⟩ us vs Q hg hr I1.env0 b r q) fun r s' z => ?_)
  match r, z with
  | .ok (.ret u), z => exact I1.after z
  | .error _, z => exact (show False from z).elim
/-! ### repr -/
def rRepr (K : PySem.W.Frag) : List V → Hp → VK → Prop := fun xs H Q => ∃ (v : V) (d : PyData), xs = [v] ∧ Dp K H v d ∧ d.hasDict = false ∧ d.showable = true ∧ d.depth ≤ 30 ∧ d.shown.length ≤ sizeLine ∧ ((∃ a, v = .ref a) ∨ ∃ x, v = .str x) ∧ Q (.str d.shown) H
theorem call_repr (hg : X.A.guards = some []) (hu : X.A.units + 100 < cLine) : CallR X (.builtin "repr") (rRepr X.K) := by
  intro pins s σ H xs us Q I r h
  obtain ⟨v, d, rfl, hd, h1, h2, h3, h4, hv, q⟩ := h
  obtain ⟨u, rfl, r1⟩ := vals1 r
  rcases hv with ⟨a, rfl⟩ | ⟨x, rfl⟩
  · obtain rfl : u = .ref a := r1
    obtain ⟨as, rd⟩ := Dp.reads I d _ _ hd rfl
    exact PySem.repr_of_reads' rd h2 (fun z => by rw [h1] at z; cases z) hg (by omega) (fun _ _ e => e) (fun h' t tk hk => ⟨.str _, H, I.kept hk, ⟨_, rfl⟩, q⟩) h4
  · obtain ⟨t, rfl⟩ := r1
    cases hd
    exact P.repr_of_str ⟨.str _, H, I.tok _, ⟨_, rfl⟩, q⟩ h4
end
/-! ### words as data -/
mutual
def O.py : O → PyData
  | .non => .none | .bl b => .bool b | .int i => .int i | .str s => .str s | .dct => .dict [] | .lst xs => .list (O.pys xs) | .tup xs => .tuple (O.pys xs)
def O.pys : List O → List PyData
  | [] => []
  | x :: xs => x.py :: O.pys xs
end
mutual
/-- data that may be compared -/
def O.ed : O → Bool
  | .non => true | .bl _ => true | .int _ => true | .str s => SS.contains s | .dct => false | .lst xs => O.eds xs | .tup xs => O.eds xs
def O.eds : List O → Bool
  | [] => true
  | x :: xs => x.ed && O.eds xs
end
mutual
/-- data that may be shown -/
def O.wd : O → Bool
  | .bl _ => true | .str s => SS.contains s | .lst xs => O.wds xs | .tup xs => O.wds xs | _ => false
def O.wds : List O → Bool
  | [] => true
  | x :: xs => x.wd && O.wds xs
end
mutual
theorem wd_ed : ∀ o : O, o.wd = true → o.ed = true
  | .non, h => nomatch h | .bl _, _ => rfl | .int _, h => nomatch h | .str s, h => h | .dct, h => nomatch h
  | .lst xs, h => wds_eds xs h
  | .tup xs, h => wds_eds xs h
theorem wds_eds : ∀ xs : List O, O.wds xs = true → O.eds xs = true
  | [], _ => rfl
  | x :: xs, h => by
    have h : (x.wd && O.wds xs) = true := h
    rw [Bool.and_eq_true] at h
    show (x.ed && O.eds xs) = true
    rw [wd_ed x h.1, wds_eds xs h.2]
    rfl
end
mutual
theorem strip_wd : ∀ o : O, o.strip.wd = o.wd
  | .non => rfl | .bl _ => rfl | .int _ => rfl | .str _ => rfl | .dct => rfl
  | .lst xs => strips_wd xs
  | .tup xs => strips_wd xs
theorem strips_wd : ∀ xs : List O, O.wds (O.strips xs) = O.wds xs
  | [] => rfl
  | x :: xs => by show (x.strip.wd && O.wds (O.strips xs)) = (x.wd && O.wds xs); rw [strip_wd x, strips_wd xs]
end
mutual
theorem strip_dp : ∀ o : O, o.strip.dp = o.dp
  | .non => rfl | .bl _ => rfl | .int _ => rfl | .str _ => rfl | .dct => rfl
  | .lst xs => by show O.dps (O.strips xs) + 1 = O.dps xs + 1; rw [strips_dp xs]
  | .tup xs => by show O.dps (O.strips xs) + 1 = O.dps xs + 1; rw [strips_dp xs]
theorem strips_dp : ∀ xs : List O, O.dps (O.strips xs) = O.dps xs
  | [] => rfl
  | x :: xs => by show max x.strip.dp (O.dps (O.strips xs)) = max x.dp (O.dps xs); rw [strip_dp x, strips_dp xs]
end
mutual
theorem strip_szz : ∀ o : O, o.strip.sz = o.sz
  | .non => rfl | .bl _ => rfl | .int _ => rfl | .str _ => rfl | .dct => rfl
  | .lst xs => by show O.szs (O.strips xs) + 1 = O.szs xs + 1; rw [strips_szz xs]
  | .tup xs => by show O.szs (O.strips xs) + 1 = O.szs xs + 1; rw [strips_szz xs]
theorem strips_szz : ∀ xs : List O, O.szs (O.strips xs) = O.szs xs
  | [] => rfl
  | x :: xs => by show x.strip.sz + O.szs (O.strips xs) = x.sz + O.szs xs; rw [strip_szz x, strips_szz xs]
end
theorem ss_cps : SS.all (fun s => s.cps.toList.all fun c => decide (c < 16 ^ 8)) = true := by decide +kernel
theorem ss_size : SS.all (fun s => decide (s.cps.size ≤ 8)) = true := by decide +kernel
theorem ss_lay : SS.all PyData.strOk = true := by decide +kernel
theorem ss_of {p : Str → Bool} (h : SS.all p = true) {s : Str} (k : SS.contains s = true) : p s = true := List.all_eq_true.mp h s (List.contains_iff_mem.mp k)
section
variable {K : PySem.W.Frag} {H : Hp}
mutual
theorem OV.dpd : ∀ {o : O} {v : V}, OV H v o → o.ed = true → Dp K H v o.py
  | .str s, v, h, k => by obtain rfl : v = .str s := h; exact .str s
  | .lst xs, v, h, k => by obtain ⟨a, vs, rfl, h1, h2⟩ := h; exact .lst (sq_of h1) (OVs.dpd h2 k)
  | .tup xs, v, h, k => by obtain ⟨a, vs, rfl, h1, h2⟩ := h; exact .tup (st_of h1) (OVs.dpd h2 k)
  | .non, v, h, _ => by obtain rfl : v = .non := h; exact .non
  | .bl b, v, h, _ => by obtain rfl : v = .bl b := h; exact .bl b
  | .int i, v, h, _ => by obtain rfl : v = .int i := h; exact .int i
  | .dct, _, _, k => nomatch k
theorem OVs.dpd : ∀ {os : List O} {vs : List V}, OVs H vs os → O.eds os = true → DpAll K H vs (O.pys os)
  | [], vs, h, k => by obtain rfl : vs = [] := h; exact .nil
  | x :: xs, vs, h, k => by
    obtain ⟨v, us, rfl, h1, h2⟩ := h
    have k : (x.ed && O.eds xs) = true := k
    rw [Bool.and_eq_true] at k
    exact .cons (OV.dpd h1 k.1) (OVs.dpd h2 k.2)
end
mutual
theorem O.lay : ∀ {o : O}, o.ed = true → o.py.canLay0 = true
  | .non, _ => by simp only [O.py, PyData.canLay0]
  | .bl _, _ => by simp only [O.py, PyData.canLay0]
  | .int _, _ => by simp only [O.py, PyData.canLay0]
  | .str s, h => by simp only [O.py, PyData.canLay0]; exact ss_of ss_lay h
  | .dct, h => nomatch h
  | .lst xs, h => by simp only [O.py, PyData.canLay0]; exact O.lays h
  | .tup xs, h => by simp only [O.py, PyData.canLay0]; exact O.lays h
theorem O.lays : ∀ {xs : List O}, O.eds xs = true → PyData.canLayAll0 (O.pys xs) = true
  | [], _ => by simp only [O.pys, PyData.canLayAll0]
  | x :: xs, h => by
    have h : (x.ed && O.eds xs) = true := h
    rw [Bool.and_eq_true] at h
    simp only [O.pys, PyData.canLayAll0, Bool.and_eq_true]
    exact ⟨O.lay h.1, O.lays h.2⟩
end
mutual
theorem O.pdp : ∀ o : O, o.ed = true → o.py.depth ≤ o.dp
  | .non, _ => by simp [O.py, PyData.depth] | .bl _, _ => by simp [O.py, PyData.depth] | .int _, _ => by simp [O.py, PyData.depth] | .str _, _ => by simp [O.py, PyData.depth]
  | .dct, h => nomatch h
  | .lst xs, h => by have := O.pdps xs h; simp only [O.py, PyData.depth, O.dp]; omega
  | .tup xs, h => by have := O.pdps xs h; simp only [O.py, PyData.depth, O.dp]; omega
theorem O.pdps : ∀ xs : List O, O.eds xs = true → PyData.depthAll (O.pys xs) ≤ O.dps xs
  | [], _ => by simp [O.pys, PyData.depthAll]
  | x :: xs, h => by
    have h : (x.ed && O.eds xs) = true := h
    rw [Bool.and_eq_true] at h
    have h1 := O.pdp x h.1
    have h2 := O.pdps xs h.2
    simp only [O.pys, PyData.depthAll, O.dps]
    omega
end
theorem O.shaped {o : O} (h : o.ed = true) (d : o.dp ≤ 60) : SeqAt.shaped o.py = true := by
  unfold SeqAt.shaped
  rw [O.lay h, decide_eq_true (by have := O.pdp o h; omega)]
  rfl
mutual
theorem O.py_nd : ∀ {o : O}, o.wd = true → o.py.hasDict = false ∧ o.py.showable = true ∧ o.py.leavesShort 8 = true ∧ o.py.weight + 1 ≤ 9 * o.sz ∧ o.py.depth ≤ o.dp
  | .str s, k => ⟨rfl, rfl, ss_of ss_cps k, by
      have := of_decide_eq_true (ss_of ss_size k)
      show s.cps.size + 1 ≤ 9 * 1
      omega, Nat.le_refl _⟩
  | .bl b, k => ⟨rfl, rfl, rfl, by show PyData.weight (.bool b) + 1 ≤ 9 * 1; cases b <;> simp [PyData.weight], Nat.le_refl _⟩
  | .lst xs, k => by
    obtain ⟨a, b, c, d, e⟩ := O.pys_nd (xs := xs) k
    exact ⟨by simpa only [O.py, PyData.hasDict] using a, by simpa only [O.py, PyData.showable] using b, by simpa only [O.py, PyData.leavesShort] using c, by simp only [O.py, PyData.weight, O.sz]; omega, by simp only [O.py, PyData.depth, O.dp]; omega⟩
  | .tup xs, k => by
    obtain ⟨a, b, c, d, e⟩ := O.pys_nd (xs := xs) k
    exact ⟨by simpa only [O.py, PyData.hasDict] using a, by simpa only [O.py, PyData.showable] using b, by simpa only [O.py, PyData.leavesShort] using c, by simp only [O.py, PyData.weight, O.sz]; omega, by simp only [O.py, PyData.depth, O.dp]; omega⟩
  | .non, k => nomatch k
  | .int _, k => nomatch k
  | .dct, k => nomatch k
theorem O.pys_nd : ∀ {xs : List O}, O.wds xs = true → PyData.hasDictAll (O.pys xs) = false ∧ PyData.showableAll (O.pys xs) = true ∧ PyData.leavesShortAll 8 (O.pys xs) = true ∧ PyData.weightAll (O.pys xs) ≤ 9 * O.szs xs ∧ PyData.depthAll (O.pys xs) ≤ O.dps xs
  | [], _ => ⟨rfl, rfl, rfl, Nat.zero_le _, Nat.zero_le _⟩
  | x :: xs, k => by
    have k : (x.wd && O.wds xs) = true := k
    rw [Bool.and_eq_true] at k
    obtain ⟨a1, b1, c1, d1, e1⟩ := O.py_nd (o := x) k.1
    obtain ⟨a, b, c, d, e⟩ := O.pys_nd (xs := xs) k.2
    have hs := x.sz_pos
    refine ⟨?_, ?_, ?_, ?_, ?_⟩
    · simp only [O.pys, PyData.hasDictAll, a1, a, Bool.or_false]
    · simp only [O.pys, PyData.showableAll, b1, b, Bool.and_true]
    · simp only [O.pys, PyData.leavesShortAll, c1, c, Bool.and_true]
    · simp only [O.pys, PyData.weightAll, O.szs]; omega
    · simp only [O.pys, PyData.depthAll, O.dps]; omega
end
abbrev tRpr (K : PySem.W.Frag) (te : TE) : TE := tCB (rRepr K) (tCons te tNil)
theorem ev_repr {σ : L2.St} {te : TE} {v : V} {o : O} (h : Ev te σ H v) (ov : OV H v o) (hw : o.wd = true) (hd : o.dp ≤ 12) (hs : o.sz ≤ 800) (hr : (o.isLst || (o.isTup || o.isStr)) = true) : Ev (tRpr K te) σ H (.str o.py.shown) := fun H1 x Q q =>
  h H1 x _ fun H2 x2 => by
    obtain ⟨a, b, c, d, e2⟩ := O.py_nd hw
    refine ⟨v, o.py, rfl, OV.dpd (ov.ext (x.trans x2)) (wd_ed o hw), a, b, by omega, PyData.shown_fits (B := 8) (by decide) (by decide) c (by omega), ?_, q H2 x2⟩
    cases o with
    | str s => exact .inr ⟨s, ov⟩
    | lst xs => obtain ⟨p, _, h, _⟩ := ov; exact .inl ⟨p, h⟩
    | tup xs => obtain ⟨p, _, h, _⟩ := ov; exact .inl ⟨p, h⟩
    | _ => cases hr
/-- data compared -/
def O.eqv (a b : O) : Bool := PyData.eqv a.py b.py
theorem rv_eqO {u v : V} {a b : O} (h1 : OV H u a) (h2 : OV H v b) (e1 : a.ed = true) (e2 : b.ed = true) (d1 : a.dp ≤ 60) (d2 : b.dp ≤ 60) : RV (rEqD K) u v H (.bl (a.eqv b)) := fun H1 e Q q =>
  ⟨a.py, b.py, OV.dpd (h1.ext e) e1, OV.dpd (h2.ext e) e2, O.shaped e1 d1, O.shaped e2 d2, q H1 (Ex.refl _)⟩
theorem rv_neO {u v : V} {a b : O} (h1 : OV H u a) (h2 : OV H v b) (e1 : a.ed = true) (e2 : b.ed = true) (d1 : a.dp ≤ 60) (d2 : b.dp ≤ 60) : RV (rNeD K) u v H (.bl (!a.eqv b)) := fun H1 e Q q =>
  ⟨a.py, b.py, OV.dpd (h1.ext e) e1, OV.dpd (h2.ext e) e2, O.shaped e1 d1, O.shaped e2 d2, q H1 (Ex.refl _)⟩
theorem pys_map : ∀ xs : List O, O.pys xs = xs.map O.py
  | [] => rfl
  | x :: xs => by rw [O.pys, pys_map xs]; rfl
theorem rv_inO {u : V} {a : Addr} {vs : List V} {x : O} {os : List O} (h1 : OV H u x) (ha : H a = some (.lst vs)) (h2 : OVs H vs os) (e1 : x.ed = true) (e2 : O.eds os = true) (d1 : x.dp ≤ 60) (d2 : O.dps os ≤ 50) : RV (rInD K) u (.ref a) H (.bl (os.any fun o => o.eqv x)) := fun H1 e Q q =>
  ⟨x.py, O.pys os, OV.dpd (h1.ext e) e1, .lst (sq_of (e _ _ ha)) (OVs.dpd (h2.ext e) e2), O.shaped e1 d1, O.shaped (o := .lst os) e2 (by show O.dps os + 1 ≤ 60; omega), by
    rw [pys_map, List.any_map]
    exact q H1 (Ex.refl _)⟩
theorem rv_niO {u : V} {a : Addr} {vs : List V} {x : O} {os : List O} (h1 : OV H u x) (ha : H a = some (.lst vs)) (h2 : OVs H vs os) (e1 : x.ed = true) (e2 : O.eds os = true) (d1 : x.dp ≤ 60) (d2 : O.dps os ≤ 50) : RV (rNotInD K) u (.ref a) H (.bl (!os.any fun o => o.eqv x)) := fun H1 e Q q =>
  ⟨x.py, O.pys os, OV.dpd (h1.ext e) e1, .lst (sq_of (e _ _ ha)) (OVs.dpd (h2.ext e) e2), O.shaped e1 d1, O.shaped (o := .lst os) e2 (by show O.dps os + 1 ≤ 60; omega), by
    rw [pys_map, List.any_map]
    exact q H1 (Ex.refl _)⟩
end
end K02

set_option Elab.async false
set_option linter.all false
set_option maxRecDepth 100000
set_option maxHeartbeats 4000000
/-! Substitutions, whatever stands for them. -/
namespace K02
open PySem PySem.Spec PyProof.Rows L2 Evl
theorem pe_or2 {X : Cx} {e : Expr} {t1 t2 : TE} (h1 : PE X e t1) (h2 : PE X e t2) : PE X e (fun σ H Q => t1 σ H Q ∨ t2 σ H Q) := ⟨fun pins s σ H Q I h => by
  rcases h with h | h
  · exact h1.run pins s σ H Q I h
  · exact h2.run pins s σ H Q I h⟩
section
variable {P : Program} {w : World} {K : PySem.W.Frag} {mg : Str → Option Value} {base : Heap}
/-! ### what is no text is no variable -/
def spN : Sp := fun vs H Q _ => ∃ v o, vs = [v] ∧ OV H v o ∧ o.isStr = false ∧ RetV (.bl false) H Q
theorem spN_len {vs : List V} {H : Hp} {Q : VK} {E : XK} (h : spN vs H Q E) : vs.length = 1 := by
  obtain ⟨v, o, rfl, _⟩ := h
  rfl
theorem spv_N {v : V} {o : O} {H : Hp} (h : OV H v o) (hs : o.isStr = false) : SpV spN ([v] ++ []) H (.bl false) := fun H1 e Q q E => ⟨v, o, rfl, h.ext e, hs, q⟩
/-! ### dicts as data -/
def kO : Key → O
  | .inl i => .int i
  | .inr s => .str s
theorem kO_ov {H : Hp} (k : Key) : OV H (kV k) (kO k) := by cases k <;> rfl
/-- the dict at d: its keys, its values -/
structure DD (H : Hp) (d : Addr) (ks : List (Key × O)) : Prop where
  ex : ∃ kvs, H d = some (.dK kvs) ∧ kvs.map (·.1) = ks.map (·.1) ∧ OVs H (kvs.map (·.2)) (ks.map (·.2))
  nd : (ks.map (·.1)).Nodup
theorem DD.ext {H G : Hp} {d : Addr} {ks : List (Key × O)} (h : DD H d ks) (e : Ex H G) : DD G d ks := by
  obtain ⟨kvs, a, b, c⟩ := h.ex
  exact ⟨⟨kvs, e _ _ a, b, c.ext e⟩, h.nd⟩
/-- a key and its value that may be asked about -/

theorem valV_at {kvs : List (Key × V)} (nd : (kvs.map (·.1)).Nodup) : ∀ {i : Nat} {p : Key × V}, kvs[i]? = some p → valV kvs p.1 = some p.2 := by
  induction kvs with
  | nil => intro i p h; simp at h
  | cons a r ih =>
    intro i p h
    rw [List.map_cons, List.nodup_cons] at nd
    unfold valV
    rw [List.find?_cons]
    cases i with
    | zero =>
      obtain rfl : a = p := by simpa using h
      simp
    | succ i =>
      have hp : r[i]? = some p := by simpa using h
      have hne : a.1 ≠ p.1 := fun z => nd.1 (by rw [z]; exact List.mem_map.mpr ⟨p, List.mem_of_getElem? hp, rfl⟩)
      rw [decide_eq_false hne]
      exact ih nd.2 hp
theorem dd_at {H : Hp} {kvs : List (Key × V)} {ks : List (Key × O)} (e : kvs.map (·.1) = ks.map (·.1)) (h : OVs H (kvs.map (·.2)) (ks.map (·.2))) {i : Nat} {p : Key × V} (hp : kvs[i]? = some p) : ∃ q, ks[i]? = some q ∧ q.1 = p.1 ∧ OV H p.2 q.2 := by
  have h1 : (ks.map (·.1))[i]? = some p.1 := by rw [← e, List.getElem?_map, hp]; rfl
  rw [List.getElem?_map] at h1
  obtain ⟨q, hq, e1⟩ := Option.map_eq_some_iff.mp h1
  obtain ⟨o, ho, hov⟩ := h.get (i := i) (v := p.2) (by rw [List.getElem?_map, hp]; rfl)
  rw [List.getElem?_map, hq] at ho
  obtain rfl := Option.some.inj ho
  exact ⟨q, hq, e1, hov⟩
end
end K02

set_option Elab.async false
set_option linter.all false
set_option maxRecDepth 100000
set_option maxHeartbeats 4000000
/-! _law_mixed. -/
namespace K02
open PySem PySem.Spec PyProof.Rows L2 Evl
section
variable {P : Program} {w : World} {K : PySem.W.Frag} {mg : Str → Option Value} {base : Heap} {C : Addr}
def spMix (K : PySem.W.Frag) : Sp := fun vs H Q _ => ∃ (p q c : Addr) (n : Int) (xs : List V), vs = [.ref p, .ref c] ∧ Spr H p q n ∧ n + (xs.length : Int) < 9000000 ∧ xs.length ≤ 500 ∧ SqL K H c xs ∧
  ∀ (r : Addr) (G : Hp) (ys : List V), H r = none → G r = some (.lst ys) → ys.Perm xs → Spr G p q (n + (xs.length : Int)) → But p q H G → Q (.ref r) G
abbrev nM : List Str := ["_law_stream", "_law_some", "_law_left", "_law_k"]
theorem sc_mix : FnScope nM ["_law_stream", "_law_some"] (defScope s__law_mixed) := ⟨rfl, rfl, rfl, by decide +kernel, rfl, by decide +kernel, by decide +kernel⟩
def mLen (K : PySem.W.Frag) (i : Nat) : TE := tCB (fun xs H Q => ∃ x n, xs = [x] ∧ LenV K x H n ∧ Q (.int n) H) (tCons (tVar i) tNil)
def mPop (K : PySem.W.Frag) : TE := tBM K "list" rPopAt (tVar 2) (tCons (tCall spDr [] E0 (tCons (tVar 0) (tCons (mLen K 2) tNil))) tNil)
theorem perm_eraseIdx {α : Type} : ∀ {l : List α} {j : Nat} {y : α}, l[j]? = some y → (y :: l.eraseIdx j).Perm l
  | [], j, y, h => by simp at h
  | x :: l, 0, y, h => by
    obtain rfl : x = y := by simpa using h
    exact List.Perm.refl _
  | x :: l, j + 1, y, h => by
    have ih := perm_eraseIdx (l := l) (j := j) (y := y) (by simpa using h)
    show (y :: x :: l.eraseIdx j).Perm (x :: l)
    exact (List.Perm.swap x y _).trans (ih.cons x)
theorem ok_mixed (T : T02 P w K mg base) : Ok P w K mg base CX0 "_law_mixed" ["_law_stream", "_law_some"] 2 (spMix K) := by
  obtain ⟨fD, dD, GD, bD, kD, mD⟩ := (ok_dr T).ex
  refine T.ok 31 rfl sc_mix (fun vs H Q E h => ?_) (fun kV doc pm an cdv ct us hl => match us, hl with | [_, _], _ => rfl) (fun f cdv A outer s H vs Q E hr h => ?_)
  · obtain ⟨p, q, c, n, xs, rfl, _⟩ := h
    rfl
  · obtain ⟨p, q, c, n, xs, rfl, S, hn, hz, hS, k⟩ := h
    refine ⟨_, pss_cons (ps_set (i := 2) sc_mix.nd rfl (.inr rfl) (pe_callTy call_list_of (by rfl) T.list PyProof.Rows.boot_list (pa_cons (pv 1) pa_nil)))
      (pss_one (ps_ret (pe_lc (own := [("_law_k", 3)]) (g := gName 3) (tt := tYes) (te := mPop K) rfl sc_mix.nd (pi_range1 (by rfl) T.range (pa_cons (pe_callB call_len (by rfl) T.len PySem.boot_len (pa_cons (pv 2) pa_nil)) pa_nil))
        (blkOk_by (N := nM) (sc := defScope s__law_mixed) (by decide +kernel)) (fun _ _ _ _ _ => pg_name (i := 3) sc_mix.nd rfl (Or.inl rfl)) (fun _ _ _ _ _ => pts_nil)
        (fun _ _ _ _ _ => pe_bm PySem.F.plainAttrs_list PySem.F.slot_list_pop PySem.F.type_list_pop mt_popAt (pv 2) (pa_cons (pe_call GD hr (by rfl) mD kD bD .nil pass0 (pa_cons (pv 0) (pa_cons (pe_callB call_len (by rfl) T.len PySem.boot_len (pa_cons (pv 2) pa_nil)) pa_nil))) pa_nil))))), ?_⟩
    refine ⟨_, rfl, c, xs, rfl, .inl hS, fun l hl => ?_⟩
    refine ⟨_, rfl, _, xs.length, rfl, .inl ⟨xs, sq_of upd_same, rfl⟩, _, rfl, by omega, by omega, fun D hD => ?_⟩
    obtain ⟨sx, sy, Sp, Sq⟩ := S.lst
    have lp : l ≠ p := (ne_of_none Sp hl).symm
    have lq : l ≠ q := (ne_of_none Sq hl).symm
    have Dl : D ≠ l := fun z => by
      rw [z, upd_same] at hD
      cases hD
    have hD0 : H D = none := by
      rw [upd_ne Dl] at hD
      exact hD
    have Dp' : D ≠ p := (ne_of_none Sp hD0).symm
    have Dq : D ≠ q := (ne_of_none Sq hD0).symm
    have x1 : Ex H (upd H l (.lst xs)) := Ex.new hl
    have x2 : Ex H (upd (upd H l (.lst xs)) D (.lst [])) := x1.trans (Ex.new hD)
    refine lc_range (lo := 0) (fun i G => ∃ left acc, Spr G p q (n + (i : Int)) ∧ G l = some (.lst left) ∧ left.length + i = xs.length ∧
      G D = some (.lst acc) ∧ acc.length = i ∧ (acc ++ left).Perm xs ∧ But p q H G) ?_ ?_ ?_
    · exact ⟨xs, [], by simpa using S.ext x2, by rw [upd_ne Dl.symm, upd_same], rfl, upd_same, rfl, by simp, But.of x2⟩
    · rintro i G hi ⟨left, acc, Z, g1, g2, g4, g5, g6, B⟩
      refine ⟨rfl, ?_⟩
      unfold tYes
      dsimp only
      rw [if_pos (rfl : true = true)]
      have hi' : i < xs.length := by simpa using hi
      refine ⟨_, rfl, .inl ⟨rfl, _, sq_of g1⟩, _, rfl, _, rfl, _, left.length, rfl, .inl ⟨left, sq_of g1, rfl⟩, ?_⟩
      refine ⟨p, q, _, _, rfl, Z, by omega, by omega, by omega, fun r G2 r0 r1 Z2 B2 => ?_⟩
      have h1 : G2 l = some (.lst left) := B2 l _ lp lq g1
      have h2 : G2 D = some (.lst acc) := B2 D _ Dp' Dq g4
      obtain ⟨j, rfl⟩ : ∃ j : Nat, r = (j : Int) := ⟨r.toNat, by omega⟩
      have hj : j < left.length := by omega
      obtain ⟨y, hy⟩ : ∃ y, left[j]? = some y := ⟨left[j], by simp [hj]⟩
      refine ⟨l, left, _, j, y, rfl, rfl, h1, by omega, by omega, (ixN_seq (ixn hj)).1, hy, acc, by rw [upd_ne Dl]; exact h2, by rw [g5, sizeLine_eq]; omega, ?_⟩
      refine ⟨left.eraseIdx j, acc ++ [y], ?_, by rw [upd_ne Dl.symm, upd_same], ?_, upd_same, by simp [g5], ?_, ?_⟩
      · have e : n + ((i + 1 : Nat) : Int) = n + (i : Int) + 1 := by omega
        rw [e]
        exact Z2.keep (fun o h => by rw [upd_ne Dp'.symm, upd_ne lp.symm]; exact h) (fun o h => by rw [upd_ne Dq.symm, upd_ne lq.symm]; exact h)
      · rw [List.length_eraseIdx_of_lt hj]
        omega
      · rw [List.append_assoc]
        exact ((perm_eraseIdx hy).append_left acc).trans g6
      · intro b o n1 n2 e
        have nl : b ≠ l := ne_of_none e hl
        have nD : b ≠ D := ne_of_none e hD0
        rw [upd_ne nD, upd_ne nl]
        exact B2 b o n1 n2 (B b o n1 n2 e)
    · rintro G ⟨left, acc, Z, g1, g2, g4, g5, g6, B⟩
      have hl0 : left = [] := List.length_eq_zero_iff.mp (by have e : ((xs.length : Nat) : Int).toNat = xs.length := rfl; rw [e] at g2; omega)
      subst hl0
      exact k D G acc hD0 g4 (by simpa using g6) (by simpa using Z) B
end
end K02

set_option Elab.async false
set_option linter.all false
set_option maxRecDepth 100000
set_option maxHeartbeats 4000000
/-! _law_d_rows; _law_loose. -/
namespace K02
open PySem PySem.Spec PyProof.Rows L2 Evl
section
variable {K : PySem.W.Frag} {σ : L2.St} {H : Hp} {te tl : TE}
theorem iq_it {b : Bool} {a : Addr} {xs : List V} {R : It → Hp → Prop} (h : Ev tl σ H (.ref a)) (hx : SqB H b a xs) (k : ∀ (J : It) H1, Ex H H1 → Walk J xs.length (fun G => SqB G b a xs) (YAt xs) → R J H1) : iQ K tl σ H R := by
  cases b with
  | true => exact .inl (h H (Ex.refl _) _ fun H1 e => ⟨a, rfl, ⟨xs, sq_of (hx.ext e)⟩, k _ H1 e ⟨fun i G hi g => (walk_list (K := K)).goes i G hi (sq_of g), fun G g => (walk_list (K := K)).stops G (sq_of g), fun i G x G' hi g y => (walk_list (K := K)).yields i G x G' hi (sq_of g) y⟩⟩)
  | false => exact .inr (h H (Ex.refl _) _ fun H1 e => ⟨a, rfl, ⟨xs, st_of (hx.ext e)⟩, k _ H1 e ⟨fun i G hi g => (walk_tup (K := K)).goes i G hi (st_of g), fun G g => (walk_tup (K := K)).stops G (st_of g), fun i G x G' hi g y => (walk_tup (K := K)).yields i G x G' hi (st_of g) y⟩⟩)
/-- for i, x in enumerate(xs), xs a list or a tuple -/
abbrev iEnQ (K : PySem.W.Frag) (ta : TA) : TI := fun σ H R => iEnum K ta σ H R ∨ iEnumT K ta σ H R
theorem ienq_it {b : Bool} {a : Addr} {xs : List V} {R : It → Hp → Prop} (h : Ev tl σ H (.ref a)) (hx : SqB H b a xs) (k : ∀ (J : It) H1, Ex H H1 → Walk J xs.length (fun G => SqB G b a xs) (YPair (fun i => some (.int (i : Nat))) (fun i => xs[i]?)) → R J H1) : iEnQ K (tCons tl tNil) σ H R := by
  cases b with
  | true => exact .inl (h H (Ex.refl _) _ fun H1 e => ⟨a, xs, rfl, sq_of (hx.ext e), k _ H1 e ⟨fun i G hi g => (walk_enum (K := K)).goes i G hi (sq_of g), fun G g => (walk_enum (K := K)).stops G (sq_of g), fun i G x G' hi g y => (walk_enum (K := K)).yields i G x G' hi (sq_of g) y⟩⟩)
  | false => exact .inr (h H (Ex.refl _) _ fun H1 e => ⟨a, xs, rfl, st_of (hx.ext e), k _ H1 e ⟨fun i G hi g => (walk_enumT (K := K)).goes i G hi (st_of g), fun G g => (walk_enumT (K := K)).stops G (st_of g), fun i G x G' hi g y => (walk_enumT (K := K)).yields i G x G' hi (st_of g) y⟩⟩)
/-- a pair taken apart, a list or a tuple -/
abbrev gPrQ (K : PySem.W.Frag) (j1 j2 : Nat) : TG := fun v σ H Q => gPair K j1 j2 v σ H Q ∨ gLst K 2 (gCons (gName j1) (gCons (gName j2) gNil)) v σ H Q
theorem pg_or {X : Cx} {tg : Expr} {t1 t2 : TG} (h1 : PG X tg t1) (h2 : PG X tg t2) : PG X tg (fun v σ H Q => t1 v σ H Q ∨ t2 v σ H Q) := ⟨fun pins s σ H v u Q I r hw => by
  rcases hw with hw | hw
  · exact h1.run pins s σ H v u Q I r hw
  · exact h2.run pins s σ H v u Q I r hw⟩
theorem g_prq {j1 j2 : Nat} {b : Bool} {a : Addr} {x y : V} {Q : L2.St → Hp → Prop} (h : SqB H b a [x, y]) (k : Q ((σ.set j1 (some x)).set j2 (some y)) H) : gPrQ K j1 j2 (.ref a) σ H Q := by
  cases b with
  | true => exact .inr ⟨a, [x, y], rfl, sq_of h, rfl, _, _, rfl, _, _, rfl, rfl, k⟩
  | false => exact .inl ⟨a, [x, y], rfl, st_of h, rfl, _, _, rfl, _, _, rfl, rfl, k⟩
end
section
variable {P : Program} {w : World} {K : PySem.W.Frag} {mg : Str → Option Value} {base : Heap} {C : Addr}
def PQ (p q : Addr) (b : Addr) : Prop := b = p ∨ b = q
theorem go_pq {p q : Addr} {H G : Hp} (B : But p q H G) : Go (PQ p q) H G := Go.but B (.inl rfl) (.inr rfl)
theorem oszs_take {os : List O} {i : Nat} {x : O} (h : os[i]? = some x) : O.szs (os.take (i + 1)) = O.szs (os.take i) + x.sz := by
  rw [take_snoc h, O.szs_app]
  show _ + (x.sz + 0) = _
  omega
theorem oszs_take_le (os : List O) (i : Nat) : O.szs (os.take i) ≤ O.szs os := by
  have e : O.szs os = O.szs (os.take i) + O.szs (os.drop i) := by rw [← O.szs_app, List.take_append_drop]
  omega
theorem strips_app (xs ys : List O) : O.strips (xs ++ ys) = O.strips xs ++ O.strips ys := by rw [strips_eq, strips_eq, strips_eq, List.map_append]
theorem O.dp_get : ∀ {os : List O} {i : Nat} {x : O}, os[i]? = some x → x.dp ≤ O.dps os
  | [], _, _, e => by simp at e
  | a :: as, 0, x, e => by
    obtain rfl : a = x := by simpa using e
    exact Nat.le_max_left _ _
  | a :: as, i + 1, x, e => Nat.le_trans (O.dp_get (os := as) (i := i) (by simpa using e)) (Nat.le_max_right _ _)
def spLz (m : Nat) : Sp := fun vs H Q _ => ∃ (p q : Addr) (u : V) (n : Int) (o : O), vs = [.ref p, u] ∧ Spr H p q n ∧ n + (o.sz : Nat) ≤ 9000000 ∧ OV (Hx (PQ p q) H) u o ∧ o.dp < m ∧ o.sz ≤ 9000 ∧
  ∀ (r : V) (G : Hp) (n' : Int) (o' : O), Spr G p q n' → n' ≤ n + (o.sz : Nat) → But p q H G → OV (Hx (Old H) G) r o' → o'.strip = o.strip → Q r G
abbrev nLz : List Str := ["_law_stream", "_law_thing", "_law_found", "_law_part"]
theorem sc_lz : FnScope nLz ["_law_stream", "_law_thing"] (defScope s__law_loose) := ⟨rfl, rfl, rfl, by decide +kernel, rfl, by decide +kernel, by decide +kernel⟩
theorem ok_loose2 (T : T02 P w K mg base) : ∀ m, Ok P w K mg base CX0 "_law_loose" ["_law_stream", "_law_thing"] (m + 2) (spLz m)
  | 0 => T.ok 33 rfl sc_lz (fun vs H Q E h => by obtain ⟨p, q, u, n, o, rfl, _⟩ := h; rfl) (fun kV doc pm an cdv ct us hl => match us, hl with | [_, _], _ => rfl) (fun f cdv A outer s H vs Q E hr h => by obtain ⟨p, q, u, n, o, _, _, _, _, h0, _⟩ := h; exact absurd h0 (Nat.not_lt_zero _))
  | m + 1 => by
    obtain ⟨fR, dR, GR, bR, kR, mR⟩ := (ok_loose2 T m).ex
    obtain ⟨fD, dD, GD, bD, kD, mD⟩ := (ok_dr T).ex
    refine T.ok 33 rfl sc_lz (fun vs H Q E h => ?_) (fun kV doc pm an cdv ct us hl => match us, hl with | [_, _], _ => rfl) (fun f cdv A outer s H vs Q E hr h => ?_)
    · obtain ⟨p, q, u, n, o, rfl, _⟩ := h
      rfl
    · obtain ⟨p, q, u, n, o, rfl, S, hn, ho, hd, hs, k⟩ := h
      refine ⟨_, pss_cons (ps_if (pt_not (pt_val (pe_isiLT T.isi T.list T.tuple (pv 1)))) (pss_one (ps_ret (pv 1))) pss_nil)
        (pss_cons (ps_setLc (i := 2) (own := [("_law_part", 3)]) (g := gName 3) (tt := tYes) (te := tCall (spLz m) [] E0 (tCons (tVar 0) (tCons (tVar 3) tNil))) (by rfl) sc_lz.nd rfl rfl (sw_true rfl rfl rfl (by decide +kernel)) (pi_seq (pv 1)) (blkOk_by (N := nLz) (sc := defScope s__law_loose) (by decide +kernel))
            (fun _ _ _ _ _ => pg_name (i := 3) sc_lz.nd rfl (Or.inl rfl)) (fun _ _ _ _ _ => pts_nil) (fun _ _ _ _ _ => pe_call GR hr (by rfl) mR kR bR .nil pass0 (pa_cons (pv 0) (pa_cons (pv 3) pa_nil))))
        (pss_one (ps_ret (pe_ifExp (pt_cmpR op_eq (pe_call GD (hr.mono (by omega)) (by rfl) mD kD bD .nil pass0 (pa_cons (pv 0) (pa_cons pe_int pa_nil))) pe_int (nomark _)) (pv 2) (pe_callTy call_tuple_of (by rfl) T.tuple PyProof.Rows.boot_tuple (pa_cons (pv 2) pa_nil)))))), ?_⟩
      have ho' : OV H u o := ho.ext hx_ex
      cases hq : o.isLst || o.isTup with
      | false =>
        refine q_when (b := true) (et_is (et_not (et_B (ev_isSeq (ev_var rfl) ho'))) (by rw [hq]; rfl)) (fun _ H1 e1 => ?_) fun z => nomatch z
        refine s_ret (ev_var rfl) fun H2 e2 => ?_
        have e := e1.trans e2
        refine k u H2 n o (S.ext e) (by omega) (But.of e) ?_ rfl
        have h2 := ho'.ext e
        cases o with
        | dct =>
          obtain ⟨a, rfl, ha⟩ := h2
          obtain ⟨a', e1, ha'⟩ := ho'
          obtain rfl : a = a' := V.ref.inj e1
          exact ⟨a, rfl, hx_of (fun ⟨xs, z⟩ => by rw [ha'] at z; cases z) (fun _ z => nomatch z) ha⟩
        | lst xs => cases hq
        | tup xs => cases hq
        | _ => exact h2
      | true =>
        obtain ⟨b, os, rfl⟩ := O.seq_of hq
        obtain ⟨a, us, rfl, ha, hov⟩ := ho.seq
        obtain ⟨npq, _, haH⟩ := hx_to ha
        have na1 : a ≠ p := fun z => npq (.inl z)
        have na2 : a ≠ q := fun z => npq (.inr z)
        have hsq : SqB H b a us := haH
        rw [O.seq_sz] at hn hs k
        have hdp : ∀ x ∈ os, x.dp < m := fun x hx => by
          obtain ⟨i, hi⟩ := List.getElem?_of_mem hx
          have := O.dp_get hi
          have : (O.seq b os).dp = O.dps os + 1 := by cases b <;> rfl
          omega
        have hul := hov.length
        have hol := O.len_szs os
        refine q_when (b := false) (et_is (et_not (et_B (ev_isSeq (ev_var rfl) ho'))) (by rw [hq]; rfl)) (fun z => nomatch z) fun _ H1 e1 => ?_
        refine iq_it (ev_var rfl) (hsq.ext e1) fun J0 H2 e2 wk Dl hD => ?_
        have e12 := e1.trans e2
        have S2 := S.ext e12
        obtain ⟨d1, d2⟩ := S2.nep hD
        have Da : Dl ≠ a := fun z => by
          have := hsq.ext e12
          unfold SqB at this
          rw [← z, hD] at this
          cases this
        obtain ⟨oP, oQ⟩ := S.old
        refine lc_it wk (fun i J => ∃ acc n' zs, Spr J p q n' ∧ n' ≤ n + (O.szs (os.take i) : Nat) ∧ J Dl = some (.lst acc) ∧ acc.length = i ∧ OVs (Hx (fun b => Old H b ∨ b = Dl) J) acc zs ∧ O.strips zs = O.strips (os.take i) ∧ But p q H2 J) ?_ ?_ ?_ ?_
        · exact ⟨[], n, [], S2.ext (Ex.new hD), by simp [O.szs], upd_same, rfl, .nil, rfl, But.of (Ex.new hD)⟩
        · rintro i J hi ⟨acc, n', zs, SJ, _, _, _, _, _, BJ⟩
          exact BJ _ _ na1 na2 (hsq.ext e12)
        · rintro i x J J' hi ⟨acc, n', zs, SJ, hnJ, hJ, hal, hov2, hst, BJ⟩ ⟨rfl, hx⟩
          refine ⟨rfl, ?_⟩
          unfold tYes
          dsimp only
          rw [if_pos (rfl : true = true)]
          obtain ⟨y, hy, hvy⟩ := hov.get hx
          have hyn := oszs_take hy
          have hle := oszs_take_le os (i + 1)
          have hil := (List.getElem?_eq_some_iff.mp hy).1
          have hvJ : OV (Hx (PQ p q) J') x y := hvy.ext ((go_pq (But.of e12)).trans (go_pq BJ)).ex
          refine ⟨.ref p, rfl, x, rfl, p, q, x, n', y, rfl, SJ, by omega, hvJ, hdp y (List.mem_of_getElem? hy), by omega, fun y' J2 n2 o2 SJ2 hn2 BJ2 hv2 hst2 => ?_⟩
          have hJ2 : J2 Dl = some (.lst acc) := BJ2 _ _ d1 d2 hJ
          refine ⟨acc, hJ2, sz_lt (by omega), acc ++ [y'], n2, zs ++ [o2], SJ2.keep (fun o h => by rw [upd_ne d1.symm]; exact h) (fun o h => by rw [upd_ne d2.symm]; exact h), by rw [hyn]; omega, upd_same, by simp [hal], ?_, ?_, ?_⟩
          · have hold : ∀ b, (Old H b ∨ b = Dl) → Old J' b := fun b hb => by
              rcases hb with hb | rfl
              · exact Old.but BJ SJ (Old.ex e12 hb)
              · exact ⟨_, hJ⟩
            have g1 : Go (fun b => Old H b ∨ b = Dl) J2 (upd J2 Dl (.lst (acc ++ [y']))) := Go.upd (.inr rfl)
            have g2 : Go (fun b => Old H b ∨ b = Dl) J' J2 := Go.but BJ2 (.inl oP) (.inl oQ)
            exact OVs.append ((hov2.ext g2.ex).ext g1.ex) (.cons ((hv2.ext (hx_mono hold)).ext g1.ex) .nil)
          · rw [take_snoc hy, strips_app, strips_app, hst]
            show _ ++ [o2.strip] = _ ++ [y.strip]
            rw [hst2]
          · intro b o nb1 nb2 e
            rw [upd_ne (ne_of_none e hD)]
            exact BJ2 _ _ nb1 nb2 (BJ _ _ nb1 nb2 e)
        · rintro J ⟨acc, n', zs, SJ, hnJ, hJ, hal, hov2, hst, BJ⟩
          rw [hul, List.take_length] at hst hnJ
          have nDl : H Dl = none := fresh_back e12 hD
          refine ⟨.ref p, rfl, p, q, n', 3, rfl, SJ, by omega, by decide, by decide, fun rr G r0 r1 S5 B5 => ⟨rfl, _, rfl, ?_⟩⟩
          have hGl : G Dl = some (.lst acc) := B5 _ _ d1 d2 hJ
          have Ball : But p q H G := ((But.of e12).trans BJ).trans B5
          have hovG : OVs (Hx (Old H) G) acc zs := by
            have a1 : OVs (Hx (Old H) J) acc zs := hov2.ext (hx_mono fun b hb => .inl hb)
            exact a1.ext (Go.but B5 oP oQ).ex
          have hso : (O.seq b os).strip = .tup (O.strips os) := by cases b <;> rfl
          dsimp only
          by_cases hb : decide (V.int rr = V.int 0) = true
          · rw [if_pos hb]
            refine ⟨.ref Dl, rfl, k (.ref Dl) G (n' + 1) (.lst zs) S5 (by omega) Ball ⟨Dl, _, rfl, hx_of (not_old nDl) lst_tbl hGl, hovG⟩ ?_⟩
            rw [hso, ← hst]
            rfl
          · rw [if_neg hb]
            refine ⟨.ref Dl, rfl, Dl, _, rfl, .inl ⟨sq_of hGl, fun pt hpt => ?_⟩⟩
            have x6 : Ex G (upd G pt (.tup acc)) := Ex.new hpt
            refine k (.ref pt) _ (n' + 1) (.tup zs) (S5.ext x6) (by omega) (Ball.trans (But.of x6)) ⟨pt, _, rfl, hx_of (not_old (Ball.back S5 hpt)) tup_tbl upd_same, hovG.ext (Go.of x6).ex⟩ ?_
            rw [hso, ← hst]
            rfl
end
end K02

set_option Elab.async false
set_option linter.all false
set_option maxRecDepth 100000
set_option maxHeartbeats 4000000
/-! is_arity, is_pair, has_places over a dict of arities. -/
namespace K02
open PySem PySem.Spec PyProof.Rows L2 Evl
def O.isArity : O → Bool
  | .int i => decide (i ≥ 0) && decide (i ≤ 6) | _ => false
def O.items : O → List O
  | .lst xs => xs | .tup xs => xs | _ => []
theorem O.items_seq (b : Bool) (xs : List O) : (O.seq b xs).items = xs := by cases b <;> rfl
def O.isPair (o : O) : Bool := (o.isLst || o.isTup) && decide (o.items.length = 2)
/-- arities by names -/
def arl (ar : List (Str × Nat)) (s : Str) : Option Nat := (ar.find? fun p => decide (p.1 = s)).map (·.2)
def ArD (H : Hp) (d : Addr) (ar : List (Str × Nat)) : Prop := ∃ kvs, H d = some (.dK kvs) ∧ ∀ s : Str, valV kvs (Sum.inr s : Key) = (arl ar s).map fun n : Nat => V.int (n : Nat)
theorem ArD.ext {H G : Hp} {d : Addr} {ar : List (Str × Nat)} (h : ArD H d ar) (e : Ex H G) : ArD G d ar := let ⟨k, a, b⟩ := h; ⟨k, e _ _ a, b⟩
def placesD (ar : List (Str × Nat)) : List O → Bool
  | .str s :: as => decide (arl ar s = some as.length)
  | _ => false
def O.placesD (ar : List (Str × Nat)) : O → Bool
  | .lst xs => K02.placesD ar xs | .tup xs => K02.placesD ar xs | _ => false
theorem seq_placesD (ar : List (Str × Nat)) (b : Bool) (xs : List O) : (O.seq b xs).placesD ar = K02.placesD ar xs := by cases b <;> rfl
section
variable {K : PySem.W.Frag} {σ : L2.St} {H : Hp} {td ty : TE}
theorem ev_dget1 {d : Addr} {kvs : List (Key × V)} {k : Key} (h1 : Ev td σ H (.ref d)) (h2 : Ev ty σ H (kV k)) (hd : H d = some (.dK kvs)) : Ev (tDGet1 td ty) σ H ((valV kvs k).getD .non) := fun H1 e Q q =>
  h1 H1 e _ fun H2 e2 => ⟨d, rfl, (.inl ⟨_, .inl (e2 _ _ (e _ _ hd))⟩), h2 H2 (e.trans e2) _ fun H3 e3 => ⟨_, DGet.k (e3 _ _ (e2 _ _ (e _ _ hd))), q H3 (e2.trans e3)⟩⟩
end
section
variable {P : Program} {w : World} {K : PySem.W.Frag} {mg : Str → Option Value} {base : Heap}
theorem sc_arity : FnScope ["thing"] ["thing"] (defScope s_is_arity) := ⟨rfl, rfl, rfl, by decide +kernel, rfl, by decide +kernel, by decide +kernel⟩
theorem ok_is_arity (T : T02 P w K mg base) : Ok P w K mg base CX0 "is_arity" ["thing"] 3 (spB O.isArity) := by
  obtain ⟨tl, mMo⟩ := T.most
  obtain ⟨fL, dL, GL, bL, kL, mL⟩ := (ok_is_number T).ex
  refine T.ok 2 rfl sc_arity (fun vs H Q E h => spB_len h) (fun kV doc pm an cdv ct us hl => match us, hl with | [_], _ => rfl) (fun f cdv A outer s H vs Q E hr h => ?_)
  obtain ⟨v, o, rfl, ho, k⟩ := h
  refine ⟨_, pss_one (ps_ret (pe_and (pe_call GL hr (by rfl) mL kL bL .nil pass0 (pa_cons (pv 0) pa_nil)) (pe_one (pe_cmpR op_le (pv 0) (pe_glob (v := .int 6) rfl mMo ⟨_, rfl⟩) (nomark _))))), ?_⟩
  cases o with
  | int i =>
    obtain rfl : v = .int i := ho
    exact s_ret (ev_is (ev_andV (a := decide (i ≥ 0)) (b := decide (i ≤ 6)) (ev_call (ea_cons (ev_var rfl) ea_nil) (spv_B (o := .int i) rfl)) fun _ => ev_op (ev_var rfl) ev_c rv_I0) rfl) k
  | _ => exact s_ret (ev_is (ev_andV (a := false) (b := false) (ev_call (ea_cons (ev_var rfl) ea_nil) (spv_B ho)) fun z => nomatch z) rfl) k
theorem sc_pair : FnScope ["thing"] ["thing"] (defScope s_is_pair) := ⟨rfl, rfl, rfl, by decide +kernel, rfl, by decide +kernel, by decide +kernel⟩
theorem ok_is_pair (T : T02 P w K mg base) : Ok P w K mg base CX0 "is_pair" ["thing"] 2 (spB O.isPair) := by
  obtain ⟨fL, dL, GL, bL, kL, mL⟩ := (ok_is_list T).ex
  refine T.ok 4 rfl sc_pair (fun vs H Q E h => spB_len h) (fun kV doc pm an cdv ct us hl => match us, hl with | [_], _ => rfl) (fun f cdv A outer s H vs Q E hr h => ?_)
  obtain ⟨v, o, rfl, ho, k⟩ := h
  refine ⟨_, pss_one (ps_ret (pe_and (pe_call GL hr (by rfl) mL kL bL .nil pass0 (pa_cons (pv 0) pa_nil)) (pe_one (pe_cmpR op_eq (pe_callB call_len (by rfl) T.len PySem.boot_len (pa_cons (pv 0) pa_nil)) pe_int (nomark _))))), ?_⟩
  cases hq : o.isLst || o.isTup with
  | false =>
    refine s_ret (ev_is (ev_andV (a := false) (b := false) (ev_is (ev_call (ea_cons (ev_var rfl) ea_nil) (spv_B ho)) (by rw [hq])) fun z => nomatch z) ?_) k
    unfold O.isPair
    rw [hq]
    rfl
  | true =>
    obtain ⟨b, xs, rfl⟩ := O.seq_of hq
    obtain ⟨a, us, rfl, ha, hov⟩ := ho.seq
    have hsq : SqB H b a us := ha
    refine s_ret (ev_is (ev_andV (a := true) (ev_is (ev_call (ea_cons (ev_var rfl) ea_nil) (spv_B ho)) (by rw [hq])) fun _ => ev_op (ev_lenQ (ev_var rfl) hsq) ev_c (rv_eq rfl)) ?_) k
    unfold O.isPair
    rw [hq, Bool.true_and, Bool.true_and, O.items_seq, hov.length]
    congr 1
    exact decide_eq_decide.mpr ⟨fun z => by have := V.int.inj z; omega, fun z => by rw [z]; rfl⟩
/-! ### has_places, the arities in a dict -/
def spPd : Sp := fun vs H Q _ => ∃ (v : V) (o : O) (d : Addr) (ar : List (Str × Nat)), vs = [v, .ref d] ∧ OV H v o ∧ ArD H d ar ∧ RetV (.bl (o.placesD ar)) H Q
theorem spv_pd {v : V} {o : O} {d : Addr} {ar : List (Str × Nat)} {H : Hp} (h : OV H v o) (hd : ArD H d ar) : SpV spPd ([v, .ref d] ++ []) H (.bl (o.placesD ar)) := fun H1 e Q q E => ⟨v, o, d, ar, rfl, h.ext e, hd.ext e, q⟩
theorem ok_places_d (T : T02 P w K mg base) : Ok P w K mg base CX0 "has_places" ["thing", "arities"] 1 spPd := by
  refine T.ok 11 rfl sc_places (fun vs H Q E h => ?_) (fun kV doc pm an cdv ct us hl => match us, hl with | [_, _], _ => rfl) (fun f cdv A outer s H vs Q E hr h => ?_)
  · obtain ⟨v, z, d, ar, rfl, _⟩ := h
    rfl
  · obtain ⟨v, z, d, ar, rfl, hw, hd, k⟩ := h
    refine ⟨_, pss_cons (ps_if (PW.pt (pw_or (pt_not (pt_val (pe_isiLT T.isi T.list T.tuple (pv 0)))) (pw_or (pt_cmpR op_eq (pe_callB call_len (by rfl) T.len PySem.boot_len (pa_cons (pv 0) pa_nil)) pe_int (nomark _))
        (pw_or1 (pt_not (pt_val (pe_isiB T.isi T.str PyProof.Rows.boot_str (pe_ix ix_seq (pv 0) pe_int (fun _ _ => rfl))))))))) (pss_one (ps_ret pe_bl)) pss_nil)
      (pss_cons (ps_if (pt_cmp (pc_isN (pv 1))) (pss_one ps_never) pss_nil)
      (pss_one (ps_ret (pe_cmpR op_eq (pe_dget1 (hu_of hr) (pv 1) (pe_ix ix_seq (pv 0) pe_int (fun _ _ => rfl)) ⟨rfl, rfl, rfl, rfl⟩) (pe_op op_sub (pe_callB call_len (by rfl) T.len PySem.boot_len (pa_cons (pv 0) pa_nil)) pe_int) (nomark _))))), ?_⟩
    cases hq : z.isLst || z.isTup with
    | false =>
      refine q_when (b := true) (et_is (et_or (a := true) (b := true) (et_is (et_not (et_B (ev_isSeq (ev_var rfl) hw))) (by rw [hq]; rfl)) fun z => nomatch z) rfl) (fun _ H1 e1 => ?_) fun z => nomatch z
      refine s_ret (ev_is ev_c ?_) fun H2 e2 => k H2 (e1.trans e2)
      cases z with
      | lst xs => cases hq
      | tup xs => cases hq
      | _ => rfl
    | true =>
      obtain ⟨b, xs, rfl⟩ := O.seq_of hq
      obtain ⟨a, us, rfl, ha, hov⟩ := hw.seq
      have hsq : SqB H b a us := ha
      rw [seq_placesD] at k
      match xs, hov, k with
      | [], hov, k =>
        obtain rfl : us = [] := hov
        refine q_when (b := true) (et_is (et_or (a := false) (b := true) (et_is (et_not (et_B (ev_isSeq (ev_var rfl) hw))) (by rw [hq]; rfl)) fun _ => et_or (a := true) (b := true) (et_is (et_test (ev_op (ev_lenQ (ev_var rfl) hsq) ev_c (rv_eq rfl))) (by decide)) fun z => nomatch z) rfl) (fun _ H1 e1 => ?_) fun z => nomatch z
        exact s_ret ev_c fun H2 e2 => k H2 (e1.trans e2)
      | h :: as, ⟨u, us', e0, hu, has⟩, k =>
        subst e0
        have ev0 : ∀ {G : Hp}, Ex H G → Ev (tOp (rIxQ K) (tVar 0) (tC (.int 0))) [some (.ref a), some (.ref d)] G u := fun e => ev_op (ev_var rfl) ev_c (rv_ixQ (hsq.ext e) (atI_nat (j := 0) rfl))
        have hl : (u :: us').length = us'.length + 1 := rfl
        have hal := has.length
        have e12 : decide (V.int (((u :: us').length : Nat) : Int) = V.int 0) = false := decide_eq_false (by rw [hl]; intro q; have := V.int.inj q; omega)
        cases hst : h.isStr with
        | false =>
          refine q_when (b := true) (et_is (et_or (a := false) (b := true) (et_is (et_not (et_B (ev_isSeq (ev_var rfl) hw))) (by rw [hq]; rfl)) fun _ => et_is (et_or (a := false) (b := true) (et_is (et_test (ev_op (ev_lenQ (ev_var rfl) hsq) ev_c (rv_eq rfl))) e12) fun _ =>
            et_is (et_not (et_B (ev_isStr (ev0 (Ex.refl _)) hu))) (by rw [hst]; rfl)) rfl) rfl) (fun _ H1 e1 => ?_) fun z => nomatch z
          refine s_ret (ev_is ev_c ?_) fun H2 e2 => k H2 (e1.trans e2)
          cases h with
          | str s => cases hst
          | _ => rfl
        | true =>
          obtain ⟨s, rfl⟩ : ∃ s, h = .str s := by
            cases h with
            | str s => exact ⟨s, rfl⟩
            | _ => cases hst
          obtain rfl : u = .str s := hu
          refine q_when (b := false) (et_is (et_or (a := false) (b := false) (et_is (et_not (et_B (ev_isSeq (ev_var rfl) hw))) (by rw [hq]; rfl)) fun _ => et_is (et_or (a := false) (b := false) (et_is (et_test (ev_op (ev_lenQ (ev_var rfl) hsq) ev_c (rv_eq rfl))) e12) fun _ =>
            et_is (et_not (et_B (ev_isStr (o := .str s) (ev0 (Ex.refl _)) rfl))) rfl) rfl) rfl) (fun z => nomatch z) fun _ H1 e1 => ?_
          refine q_when (b := false) (et_test (ev_isN (ev_var rfl) rfl)) (fun z => nomatch z) fun _ H2 e2 => ?_
          have e12' := e1.trans e2
          obtain ⟨kvs, hdd, hval⟩ := hd
          have hz : (valV kvs (Sum.inr s : Key)).getD .non = ((arl ar s).map fun n : Nat => V.int (n : Nat)).getD .non := by rw [hval]
          refine s_ret (ev_is (ev_op (ev_dget1 (k := Sum.inr s) (ev_var rfl) (ev0 e12') (e12' _ _ hdd)) (ev_op (ev_lenQ (ev_var rfl) (hsq.ext e12')) ev_c rv_I0) (rv_eq ?_)) ?_) fun H3 e3 => k H3 (e12'.trans e3)
          · rw [hz]
            cases arl ar s <;> rfl
          · rw [hz]
            show V.bl (decide (((arl ar s).map fun n : Nat => V.int (n : Nat)).getD .non = V.int ((((V.str s :: us').length : Nat) : Int) - 1))) = V.bl (decide (arl ar s = some as.length))
            congr 1
            refine decide_eq_decide.mpr ?_
            cases arl ar s with
            | none => exact ⟨(fun z => nomatch z), (fun z => nomatch z)⟩
            | some n =>
              refine ⟨fun z => ?_, fun z => ?_⟩
              · have := V.int.inj z
                rw [show (V.str s :: us').length = us'.length + 1 from rfl] at this
                exact congrArg some (by omega)
              · have := Option.some.inj z
                show V.int _ = V.int _
                rw [show (V.str s :: us').length = us'.length + 1 from rfl]
                exact congrArg V.int (by omega)
end
end K02

set_option Elab.async false
set_option linter.all false
set_option maxRecDepth 100000
set_option maxHeartbeats 4000000
/-! words_fit over names, in a scope. -/
namespace K02
open PySem PySem.Spec PyProof.Rows L2 Evl
def okV (sc : List Str) (s : Str) : Bool := varB s && sc.contains s
def headD (ar : List (Str × Nat)) (h : O) (n : Nat) : Bool := match h with
  | .str s => decide (arl ar s = some n)
  | _ => false
mutual
def O.fitD (ar : List (Str × Nat)) (sc : List Str) : O → Bool
  | .str s => okV sc s
  | .lst xs => O.fitLD ar sc xs
  | .tup xs => O.fitLD ar sc xs
  | .non => false | .bl _ => false | .int _ => false | .dct => false
def O.fitLD (ar : List (Str × Nat)) (sc : List Str) : List O → Bool
  | [] => false
  | h :: as => headD ar h as.length && O.fitsD ar sc as
def O.fitsD (ar : List (Str × Nat)) (sc : List Str) : List O → Bool
  | [] => true
  | x :: xs => x.fitD ar sc && O.fitsD ar sc xs
end
theorem fitsD_app {ar : List (Str × Nat)} {sc : List Str} : ∀ (xs ys : List O), O.fitsD ar sc (xs ++ ys) = (O.fitsD ar sc xs && O.fitsD ar sc ys)
  | [], ys => by simp [O.fitsD]
  | x :: xs, ys => by
    show (x.fitD ar sc && O.fitsD ar sc (xs ++ ys)) = (x.fitD ar sc && O.fitsD ar sc xs && O.fitsD ar sc ys)
    rw [fitsD_app xs ys, Bool.and_assoc]
theorem seq_fitD {ar : List (Str × Nat)} {sc : List Str} (b : Bool) (xs : List O) : (O.seq b xs).fitD ar sc = O.fitLD ar sc xs := by cases b <;> rfl
theorem placesD_head {ar : List (Str × Nat)} (h : O) (as : List O) : K02.placesD ar (h :: as) = headD ar h as.length := by cases h <;> rfl
theorem rv_niT {K : PySem.W.Frag} {H : Hp} {s : Str} {a : Addr} {xs : List Str} (h : H a = some (.tup (sVs xs))) : RV (rIn K true) (.str s) (.ref a) H (.bl (!xs.contains s)) := fun H1 e Q q => ⟨a, sVs xs, rfl, .inr (st_of (e _ _ h)), rfl, sVs_flat xs, by rw [if_pos rfl, sVs_in]; exact q H1 (Ex.refl _)⟩
section
variable {P : Program} {w : World} {K : PySem.W.Frag} {mg : Str → Option Value} {base : Heap}
def spFitD : Sp := fun vs H Q _ => ∃ (a fd sd : Addr) (b : Bool) (us : List V) (os : List O) (ar : List (Str × Nat)) (sc : List Str), vs = [.ref a, .ref fd, .ref sd] ∧ ArD H fd ar ∧ H sd = some (.tup (sVs sc)) ∧ SqB H b a us ∧ OVs H us os ∧ O.sss os = true ∧ O.szs os ≤ 9000 ∧ RetV (.bl (O.fitsD ar sc os)) H Q
theorem ok_words_d (T : T02 P w K mg base) : Ok P w K mg base CX0 "words_fit" ["words", "functions", "scope"] 4 spFitD := by
  obtain ⟨fN, dN, GN, bN, kN, mN⟩ := (ok_places_d T).ex
  obtain ⟨fV, dV, GV, bV, kV', mV⟩ := (ok_is_variable T).ex
  refine T.ok 12 rfl sc_fit (fun vs H Q E h => ?_) (fun kV doc pm an cdv ct us hl => match us, hl with | [_, _, _], _ => rfl) (fun f cdv A outer s H vs Q E hr h => ?_)
  · obtain ⟨a, fd, sd, b, us, os, ar, sc, rfl, _⟩ := h
    rfl
  · obtain ⟨a, fd, sd, b, us, os, ar, sc, rfl, har, hsd, ha, hov, hss, hz, k⟩ := h
    refine ⟨_, pss_cons (ps_set (i := 3) sc_fit.nd rfl (Or.inl rfl) pe_dnewK)
      (pss_cons (ps_set (i := 4) sc_fit.nd rfl (Or.inl rfl) (pe_callTy call_list_of (by rfl) T.list PyProof.Rows.boot_list (pa_cons (pv 0) pa_nil)))
      (pss_cons (ps_while PassesOwn.never (pt_truth (pv 4) (by intro _; rfl))
        (pss_cons (ps_set (i := 5) sc_fit.nd rfl (Or.inl rfl) (pe_bm0 PySem.F.plainAttrs_list PySem.F.slot_list_pop PySem.F.type_list_pop mt_pop (pv 4)))
        (pss_one (ps_if (pt_not (pt_val (pe_isiB T.isi T.str PyProof.Rows.boot_str (pv 5))))
          (pss_cons (ps_if (pt_not (pt_val (pe_call GN (hr.mono (by decide)) (by rfl) mN kN bN .nil pass0 (pa_cons (pv 5) (pa_cons (pv 1) pa_nil))))) (pss_one (ps_ret pe_bl)) pss_nil)
            (pss_one (ps_expr (pe_bm PySem.F.plainAttrs_list PySem.F.slot_list_extend PySem.F.type_list_extend mt_extQ (pv 4) (pa_cons (pe_slice sl_seq (pv 5) (po_some pe_int) po_none) pa_nil)))))
          (pss_one (ps_if (pt_cmp (pc_dnotin (hu_of hr) (pv 5) (pv 3)))
            (pss_cons (ps_if (PW.pt (pw_or (pt_not (pt_val (pe_call GV (hr.mono (by decide)) (by rfl) mV kV' bV .nil pass0 (pa_cons (pv 5) pa_nil)))) (pw_or1 (PW.pt (pw_and (pt_cmp (pc_notN (pv 2))) (pw_and1 (pt_cmpR op_notIn_seq (pv 5) (pv 2) (by rfl)))))))) (pss_one (ps_ret pe_bl)) pss_nil)
              (pss_one (ps_dput (hu_of hr) (pv 3) (pv 5) pe_bl rfl))) pss_nil))))))
      (pss_one (ps_ret pe_bl)))), ?_⟩
    intro d hd
    have e0 : Ex H (upd H d (.dK [])) := Ex.new hd
    refine q_asgL (el_listQ (ev_var rfl) (ha.ext e0)) fun p H1 hp e1 h1 => ?_
    have hp0 : H p = none := fresh_back e0 hp
    have hpd : p ≠ d := fun z => by
      rw [z, upd_same] at hp
      cases hp
    refine q_while (fun m σ' H' => ∃ (xs : List V) (ts : List O) (kvs : List (Key × V)) (o : Option V), σ' = [some (.ref a), some (.ref fd), some (.ref sd), some (.ref d), some (.ref p), o] ∧ Ex H H' ∧ H' p = some (.lst xs) ∧ H' d = some (.dK kvs) ∧ OVs H xs ts ∧ m = O.szs ts ∧ kvs.length + m ≤ 9000 ∧ O.sss ts = true ∧
        (∀ q ∈ kvs, ∃ s, q.1 = Sum.inr s ∧ okV sc s = true) ∧ O.fitsD ar sc ts = O.fitsD ar sc os) (O.szs os)
      ⟨us, os, [], none, rfl, e0.trans e1, h1, e1 _ _ upd_same, hov, rfl, by simpa using hz, hss, (fun q hq => absurd hq (by simp)), rfl⟩ ?_
    rintro m σ' H' ⟨xs, ts, kvs, o, rfl, e2, h2, h2d, tv, hm, hm2, hss', hkv, hres⟩
    refine ⟨!xs.isEmpty, et_truL (ev_var rfl) (SqL.of h2), fun hb H3 e3 => ?_, fun hb H3 e3 => ?_⟩
    · rcases List.eq_nil_or_concat ts with ht | ⟨ts', t, ht⟩
      · subst ht
        rw [show xs = [] from tv] at hb
        exact absurd hb (by decide)
      rw [List.concat_eq_append] at ht
      subst ht
      obtain ⟨us', x, rfl, tv1, tvx⟩ := OVs.snoc tv
      have hsum := O.szs_app ts' [t]
      have hs1 : O.szs [t] = t.sz := by simp [O.szs]
      have hlen := O.len_szs ts'
      have hle := tv1.length
      have tp := t.sz_pos
      rw [fitsD_app, show O.fitsD ar sc [t] = t.fitD ar sc by simp [O.fitsD]] at hres
      rw [sss_app, show O.sss [t] = t.ss by simp [O.sss]] at hss'
      obtain ⟨hs1', hs2'⟩ := Bool.and_eq_true_iff.mp hss'
      refine ⟨fun σ2 H2 => ∃ m', m' < m ∧ ∃ (xs : List V) (ts : List O) (kvs : List (Key × V)) (o : Option V), σ2 = [some (.ref a), some (.ref fd), some (.ref sd), some (.ref d), some (.ref p), o] ∧ Ex H H2 ∧ H2 p = some (.lst xs) ∧ H2 d = some (.dK kvs) ∧ OVs H xs ts ∧ m' = O.szs ts ∧ kvs.length + m' ≤ 9000 ∧ O.sss ts = true ∧
        (∀ q ∈ kvs, ∃ s, q.1 = Sum.inr s ∧ okV sc s = true) ∧ O.fitsD ar sc ts = O.fitsD ar sc os, fun σ2 H2 z => z, ?_⟩
      refine q_pop (e3 _ _ h2) (ev_var rfl) fun H4 e4 => ?_
      have e5 : Ex H (upd H4 p (.lst us')) := Ex.mut ((e2.trans e3).trans e4) hp0
      have h5d : (upd H4 p (.lst us')) d = some (.dK kvs) := by
        rw [upd_ne hpd.symm]
        exact e4 _ _ (e3 _ _ h2d)
      have tvx5 := tvx.ext e5
      refine s_if (b := !t.isStr) (et_not (et_B (ev_isStr (ev_var rfl) tvx5))) (fun hS H5 e6 => ?_) fun hS H5 e6 => ?_
      · have hns : t.isStr = false := by simpa using hS
        refine q_when (b := !t.placesD ar) (et_not (et_B (ev_call (ea_cons (ev_var rfl) (ea_cons (ev_var rfl) ea_nil)) (spv_pd (tvx5.ext e6) (har.ext (e5.trans e6)))))) (fun hP H6 e7 => ?_) fun hP H6 e7 => ?_
        · have hnp : t.placesD ar = false := by simpa using hP
          refine s_ret (ev_is ev_c ?_) fun G e8 => k G (((e5.trans e6).trans e7).trans e8)
          have hf : t.fitD ar sc = false := by
            cases t with
            | lst xs =>
              cases xs with
              | nil => rfl
              | cons h as => show (headD ar h as.length && O.fitsD ar sc as) = false; rw [← placesD_head, show K02.placesD ar (h :: as) = false from hnp]; rfl
            | tup xs =>
              cases xs with
              | nil => rfl
              | cons h as => show (headD ar h as.length && O.fitsD ar sc as) = false; rw [← placesD_head, show K02.placesD ar (h :: as) = false from hnp]; rfl
            | str s => cases hns
            | _ => rfl
          rw [← hres, hf, Bool.and_false]
        · have hp1 : t.placesD ar = true := by simpa using hP
          obtain ⟨b2, ys, rfl⟩ : ∃ b ys, t = O.seq b ys := by
            cases t with
            | lst xs => exact ⟨true, xs, rfl⟩
            | tup xs => exact ⟨false, xs, rfl⟩
            | _ => cases hp1
          rw [seq_placesD] at hp1
          rw [seq_ss] at hs2'
          rw [seq_fitD] at hres
          rw [O.seq_sz] at hs1
          obtain ⟨r, as, rfl, hr', hya⟩ := tvx.seq
          match ys, hp1, hya, hs2', hres, hs1 with
          | hd1 :: tl1, hp1, ⟨u, us2, e0', hu, has⟩, hs2', hres, hs1 =>
            subst e0'
            have hh1 : headD ar hd1 tl1.length = true := by rw [← placesD_head]; exact hp1
            have hres2 : (O.fitsD ar sc ts' && O.fitsD ar sc tl1) = O.fitsD ar sc os := by
              rw [← hres]
              show _ = (O.fitsD ar sc ts' && (headD ar hd1 tl1.length && O.fitsD ar sc tl1))
              rw [hh1, Bool.true_and]
            have hsz2 : O.szs (hd1 :: tl1) = hd1.sz + O.szs tl1 := rfl
            have hdp := hd1.sz_pos
            have hal := has.length
            have hlt := O.len_szs tl1
            have e8 := (e5.trans e6).trans e7
            have hr8 : SqB H6 b2 r (u :: us2) := e8 _ _ hr'
            refine s_extQ ((e6.trans e7) _ _ upd_same) (ev_var rfl) (eq_tail (ev_var rfl) hr8) (by omega) fun H7 e9 => ?_
            have e10 := (e6.trans e7).trans e9
            refine ⟨O.szs (ts' ++ tl1), by rw [O.szs_app]; omega, us' ++ us2, ts' ++ tl1, kvs, _, rfl, Ex.mut (e8.trans e9) hp0, upd_same, by rw [upd_ne hpd.symm]; exact e10 _ _ h5d, tv1.append has, rfl, by rw [O.szs_app]; omega, ?_, hkv, by rw [fitsD_app]; exact hres2⟩
            rw [sss_app, hs1', (Bool.and_eq_true_iff.mp hs2').2]
            rfl
      · have hst : t.isStr = true := by simpa using hS
        obtain ⟨s, rfl⟩ : ∃ s, t = .str s := by
          cases t with
          | str s => exact ⟨s, rfl⟩
          | _ => cases hst
        obtain rfl : x = .str s := tvx
        have hms : s ∈ SS := str_ss hs2'
        have hsz1 : (O.str s).sz = 1 := rfl
        refine s_when (b := !(valV kvs (Sum.inr s)).isSome) (et_B (ev_notInD (k := Sum.inr s) (ev_var rfl) (ev_var rfl) (e6 _ _ h5d))) (fun hN H6 e7 => ?_) fun hN H6 e7 => ?_
        · have hnone : valV kvs (Sum.inr s : Key) = none := by
            cases q : valV kvs (Sum.inr s : Key) with
            | none => rfl
            | some y => rw [q] at hN; cases hN
          refine q_when (b := !okV sc s) (et_is (et_or (b := !sc.contains s) (et_not (et_B (ev_call (ea_cons (ev_var rfl) ea_nil) (spv_S hms)))) fun _ => et_is (et_and (a := true) (b := !sc.contains s) (et_B (ev_notN (ev_var rfl) rfl)) fun _ => et_test (ev_op (ev_var rfl) (ev_var rfl) (rv_niT ((e5.trans (e6.trans e7)) _ _ hsd)))) (Bool.true_and _)) (by unfold okV; rw [Bool.not_and])) (fun hV H7 e8 => ?_) fun hV H7 e8 => ?_
          · have hv0 : okV sc s = false := by simpa using hV
            refine s_ret (ev_is ev_c ?_) fun G e9 => k G ((((e5.trans e6).trans e7).trans e8).trans e9)
            rw [← hres, show (O.str s).fitD ar sc = okV sc s from rfl, hv0, Bool.and_false]
          · have hv1 : okV sc s = true := by simpa using hV
            have e9 := (e6.trans e7).trans e8
            refine s_dput (k := Sum.inr s) (e9 _ _ h5d) ev_c (ev_var rfl) (ev_var rfl) (by omega) fun H8 e10 => ?_
            rw [putK_new hnone]
            refine ⟨O.szs ts', by omega, us', ts', _, _, rfl, Ex.mut ((e5.trans e9).trans e10) hd, ?_, upd_same, tv1, rfl, by rw [List.length_append, List.length_singleton]; omega, hs1', fun q hq => ?_, ?_⟩
            · rw [upd_ne hpd]
              exact e10 _ _ (e9 _ _ upd_same)
            · rcases List.mem_append.mp hq with hq | hq
              · exact hkv q hq
              · obtain rfl : q = (Sum.inr s, V.bl true) := by simpa using hq
                exact ⟨s, rfl, hv1⟩
            · rw [← hres, show (O.str s).fitD ar sc = okV sc s from rfl, hv1, Bool.and_true]
        · have hsome : (valV kvs (Sum.inr s : Key)).isSome = true := by
            cases q : valV kvs (Sum.inr s : Key) with
            | none => rw [q] at hN; cases hN
            | some y => rfl
          obtain ⟨v, hv⟩ := valV_mem hsome
          obtain ⟨s', es, hv1⟩ := hkv _ hv
          obtain rfl : s = s' := Sum.inr.inj es
          refine ⟨O.szs ts', by omega, us', ts', kvs, _, rfl, (e5.trans e6).trans e7, (e6.trans e7) _ _ upd_same, (e6.trans e7) _ _ h5d, tv1, rfl, by omega, hs1', hkv, ?_⟩
          rw [← hres, show (O.str s).fitD ar sc = okV sc s from rfl, hv1, Bool.and_true]
    · have hx : xs = [] := by
        cases xs with
        | nil => rfl
        | cons _ _ => cases hb
      have ht : ts = [] := by
        have := tv.length
        rw [hx] at this
        exact List.length_eq_zero_iff.mp this.symm
      rw [ht] at hres
      refine s_ret (ev_is ev_c ?_) fun H4 e4 => k H4 ((e2.trans e3).trans e4)
      rw [← hres]
      rfl
end
end K02

set_option Elab.async false
set_option linter.all false
set_option maxRecDepth 100000
set_option maxHeartbeats 4000000
/-! atom_fits over names, in a scope. -/
namespace K02
open PySem PySem.Spec PyProof.Rows L2 Evl
def O.fitAD (ar pr : List (Str × Nat)) (sc : List Str) : O → Bool
  | .lst xs => (eqL xs || K02.placesD pr xs) && O.fitsD ar sc xs.tail
  | .tup xs => (eqL xs || K02.placesD pr xs) && O.fitsD ar sc xs.tail
  | _ => false
theorem seq_fitAD {ar pr : List (Str × Nat)} {sc : List Str} (b : Bool) (xs : List O) : (O.seq b xs).fitAD ar pr sc = ((eqL xs || K02.placesD pr xs) && O.fitsD ar sc xs.tail) := by cases b <;> rfl
def spAd : Sp := fun vs H Q _ => ∃ (v : V) (o : O) (fd pd sd : Addr) (ar pr : List (Str × Nat)) (sc : List Str), vs = [v, .ref fd, .ref pd, .ref sd] ∧ ArD H fd ar ∧ ArD H pd pr ∧ H sd = some (.tup (sVs sc)) ∧ OV H v o ∧ o.ss = true ∧ o.sz ≤ 8000 ∧ o.e3 = true ∧ RetV (.bl (o.fitAD ar pr sc)) H Q
section
variable {P : Program} {w : World} {K : PySem.W.Frag} {mg : Str → Option Value} {base : Heap}
theorem ok_atom_d (T : T02 P w K mg base) : Ok P w K mg base CX0 "atom_fits" ["thing", "functions", "predicates", "scope"] 5 spAd := by
  obtain ⟨fE, dE, GE, bE, kE, mE⟩ := (ok_is_equality T).ex
  obtain ⟨fP, dP, GP, bP, kP, mP⟩ := (ok_places_d T).ex
  obtain ⟨fN, dN, GN, bN, kN, mN⟩ := (ok_words_d T).ex
  refine T.ok 14 rfl sc_af (fun vs H Q E h => by obtain ⟨v, o, fd, pd, sd, ar, pr, sc, rfl, _⟩ := h; rfl) (fun kV doc pm an cdv ct us hl => match us, hl with | [_, _, _, _], _ => rfl) (fun f cdv A outer s H vs Q E hr h => ?_)
  obtain ⟨v, z, fd, pd, sd, ar, pr, sc, rfl, har, hpr, hsd, hw, hss, hz, he3, k⟩ := h
  refine ⟨_, pss_one (ps_ret (pe_and (pe_or (pe_call GE (hr.mono (by decide)) (by rfl) mE kE bE .nil pass0 (pa_cons (pv 0) pa_nil)) (pe_one (pe_call GP (hr.mono (by decide)) (by rfl) mP kP bP .nil pass0 (pa_cons (pv 0) (pa_cons (pv 2) pa_nil)))))
    (pe_one (pe_call GN hr (by rfl) mN kN bN .nil pass0 (pa_cons (pe_slice sl_seq (pv 0) (po_some pe_int) po_none) (pa_cons (pv 1) (pa_cons (pv 3) pa_nil))))))), ?_⟩
  have hor : Ev (tOrV (tCall (spF 0 O.eqB) [] E0 (tCons (tVar 0) tNil)) (tCall spPd [] E0 (tCons (tVar 0) (tCons (tVar 2) tNil)))) (L2.start ["thing", "functions", "predicates", "scope"] [v, .ref fd, .ref pd, .ref sd]) H (.bl (z.eqB || z.placesD pr)) :=
    ev_orV (ev_call (ea_cons (ev_var rfl) ea_nil) (spv_F0 hw hss hz he3)) fun _ => ev_call (ea_cons (ev_var rfl) (ea_cons (ev_var rfl) ea_nil)) (spv_pd hw hpr)
  cases hb : z.eqB || z.placesD pr with
  | false =>
    rw [hb] at hor
    refine s_ret (ev_is (ev_andV (a := false) (b := false) hor fun z => nomatch z) ?_) k
    cases z with
    | lst xs => show V.bl false = V.bl ((eqL xs || K02.placesD pr xs) && O.fitsD ar sc xs.tail); rw [show (eqL xs || K02.placesD pr xs) = false from hb]; rfl
    | tup xs => show V.bl false = V.bl ((eqL xs || K02.placesD pr xs) && O.fitsD ar sc xs.tail); rw [show (eqL xs || K02.placesD pr xs) = false from hb]; rfl
    | _ => rfl
  | true =>
    rw [hb] at hor
    obtain ⟨b, xs, rfl⟩ : ∃ b xs, z = O.seq b xs := by
      cases z with
      | lst xs => exact ⟨true, xs, rfl⟩
      | tup xs => exact ⟨false, xs, rfl⟩
      | _ => cases hb
    obtain ⟨a, us, rfl, ha, hov⟩ := hw.seq
    have hsq : SqB H b a us := ha
    rw [seq_fitAD] at k
    rw [seq_eqB, seq_placesD] at hb
    rw [seq_ss] at hss
    rw [O.seq_sz] at hz
    match xs, hov, hb, k, hss, hz with
    | h :: as, ⟨u, us', e0, hu, has⟩, hb, k, hss, hz =>
      subst e0
      have hsz : O.szs (h :: as) = h.sz + O.szs as := rfl
      refine s_ret (ev_is (ev_andV (a := true) hor fun _ => ev_callNQ (eq_tail (ev_var rfl) hsq) (ea_cons (ev_var rfl) (ea_cons (ev_var rfl) ea_nil)) fun b p H1 e1 h1 H2 e2 Q q E => ⟨p, fd, sd, b, us', as, ar, sc, rfl, har.ext (e1.trans e2), (e1.trans e2) _ _ hsd, h1.ext e2, has.ext (e1.trans e2), (Bool.and_eq_true_iff.mp hss).2, by omega, q⟩) ?_) k
      rw [hb]
      rfl
end
end K02

set_option Elab.async false
set_option linter.all false
set_option maxRecDepth 100000
set_option maxHeartbeats 4000000
/-! scope_within. -/
namespace K02
open PySem PySem.Spec PyProof.Rows L2 Evl
theorem sc_sw : FnScope ["part", "scope"] ["part", "scope"] (defScope s_scope_within) := ⟨rfl, rfl, rfl, by decide +kernel, rfl, by decide +kernel, by decide +kernel⟩
theorem sVs_append (xs ys : List Str) : sVs (xs ++ ys) = sVs xs ++ sVs ys := by unfold sVs; simp
theorem sVs_len (xs : List Str) : (sVs xs).length = xs.length := by unfold sVs; simp
def spSw : Sp := fun vs H Q _ => ∃ (a sd : Addr) (b : Bool) (us : List V) (s : Str) (sc : List Str), vs = [.ref a, .ref sd] ∧ SqB H b a us ∧ us[1]? = some (.str s) ∧ H sd = some (.tup (sVs sc)) ∧ sc.length ≤ 9000 ∧ ∀ p G, Ex H G → G p = some (.tup (sVs (sc ++ [s]))) → Q (.ref p) G
section
variable {P : Program} {w : World} {K : PySem.W.Frag} {mg : Str → Option Value} {base : Heap}
theorem ok_within (T : T02 P w K mg base) : Ok P w K mg base CX0 "scope_within" ["part", "scope"] 1 spSw := by
  refine T.ok 15 rfl sc_sw (fun vs H Q E h => by obtain ⟨a, sd, b, us, s, sc, rfl, _⟩ := h; rfl) (fun kV doc pm an cdv ct us hl => match us, hl with | [_, _], _ => rfl) (fun f cdv A outer s H vs Q E hr h => ?_)
  obtain ⟨a, sd, b, us, x, sc, rfl, ha, hx, hsd, hl, k⟩ := h
  refine ⟨_, pss_one (ps_ret (pe_ifExp (pt_cmp (pc_isN (pv 1))) pe_non (pe_op op_catA (pv 1) (pe_tup (pa_cons (pe_ix ix_seq (pv 0) pe_int (fun _ _ => rfl)) pa_nil))))), ?_⟩
  have hN : EvT (tB (tIsN (tVar 1))) (L2.start ["part", "scope"] [.ref a, .ref sd]) H false := et_B (ev_isN (v := .ref sd) (ev_var rfl) rfl)
  unfold tRet tIf
  refine hN H (Ex.refl _) _ fun H1 e1 => ?_
  rw [if_neg (by decide)]
  refine ⟨_, rfl, (ea_cons (ev_op (ev_var rfl) ev_c (rv_ixQ (ha.ext e1) (atI_nat (j := 1) hx))) ea_nil : EvA _ _ H1 [.str x]) H1 (Ex.refl _) _ fun H2 e2 => ⟨by show 1 ≤ sizeLine; decide, fun p hp => ?_⟩⟩
  have e3 : Ex H (upd H2 p (.tup [.str x])) := (e1.trans e2).trans (Ex.new hp)
  refine ⟨sd, p, sVs sc, [.str x], rfl, rfl, st_of (e3 _ _ hsd), st_of upd_same, sz_of (by rw [sVs_len]; show _ + 1 ≤ 100000; omega), fun z => ?_, (fun _ z => nomatch z), fun _ _ p2 hp2 => ?_⟩
  · refine k p _ e3 ?_
    rw [sVs_append, z]
    exact upd_same
  · refine k p2 _ (e3.trans (Ex.new hp2)) ?_
    rw [sVs_append]
    exact upd_same
end
end K02

set_option Elab.async false
set_option linter.all false
set_option maxRecDepth 100000
set_option maxHeartbeats 4000000
/-! sentence_fits: what it says, and the work that it keeps. -/
namespace K02
open PySem PySem.Spec PyProof.Rows L2 Evl
/-- the two tuples of fitting.py -/
structure TB (K : PySem.W.Frag) (mg : Str → Option Value) : Prop where
  bnd : ∀ H : Hp, SqT K H (He.ga K "BINDERS") (sVs ["all", "some"])
  jn : ∀ H : Hp, SqT K H (He.ga K "JOINERS") (sVs ["and", "or", "then", "iff"])
  mgB : mg "BINDERS" = some (.ref (He.ga K "BINDERS"))
  mgJ : mg "JOINERS" = some (.ref (He.ga K "JOINERS"))
theorem rv_inC {K : PySem.W.Frag} {H : Hp} {s : Str} {a : Addr} {xs : List Str} (h : ∀ H : Hp, SqT K H a (sVs xs)) : RV (rIn K false) (.str s) (.ref a) H (.bl (xs.contains s)) := fun H1 e Q q => ⟨a, sVs xs, rfl, .inr (h H1), rfl, sVs_flat xs, by rw [if_neg (by decide), sVs_in]; exact q H1 (Ex.refl _)⟩
def O.isIn (L : List Str) : O → Bool
  | .str s => L.contains s
  | _ => false
def O.varO : O → Bool
  | .str s => varB s
  | _ => false
def O.txt : O → Str
  | .str s => s
  | _ => ""
/-- an atom, told from a list's things -/
def atomL (ar pr : List (Str × Nat)) (xs : List O) (sc : List Str) : Bool := (eqL xs || K02.placesD pr xs) && O.fitsD ar sc xs.tail
theorem atomL_seq {ar pr : List (Str × Nat)} {sc : List Str} (b : Bool) (xs : List O) : (O.seq b xs).fitAD ar pr sc = atomL ar pr xs sc := seq_fitAD b xs
mutual
def O.fitS (ar pr : List (Str × Nat)) : O → List Str → Bool
  | .lst xs, sc => fitSL ar pr xs sc
  | .tup xs, sc => fitSL ar pr xs sc
  | .non, _ => false | .bl _, _ => false | .int _, _ => false | .str _, _ => false | .dct, _ => false
def fitSL (ar pr : List (Str × Nat)) : List O → List Str → Bool
  | [], _ => false
  | [h], sc => atomL ar pr [h] sc
  | [h, x], sc => if h.isIn ["not"] then x.fitS ar pr sc else atomL ar pr [h, x] sc
  | [h, x, y], sc => if h.isIn ["and", "or", "then", "iff"] then x.fitS ar pr sc && y.fitS ar pr sc
      else if h.isIn ["all", "some"] && x.varO then y.fitS ar pr (sc ++ [x.txt]) else atomL ar pr [h, x, y] sc
  | h :: x :: y :: z :: r, sc => atomL ar pr (h :: x :: y :: z :: r) sc
end
theorem seq_fitS {ar pr : List (Str × Nat)} {sc : List Str} (b : Bool) (xs : List O) : (O.seq b xs).fitS ar pr sc = fitSL ar pr xs sc := by cases b <;> unfold O.seq O.fitS <;> rfl
/-- all that waits fits -/
def fitQ (ar pr : List (Str × Nat)) (ws : List (O × List Str)) : Bool := ws.all fun q => q.1.fitS ar pr q.2
theorem fitQ_app {ar pr : List (Str × Nat)} (a b : List (O × List Str)) : fitQ ar pr (a ++ b) = (fitQ ar pr a && fitQ ar pr b) := List.all_append ..
theorem fitQ_one {ar pr : List (Str × Nat)} (x : O) (sc : List Str) : fitQ ar pr [(x, sc)] = x.fitS ar pr sc := by unfold fitQ; simp
theorem fitQ_two {ar pr : List (Str × Nat)} (x y : O) (sc sd : List Str) : fitQ ar pr [(x, sc), (y, sd)] = (x.fitS ar pr sc && y.fitS ar pr sd) := by unfold fitQ; simp
def szQ (ws : List (O × List Str)) : Nat := (ws.map fun q => q.1.sz).sum
theorem szQ_app (a b : List (O × List Str)) : szQ (a ++ b) = szQ a + szQ b := by unfold szQ; rw [List.map_append, List.sum_append]
/-- a thing that waits: a pair of it and of what may stand; H0: what the thing is told by -/
def PrV (H0 H : Hp) (v : V) (q : O × List Str) : Prop := ∃ (t sd : Addr) (x : V), v = .ref t ∧ H t = some (.tup [x, .ref sd]) ∧ OV H0 x q.1 ∧ H sd = some (.tup (sVs q.2))
theorem PrV.tx {H0 H G : Hp} {v : V} {q : O × List Str} (h : PrV H0 H v q) (e : Tx H G) : PrV H0 G v q := let ⟨t, sd, x, a, b, c, d⟩ := h; ⟨t, sd, x, a, e _ _ b, c, e _ _ d⟩
def PrVs (H0 H : Hp) : List V → List (O × List Str) → Prop
  | [], [] => True
  | v :: vs, q :: qs => PrV H0 H v q ∧ PrVs H0 H vs qs
  | _, _ => False
variable {H0 : Hp}
theorem PrVs.tx {H G : Hp} (e : Tx H G) : ∀ {vs : List V} {qs : List (O × List Str)}, PrVs H0 H vs qs → PrVs H0 G vs qs
  | [], [], _ => trivial
  | _ :: _, _ :: _, ⟨a, b⟩ => ⟨a.tx e, PrVs.tx e b⟩
  | [], _ :: _, h => h.elim
  | _ :: _, [], h => h.elim
theorem PrVs.append {H : Hp} : ∀ {vs us : List V} {qs rs : List (O × List Str)}, PrVs H0 H vs qs → PrVs H0 H us rs → PrVs H0 H (vs ++ us) (qs ++ rs)
  | [], _, [], _, _, h => h
  | _ :: _, _, _ :: _, _, ⟨a, b⟩, h => ⟨a, PrVs.append b h⟩
  | [], _, _ :: _, _, h, _ => h.elim
  | _ :: _, _, [], _, h, _ => h.elim
theorem PrVs.length {H : Hp} : ∀ {vs : List V} {qs : List (O × List Str)}, PrVs H0 H vs qs → vs.length = qs.length
  | [], [], _ => rfl
  | _ :: _, _ :: _, ⟨_, b⟩ => congrArg (· + 1) (PrVs.length b)
  | [], _ :: _, h => h.elim
  | _ :: _, [], h => h.elim
theorem PrVs.snoc {H : Hp} {vs : List V} {qs : List (O × List Str)} {q : O × List Str} (h : PrVs H0 H vs (qs ++ [q])) : ∃ us v, vs = us ++ [v] ∧ PrVs H0 H us qs ∧ PrV H0 H v q := by
  induction qs generalizing vs with
  | nil =>
    match vs, h with
    | [v], ⟨a, _⟩ => exact ⟨[], v, rfl, trivial, a⟩
  | cons r rs ih =>
    match vs, h with
    | v :: vs, ⟨a, b⟩ =>
      obtain ⟨us, w, rfl, b1, b2⟩ := ih b
      exact ⟨v :: us, w, rfl, ⟨a, b1⟩, b2⟩
end K02

set_option Elab.async false
set_option linter.all false
set_option maxRecDepth 100000
set_option maxHeartbeats 4000000
/-! Names and variables, asked of any object. -/
namespace K02
open PySem PySem.Spec PyProof.Rows L2 Evl
def O.spO : O → Bool
  | .str s => spelledB s
  | _ => false
def O.nameO : O → Bool
  | .str s => nameB s
  | _ => false
def spBs (f : O → Bool) : Sp := fun vs H Q _ => ∃ v o, vs = [v] ∧ OV H v o ∧ o.ss = true ∧ RetV (.bl (f o)) H Q
theorem spBs_len {f : O → Bool} {vs : List V} {H : Hp} {Q : VK} {E : XK} (h : spBs f vs H Q E) : vs.length = 1 := by
  obtain ⟨v, o, rfl, _⟩ := h
  rfl
theorem spv_bs {f : O → Bool} {v : V} {o : O} {H : Hp} (h : OV H v o) (hs : o.ss = true) : SpV (spBs f) ([v] ++ []) H (.bl (f o)) := fun H1 e Q q E => ⟨v, o, rfl, h.ext e, hs, q⟩
theorem no_str {o : O} (h : o.isStr = false) : o.spO = false ∧ o.nameO = false ∧ o.varO = false := by
  cases o with
  | str s => cases h
  | _ => exact ⟨rfl, rfl, rfl⟩
theorem is_str {o : O} (h : o.isStr = true) : ∃ x, o = .str x := by
  cases o with
  | str s => exact ⟨s, rfl⟩
  | _ => cases h
section
variable {P : Program} {w : World} {K : PySem.W.Frag} {mg : Str → Option Value} {base : Heap}
theorem ok_is_spelled_o (T : T02 P w K mg base) : Ok P w K mg base CX0 "is_spelled" ["thing"] 1 (spBs O.spO) := by
  obtain ⟨tl, mLo⟩ := T.longest
  refine T.ok 5 rfl sc_spelled (fun vs H Q E h => spBs_len h) (fun kV doc pm an cdv ct us hl => match us, hl with | [_], _ => rfl) (fun f cdv A outer s H vs Q E hr h => ?_)
  obtain ⟨v, o, rfl, ho, hss, k⟩ := h
  refine ⟨_, pss_one (ps_ret (pe_and (pe_isiB T.isi T.str PyProof.Rows.boot_str (pv 0)) (pe_and (pe_cmpR op_le (pe_callB call_len (by rfl) T.len PySem.boot_len (pa_cons (pv 0) pa_nil)) (pe_glob (v := .int 8) rfl mLo ⟨_, rfl⟩) (nomark _))
    (pe_and (pe_m0 PySem.F.slot_str_isalnum PySem.F.type_str_isalnum mt_isalnum (pv 0)) (pe_one (pe_m0 PySem.F.slot_str_isascii PySem.F.type_str_isascii mt_isascii (pv 0))))))), ?_⟩
  cases hst : o.isStr with
  | false => exact s_ret (ev_is (ev_andV (a := false) (b := false) (ev_is (ev_isStr (ev_var rfl) ho) (by rw [hst])) fun z => nomatch z) (by rw [(no_str hst).1]; rfl)) k
  | true =>
    obtain ⟨x, rfl⟩ := is_str hst
    obtain rfl : v = .str x := ho
    have hx : x ∈ SS := str_ss hss
    have hl := ss_len hx
    refine s_ret (ev_is (ev_andV (a := true) (ev_isStr (o := .str x) (ev_var rfl) rfl) fun _ => ev_andV (ev_op (ev_lenS (ev_var rfl) (by omega)) ev_c rv_I0) fun _ => ev_andV (ev_m0 (g := Txt.isalnum) (ev_var rfl)) fun _ => ev_m0 (g := Txt.isascii) (ev_var rfl)) ?_) k
    show V.bl (true && (decide (((x.length : Nat) : Int) ≤ 8) && (Txt.isalnum x && Txt.isascii x))) = V.bl (spelledB x)
    have e : decide (((x.length : Nat) : Int) ≤ 8) = decide (x.length ≤ 8) := by
      by_cases q : x.length ≤ 8
      · rw [decide_eq_true q, decide_eq_true (by omega)]
      · rw [decide_eq_false q, decide_eq_false (by omega)]
    rw [e, Bool.true_and]
    rfl
theorem ok_is_name_o (T : T02 P w K mg base) : Ok P w K mg base CX0 "is_name" ["thing"] 2 (spBs O.nameO) := by
  obtain ⟨tl, mLe⟩ := T.letters
  obtain ⟨es, nn, D⟩ := T.kd
  obtain ⟨fS, dS, GS, bS, kS, mS⟩ := (ok_is_spelled_o T).ex
  refine T.ok 6 rfl sc_name (fun vs H Q E h => spBs_len h) (fun kV doc pm an cdv ct us hl => match us, hl with | [_], _ => rfl) (fun f cdv A outer s H vs Q E hr h => ?_)
  obtain ⟨v, o, rfl, ho, hss, k⟩ := h
  refine ⟨_, pss_one (ps_ret (pe_and (pe_call GS hr (by rfl) mS kS bS .nil pass0 (pa_cons (pv 0) pa_nil)) (pe_and (pe_m0 PySem.F.slot_str_islower PySem.F.type_str_islower mt_islower (pv 0))
    (pe_and (pe_cmpR op_in_sign (pe_ix ix_str (pv 0) pe_int (fun _ _ => rfl)) (pe_glob (v := .str "abcdefghijklmnopqrstuvwxyz") rfl mLe ⟨_, rfl⟩) (by rfl))
    (pe_one (pe_cmpR (op_notIn_kd D) (pv 0) (pe_glob (v := .ref (He.ga K "KEPT")) rfl T.kept rfl) (by rfl))))))), ?_⟩
  cases hst : o.isStr with
  | false => exact s_ret (ev_is (ev_andV (a := false) (b := false) (ev_is (ev_call (ea_cons (ev_var rfl) ea_nil) (spv_bs ho hss)) (by rw [(no_str hst).1])) fun z => nomatch z) (by rw [(no_str hst).2.1]; rfl)) k
  | true =>
    obtain ⟨x, rfl⟩ := is_str hst
    obtain rfl : v = .str x := ho
    have hx : x ∈ SS := str_ss hss
    have hl := ss_len hx
    cases hs : spelledB x with
    | false =>
      refine s_ret (ev_is (ev_andV (a := false) (b := false) (ev_is (ev_call (ea_cons (ev_var rfl) ea_nil) (spv_bs (o := .str x) rfl hss)) (by rw [show (O.str x).spO = spelledB x from rfl, hs])) fun z => nomatch z) ?_) k
      show _ = V.bl (nameB x); unfold nameB reachB
      rw [hs]
      rfl
    | true =>
      obtain ⟨c, cs, hc⟩ := ss_first hx (spelled_alnum hs)
      cases hw : Txt.islower x && firstIn x "abcdefghijklmnopqrstuvwxyz" with
      | false =>
        refine s_ret (ev_is (ev_andV (a := true) (b := false) (ev_is (ev_call (ea_cons (ev_var rfl) ea_nil) (spv_bs (o := .str x) rfl hss)) (by rw [show (O.str x).spO = spelledB x from rfl, hs])) fun _ => ev_is (ev_andV (a := Txt.islower x) (b := firstIn x "abcdefghijklmnopqrstuvwxyz" && false) (ev_m0 (g := Txt.islower) (ev_var rfl)) fun hlo =>
          ev_andV (b := false) (ev_is (ev_op (ev_op (ev_var rfl) ev_c (rv_ixS (by omega) (at0 hc))) ev_c rv_insign) (by rw [firstIn_of hc])) fun hf => by rw [hlo, hf] at hw; cases hw) (by rw [Bool.and_false, Bool.and_false])) ?_) k
        show _ = V.bl (nameB x); unfold nameB reachB
        rw [hs, hw]
        rfl
      | true =>
        obtain ⟨h1, h2⟩ := Bool.and_eq_true_iff.mp hw
        have hreach : reachB x = true := by
          unfold reachB
          rw [hs, hw]
          rfl
        refine s_ret (ev_is (ev_andV (a := true) (b := !kws.contains x) (ev_is (ev_call (ea_cons (ev_var rfl) ea_nil) (spv_bs (o := .str x) rfl hss)) (by rw [show (O.str x).spO = spelledB x from rfl, hs])) fun _ => ev_is (ev_andV (a := true) (b := !kws.contains x) (ev_is (ev_m0 (g := Txt.islower) (ev_var rfl)) (by rw [h1])) fun _ =>
          ev_is (ev_andV (a := true) (b := !kws.contains x) (ev_is (ev_op (ev_op (ev_var rfl) ev_c (rv_ixS (by omega) (at0 hc))) ev_c rv_insign) (by rw [← firstIn_of hc, h2])) fun _ => ?_) (by rw [Bool.true_and])) (by rw [Bool.true_and])) ?_) k
        · rcases ss_name hx hreach with z | z
          · have hne : kws.contains x = false := by
              cases q : kws.contains x with
              | false => rfl
              | true => exact absurd z (kws_hds x (List.contains_iff_mem.mp q))
            rw [hne]
            exact ev_op (ev_var rfl) ev_c (rv_notInKd (T.kn x z))
          · obtain ⟨v, hv⟩ := T.kw x z
            have hne : kws.contains x = true := List.contains_iff_mem.mpr z
            rw [hne]
            exact ev_op (ev_var rfl) ev_c fun H1 _ _ q => ⟨x, some v, rfl, rfl, hv, q H1 (Ex.refl H1)⟩
        · show _ = V.bl (nameB x); unfold nameB
          rw [hreach]
theorem ok_is_variable_o (T : T02 P w K mg base) : Ok P w K mg base CX0 "is_variable" ["thing"] 2 (spBs O.varO) := by
  obtain ⟨tl, mLe⟩ := T.capitals
  obtain ⟨fS, dS, GS, bS, kS, mS⟩ := (ok_is_spelled_o T).ex
  refine T.ok 7 rfl sc_var (fun vs H Q E h => spBs_len h) (fun kV doc pm an cdv ct us hl => match us, hl with | [_], _ => rfl) (fun f cdv A outer s H vs Q E hr h => ?_)
  obtain ⟨v, o, rfl, ho, hss, k⟩ := h
  refine ⟨_, pss_one (ps_ret (pe_and (pe_call GS hr (by rfl) mS kS bS .nil pass0 (pa_cons (pv 0) pa_nil))
    (pe_and (pe_cmpR op_in_sign (pe_ix ix_str (pv 0) pe_int (fun _ _ => rfl)) (pe_glob (v := .str "ABCDEFGHIJKLMNOPQRSTUVWXYZ") rfl mLe ⟨_, rfl⟩) (by rfl))
    (pe_one (pe_or (pe_cmpR op_eq (pe_callB call_len (by rfl) T.len PySem.boot_len (pa_cons (pv 0) pa_nil)) pe_int (nomark _))
      (pe_one (pe_m0 PySem.F.slot_str_isdigit PySem.F.type_str_isdigit mt_isdigit (pe_slice sl_str (pv 0) (po_some pe_int) po_none)))))))), ?_⟩
  cases hst : o.isStr with
  | false => exact s_ret (ev_is (ev_andV (a := false) (b := false) (ev_is (ev_call (ea_cons (ev_var rfl) ea_nil) (spv_bs ho hss)) (by rw [(no_str hst).1])) fun z => nomatch z) (by rw [(no_str hst).2.2]; rfl)) k
  | true =>
    obtain ⟨x, rfl⟩ := is_str hst
    obtain rfl : v = .str x := ho
    have hx : x ∈ SS := str_ss hss
    have hl := ss_len hx
    cases hs : spelledB x with
    | false =>
      refine s_ret (ev_is (ev_andV (a := false) (b := false) (ev_is (ev_call (ea_cons (ev_var rfl) ea_nil) (spv_bs (o := .str x) rfl hss)) (by rw [show (O.str x).spO = spelledB x from rfl, hs])) fun z => nomatch z) ?_) k
      show _ = V.bl (varB x)
      unfold varB
      rw [hs]
      rfl
    | true =>
      obtain ⟨c, cs, hc⟩ := ss_first hx (spelled_alnum hs)
      refine s_ret (ev_is (ev_andV (a := true) (ev_is (ev_call (ea_cons (ev_var rfl) ea_nil) (spv_bs (o := .str x) rfl hss)) (by rw [show (O.str x).spO = spelledB x from rfl, hs])) fun _ => ev_andV (ev_op (ev_op (ev_var rfl) ev_c (rv_ixS (by omega) (at0 hc))) ev_c rv_insign) fun _ =>
        ev_orV (ev_op (ev_lenS (ev_var rfl) (by omega)) ev_c (rv_eq rfl)) fun _ => ev_m0 (g := Txt.isdigit) (ev_slS (ev_var rfl) (by omega))) ?_) k
      show _ = V.bl (varB x)
      unfold varB
      rw [hs, firstIn_of hc]
      have e : decide (V.int ((x.length : Nat) : Int) = V.int 1) = decide (x.length = 1) := by
        by_cases q : x.length = 1
        · rw [decide_eq_true q, decide_eq_true (by rw [q]; rfl)]
        · rw [decide_eq_false q, decide_eq_false (fun z => q (by have := V.int.inj z; omega))]
      rw [e]
end
end K02

set_option Elab.async false
set_option linter.all false
set_option maxRecDepth 100000
set_option maxHeartbeats 4000000
/-! sentence_fits: its tree. -/
namespace K02
open PySem PySem.Spec PyProof.Rows L2 Evl
theorem u65 {k : Nat} {A : Around} (r : Room k A) : A.units + 65 < cLine := by
  have := r.un
  omega
abbrev nSf : List Str := ["thing", "functions", "predicates", "scope", "work", "part", "around"]
theorem sc_sf : FnScope nSf ["thing", "functions", "predicates", "scope"] (defScope s_sentence_fits) := ⟨rfl, rfl, rfl, by decide +kernel, rfl, by decide +kernel, by decide +kernel⟩
/-- a head may be a sequence: then it is told by data -/
abbrev rEqH (K : PySem.W.Frag) : R2 := fun x y H Q => rEq x y H Q ∨ rEqD K x y H Q
def rInDT (K : PySem.W.Frag) : R2 := fun x y H Q => ∃ d ds, Dp K H x d ∧ Dp K H y (.tuple ds) ∧ SeqAt.shaped d = true ∧ SeqAt.shaped (.tuple ds) = true ∧ Q (.bl (ds.any fun z => PyData.eqv z d)) H
theorem op_inDT {X : Cx} (hu : X.A.units + 65 < cLine) : OpR X (compareOp .In) (rInDT X.K) := by
  intro pins s σ H x y v u Q I rx ry h
  obtain ⟨d, ds, hd, he, sd, se, q⟩ := h
  obtain ⟨as, r1⟩ := Dp.reads I d x v hd rx
  obtain ⟨bs, r2⟩ := Dp.reads I (.tuple ds) y u he ry
  exact SeqAt.in_tuple_reads r2 r1 (SeqAt.canLay_of_shaped se) (SeqAt.canLay_of_shaped sd) (room_in_shaped sd hu) ⟨.bl _, H, I, rfl, q⟩
abbrev rInH (K : PySem.W.Frag) : R2 := fun x y H Q => rIn K false x y H Q ∨ rInDT K x y H Q
/-! ### instances of own classes are no lists -/
structure InsC (K : PySem.W.Frag) (C : Addr) : Prop where
  cl : Cls K C
  ha : PySem.W.findIn K (.ref C) "__class__" = some (some (.builtin "object.__class__"))
  hn : PySem.W.specialIn K (.builtin "object.__class__") "__get__" = some (some (.builtin "getset_descriptor.__get__"))
  htk : PySem.W.takesIn K (.builtin "object.__class__") = some true
  hm : PySem.W.mroIn K C (.type "object") = some true
  ty : PySem.W.typeIn K (.ref C) = some (.type "type")
  no : ∀ t ∈ (["int", "str", "list", "tuple", "dict"] : List String), PySem.W.kitOne K (.ref C) (.type t) = some false
/-- an instance of the class at C -/
def Ins (K : PySem.W.Frag) (H : Hp) (v : V) (C : Addr) : Prop := InsC K C ∧ ∃ a dx fs, v = .ref a ∧ H a = some (.ins C dx fs)
theorem Ins.ext {K : PySem.W.Frag} {H G : Hp} {v : V} {C : Addr} (h : Ins K H v C) (e : Ex H G) : Ins K G v C := let ⟨c, a, dx, fs, h1, h2⟩ := h; ⟨c, a, dx, fs, h1, e _ _ h2⟩
theorem Ins.tyx {K : PySem.W.Frag} {H : Hp} {v : V} {C : Addr} (h : Ins K H v C) : TyX K H v (.ref C) := by
  obtain ⟨c, a, dx, fs, rfl, h2⟩ := h
  exact .base (.ins h2 c.cl c.ha c.hn c.htk c.hm)
section
variable {K : PySem.W.Frag} {σ : L2.St} {H : Hp} {te : TE} {v : V} {C : Addr}
theorem ev_isiK {t : Value} {n : String} {b : Bool} (h : Ev te σ H v) (ty : TyX K H v t) (e : PySem.W.kitOne K t (.type n) = some b) : Ev (tIsi K n te) σ H (.bl b) :=
  ev_cb (ea_cons h (ea_cons ev_c ea_nil)) fun H1 x Q q => ⟨v, .ty n, _, _, b, rfl, .ty n, tyx_ext x ty, e, q H1 (Ex.refl H1)⟩
theorem ev_isSeqI (h : Ev te σ H v) (i : Ins K H v C) : Ev (tIsi2 K te) σ H (.bl false) := fun H1 x Q q =>
  h H1 x _ fun H2 x2 => ⟨by show 2 ≤ sizeLine; decide, fun p hp => by
    have x3 : Ex H2 (upd H2 p (.tup [.ty "list", .ty "tuple"])) := Ex.new hp
    show rIsiT K [v, .ref p] _ Q
    exact ⟨v, p, [.ty "list", .ty "tuple"], _, [.type "list", .type "tuple"], false, rfl, upd_same, .cons (.ty _) (.cons (.ty _) .nil), tyx_ext ((x.trans x2).trans x3) i.tyx, kitAny_cons (i.1.no "list" (by decide)) (fun _ => kitAny_cons (i.1.no "tuple" (by decide)) (fun _ => kitAny_nil) fun z => nomatch z) (fun z => nomatch z), q _ (x2.trans x3)⟩⟩
end
def O.isSeq (o : O) : Bool := o.isLst || o.isTup
/-- is_list of any object here -/
def spLi (K : PySem.W.Frag) : Sp := fun vs H Q _ => ∃ v, vs = [v] ∧ ((∃ o, OV H v o ∧ RetV (.bl o.isSeq) H Q) ∨ ((∃ C, Ins K H v C) ∧ RetV (.bl false) H Q))
theorem spv_li {K : PySem.W.Frag} {v : V} {o : O} {H : Hp} (h : OV H v o) : SpV (spLi K) ([v] ++ []) H (.bl o.isSeq) := fun H1 e Q q E => ⟨v, rfl, .inl ⟨o, h.ext e, q⟩⟩
theorem spv_liI {K : PySem.W.Frag} {v : V} {C : Addr} {H : Hp} (h : Ins K H v C) : SpV (spLi K) ([v] ++ []) H (.bl false) := fun H1 e Q q E => ⟨v, rfl, .inr ⟨⟨C, h.ext e⟩, q⟩⟩
section
variable {P : Program} {w : World} {K : PySem.W.Frag} {mg : Str → Option Value} {base : Heap}
theorem ok_is_list_x (T : T02 P w K mg base) : Ok P w K mg base CX0 "is_list" ["thing"] 1 (spLi K) := by
  refine T.ok 3 rfl sc_list (fun vs H Q E h => by obtain ⟨v, rfl, _⟩ := h; rfl) (fun kV doc pm an cdv ct us hl => match us, hl with | [_], _ => rfl) (fun f cdv A outer s H vs Q E hr h => ?_)
  obtain ⟨v, rfl, h⟩ := h
  refine ⟨_, pss_one (ps_ret (pe_isiLT T.isi T.list T.tuple (pv 0))), ?_⟩
  rcases h with ⟨o, ho, k⟩ | ⟨⟨C, hC⟩, k⟩
  · exact s_ret (ev_isSeq (ev_var rfl) ho) k
  · exact s_ret (ev_isSeqI (ev_var rfl) hC) k
end
abbrev tAt5 (K : PySem.W.Frag) (k : Int) : TE := tOp (rIxQ K) (tVar 5) (tC (.int k))
abbrev tLn5 (K : PySem.W.Frag) (n : Int) : TT := tTest (tOp rEq (tLen K (tVar 5)) (tC (.int n)))
abbrev tPr5 (K : PySem.W.Frag) (k : Int) : TE := tTup (tCons (tAt5 K k) (tCons (tVar 6) tNil))
abbrev tAtomS : TS := tIfS (tNot (tB (tCall spAd [] E0 (tCons (tVar 5) (tCons (tVar 1) (tCons (tVar 2) (tCons (tVar 6) tNil))))))) (tRet (tC (.bl false))) tNext
abbrev tBindS (K : PySem.W.Frag) : TS := tIfS (tAnd (tTest (tOp (rInH K) (tAt5 K 0) (tC (.ref (He.ga K "BINDERS"))))) (tAnd (tLn5 K 3) (tB (tCall (spBs O.varO) [] E0 (tCons (tAt5 K 1) tNil)))))
  (tDrop (tBM K "list" rAppend (tVar 4) (tCons (tTup (tCons (tAt5 K 2) (tCons (tCall spSw [] E0 (tCons (tVar 5) (tCons (tVar 6) tNil))) tNil))) tNil))) tAtomS
abbrev tJoinS (K : PySem.W.Frag) : TS := tIfS (tAnd (tTest (tOp (rInH K) (tAt5 K 0) (tC (.ref (He.ga K "JOINERS"))))) (tLn5 K 3))
  (tDrop (tBM K "list" (rExtQ K) (tVar 4) (tCons (tLst (tCons (tPr5 K 1) (tCons (tPr5 K 2) tNil))) tNil))) (tBindS K)
abbrev tNotS (K : PySem.W.Frag) : TS := tIfS (tAnd (tTest (tOp (rEqH K) (tAt5 K 0) (tC (.str "not")))) (tLn5 K 2))
  (tDrop (tBM K "list" rAppend (tVar 4) (tCons (tPr5 K 1) tNil))) (tJoinS K)
abbrev tTurnS (K : PySem.W.Frag) : TS := tSeq (tAsg (tBM0 K "list" rPop (tVar 4)) (gPair K 5 6))
  (tSeq (tIfS (tOr (tNot (tB (tCall (spLi K) [] E0 (tCons (tVar 5) tNil)))) (tLn5 K 0)) (tRet (tC (.bl false))) tNext) (tNotS K))
abbrev tSfB (K : PySem.W.Frag) : TS := tSeq (tAsg (tLst (tCons (tTup (tCons (tVar 0) (tCons (tVar 3) tNil))) tNil)) (gName 4))
  (tSeq (tWhile (fun σ H Q => tVar 4 σ H fun x H' => ∃ k, TruV K x H' k ∧ Q k H') (tTurnS K)) (tRet (tC (.bl true))))
section
variable {P : Program} {w : World} {K : PySem.W.Frag} {mg : Str → Option Value} {base : Heap} {f : Addr} {cdv : Value} {A : Around} {outer : List Env} {s : Shared} {H : Hp} {E : XK}
theorem sf_tree (T : T02 P w K mg base) (B : TB K mg) (hr : Room 5 (cxOf CX0 P w K mg base nSf "sentence_fits" (defScope s_sentence_fits) f cdv A outer s H E).nox.A) : PSs (cxOf CX0 P w K mg base nSf "sentence_fits" (defScope s_sentence_fits) f cdv A outer s H E).nox (defBody s_sentence_fits) (tSfB K) := by
  obtain ⟨fL, dL, GL, bL, kL, mL⟩ := (ok_is_list_x T).ex
  obtain ⟨fV, dV, GV, bV, kV', mV⟩ := (ok_is_variable_o T).ex
  obtain ⟨fA, dA, GA, bA, kA, mA⟩ := (ok_atom_d T).ex
  obtain ⟨fW, dW, GW, bW, kW, mW⟩ := (ok_within T).ex
  exact pss_cons (ps_set (i := 4) sc_sf.nd rfl (Or.inl rfl) (pe_lst (pa_cons (pe_tup (pa_cons (pv 0) (pa_cons (pv 3) pa_nil))) pa_nil)))
    (pss_cons (ps_while PassesOwn.never (pt_truth (pv 4) (by intro _; rfl))
      (pss_cons (ps_asg (pe_bm0 PySem.F.plainAttrs_list PySem.F.slot_list_pop PySem.F.type_list_pop mt_pop (pv 4)) (pg_tup rfl (pgs_cons (pg_name (i := 5) sc_sf.nd rfl (Or.inl rfl)) (pgs_cons (pg_name (i := 6) sc_sf.nd rfl (Or.inl rfl)) pgs_nil))))
      (pss_cons (ps_if (PW.pt (pw_or (pt_not (pt_val (pe_call GL (hr.mono (by decide)) (by rfl) mL kL bL .nil pass0 (pa_cons (pv 5) pa_nil)))) (pw_or1 (pt_cmpR op_eq (pe_callB call_len (by rfl) T.len PySem.boot_len (pa_cons (pv 5) pa_nil)) pe_int (nomark _))))) (pss_one (ps_ret pe_bl)) pss_nil)
      (pss_one (ps_if (PW.pt (pw_and (pt_cmpR (op_or op_eq (op_eqD hr.units)) (pe_ix ix_seq (pv 5) pe_int (fun _ _ => rfl)) pe_str (nomark _)) (pw_and1 (pt_cmpR op_eq (pe_callB call_len (by rfl) T.len PySem.boot_len (pa_cons (pv 5) pa_nil)) pe_int (nomark _)))))
        (pss_one (ps_expr (pe_bm PySem.F.plainAttrs_list PySem.F.slot_list_append PySem.F.type_list_append mt_append (pv 4) (pa_cons (pe_tup (pa_cons (pe_ix ix_seq (pv 5) pe_int (fun _ _ => rfl)) (pa_cons (pv 6) pa_nil))) pa_nil))))
        (pss_one (ps_if (PW.pt (pw_and (pt_cmpR (op_or op_in_seq (op_inDT (u65 hr))) (pe_ix ix_seq (pv 5) pe_int (fun _ _ => rfl)) (pe_glob (v := .ref (He.ga K "JOINERS")) rfl B.mgJ rfl) (by rfl)) (pw_and1 (pt_cmpR op_eq (pe_callB call_len (by rfl) T.len PySem.boot_len (pa_cons (pv 5) pa_nil)) pe_int (nomark _)))))
          (pss_one (ps_expr (pe_bm PySem.F.plainAttrs_list PySem.F.slot_list_extend PySem.F.type_list_extend mt_extQ (pv 4) (pa_cons (pe_lst (pa_cons (pe_tup (pa_cons (pe_ix ix_seq (pv 5) pe_int (fun _ _ => rfl)) (pa_cons (pv 6) pa_nil))) (pa_cons (pe_tup (pa_cons (pe_ix ix_seq (pv 5) pe_int (fun _ _ => rfl)) (pa_cons (pv 6) pa_nil))) pa_nil))) pa_nil))))
          (pss_one (ps_if (PW.pt (pw_and (pt_cmpR (op_or op_in_seq (op_inDT (u65 hr))) (pe_ix ix_seq (pv 5) pe_int (fun _ _ => rfl)) (pe_glob (v := .ref (He.ga K "BINDERS")) rfl B.mgB rfl) (by rfl)) (pw_and (pt_cmpR op_eq (pe_callB call_len (by rfl) T.len PySem.boot_len (pa_cons (pv 5) pa_nil)) pe_int (nomark _)) (pw_and1 (pt_val (pe_call GV (hr.mono (by decide)) (by rfl) mV kV' bV .nil pass0 (pa_cons (pe_ix ix_seq (pv 5) pe_int (fun _ _ => rfl)) pa_nil)))))))
            (pss_one (ps_expr (pe_bm PySem.F.plainAttrs_list PySem.F.slot_list_append PySem.F.type_list_append mt_append (pv 4) (pa_cons (pe_tup (pa_cons (pe_ix ix_seq (pv 5) pe_int (fun _ _ => rfl)) (pa_cons (pe_call GW (hr.mono (by decide)) (by rfl) mW kW bW .nil pass0 (pa_cons (pv 5) (pa_cons (pv 6) pa_nil))) pa_nil))) pa_nil))))
            (pss_one (ps_if (pt_not (pt_val (pe_call GA (hr.mono (by decide)) (by rfl) mA kA bA .nil pass0 (pa_cons (pv 5) (pa_cons (pv 1) (pa_cons (pv 2) (pa_cons (pv 6) pa_nil)))))))
              (pss_one (ps_ret pe_bl)) pss_nil)))))))))))
    (pss_one (ps_ret pe_bl)))
end
end K02

set_option Elab.async false
set_option linter.all false
set_option maxRecDepth 100000
set_option maxHeartbeats 4000000
/-! sentence_fits: its walk. -/
namespace K02
open PySem PySem.Spec PyProof.Rows L2 Evl
/-- the head is a text, or the one thing of it is data -/
def hdL : List O → Bool
  | [] => true
  | [h] => h.isStr || (h.ed && decide (h.dp ≤ 60))
  | h :: _ :: _ => h.isStr
mutual
def O.hok : O → Bool
  | .lst xs => hdL xs && O.hoks xs
  | .tup xs => hdL xs && O.hoks xs
  | .non => true | .bl _ => true | .int _ => true | .str _ => true | .dct => true
def O.hoks : List O → Bool
  | [] => true
  | x :: xs => x.hok && O.hoks xs
end
theorem seq_hok (b : Bool) (xs : List O) : (O.seq b xs).hok = (hdL xs && O.hoks xs) := by cases b <;> rfl
theorem hd_e3 {xs : List O} (h : hdL xs = true) : e3L xs = true := by
  match xs, h with
  | [], _ => rfl
  | [_], _ => rfl
  | [_, _], _ => rfl
  | [_, _, _], h => exact h
  | _ :: _ :: _ :: _ :: _, _ => rfl
theorem eqv_str {h : O} {s : Str} (n : h.isStr = false) : PyData.eqv h.py (.str s) = false := by
  cases h with
  | str _ => cases n
  | _ => simp [O.py, PyData.eqv]
theorem str_eqv {h : O} {s : Str} (n : h.isStr = false) : PyData.eqv (.str s) h.py = false := by
  cases h with
  | str _ => cases n
  | _ => simp [O.py, PyData.eqv]
theorem isIn_no {h : O} {L : List Str} (n : h.isStr = false) : h.isIn L = false := by
  cases h with
  | str _ => cases n
  | _ => rfl
theorem hd_dat {h : O} {as : List O} (hk : hdL (h :: as) = true) (n : h.isStr = false) : h.ed = true ∧ h.dp ≤ 60 := by
  match as, hk with
  | [], hk =>
    have hk : (h.isStr || (h.ed && decide (h.dp ≤ 60))) = true := hk
    rw [n, Bool.false_or, Bool.and_eq_true] at hk
    exact ⟨hk.1, of_decide_eq_true hk.2⟩
  | _ :: _, hk =>
    have hk : h.isStr = true := hk
    rw [n] at hk
    cases hk
section
variable {K : PySem.W.Frag} {H : Hp}
theorem rv_hdEq {u : V} {h : O} {as : List O} {s : Str} (hu : OV H u h) (hk : hdL (h :: as) = true) (sh : SeqAt.shaped (.str s) = true) : RV (rEqH K) u (.str s) H (.bl (h.isIn [s])) := fun H1 e Q q => by
  cases n : h.isStr with
  | true =>
    obtain ⟨r, rfl⟩ : ∃ r, h = .str r := by
      cases h with
      | str r => exact ⟨r, rfl⟩
      | _ => cases n
    obtain rfl : u = .str r := hu
    refine .inl ⟨rfl, ?_⟩
    have e1 : decide (V.str r = V.str s) = (O.str r).isIn [s] := by
      show _ = [s].contains r
      rw [Bool.eq_iff_iff, decide_eq_true_iff]
      simp
    rw [e1]
    exact q H1 (Ex.refl _)
  | false =>
    obtain ⟨h1, h2⟩ := hd_dat hk n
    refine .inr ⟨h.py, .str s, OV.dpd (hu.ext e) h1, .str s, O.shaped h1 h2, sh, ?_⟩
    rw [eqv_str n, ← isIn_no (L := [s]) n]
    exact q H1 (Ex.refl _)
theorem dp_strs {L : List Str} : DpAll K H (sVs L) (L.map PyData.str) := by
  induction L with
  | nil => exact .nil
  | cons x xs ih => exact .cons (.str x) ih
theorem rv_hdIn {u : V} {h : O} {as : List O} {a : Addr} {L : List Str} (hu : OV H u h) (hk : hdL (h :: as) = true) (hL : ∀ H : Hp, SqT K H a (sVs L)) (sh : SeqAt.shaped (.tuple (L.map PyData.str)) = true) : RV (rInH K) u (.ref a) H (.bl (h.isIn L)) := fun H1 e Q q => by
  cases n : h.isStr with
  | true =>
    obtain ⟨r, rfl⟩ : ∃ r, h = .str r := by
      cases h with
      | str r => exact ⟨r, rfl⟩
      | _ => cases n
    obtain rfl : u = .str r := hu
    exact .inl (rv_inC hL H1 e Q q)
  | false =>
    obtain ⟨h1, h2⟩ := hd_dat hk n
    refine .inr ⟨h.py, L.map PyData.str, OV.dpd (hu.ext e) h1, .tup (hL H1) dp_strs, O.shaped h1 h2, sh, ?_⟩
    have e1 : ((L.map PyData.str).any fun z => PyData.eqv z h.py) = h.isIn L := by
      rw [isIn_no n, List.any_eq_false]
      intro z hz
      obtain ⟨s, _, rfl⟩ := List.mem_map.mp hz
      rw [str_eqv n]
      decide
    rw [e1]
    exact q H1 (Ex.refl _)
end
theorem sh_not : SeqAt.shaped (.str "not") = true := by decide +kernel
theorem sh_jn : SeqAt.shaped (.tuple ((["and", "or", "then", "iff"] : List Str).map PyData.str)) = true := by decide +kernel
theorem sh_bn : SeqAt.shaped (.tuple ((["all", "some"] : List Str).map PyData.str)) = true := by decide +kernel
/-! ### what it says, by cases -/
section
variable {ar pr : List (Str × Nat)} {sc : List Str} {h x y : O} {as : List O}
theorem fs_not (hh : h.isIn ["not"] = true) : fitSL ar pr [h, x] sc = x.fitS ar pr sc := by
  rw [fitSL, if_pos hh]
theorem fs_join (hh : h.isIn ["and", "or", "then", "iff"] = true) : fitSL ar pr [h, x, y] sc = (x.fitS ar pr sc && y.fitS ar pr sc) := by
  rw [fitSL, if_pos hh]
theorem fs_bind (h0 : h.isIn ["and", "or", "then", "iff"] = false) (hh : h.isIn ["all", "some"] = true) (hx : x.varO = true) : fitSL ar pr [h, x, y] sc = y.fitS ar pr (sc ++ [x.txt]) := by
  rw [fitSL, if_neg (by rw [h0]; decide), hh, hx]
  rfl
theorem fs_atom (h1 : (h.isIn ["not"] && decide ((h :: as).length = 2)) = false) (h2 : (h.isIn ["and", "or", "then", "iff"] && decide ((h :: as).length = 3)) = false)
    (h3 : (h.isIn ["all", "some"] && (decide ((h :: as).length = 3) && (as.headD .non).varO)) = false) : fitSL ar pr (h :: as) sc = atomL ar pr (h :: as) sc := by
  match as, h1, h2, h3 with
  | [], _, _, _ => rw [fitSL]
  | [x], h1, _, _ =>
    have h1 : (h.isIn ["not"] && true) = false := h1
    rw [Bool.and_true] at h1
    rw [fitSL, h1, if_neg (by decide)]
  | [x, y], _, h2, h3 =>
    have h2 : (h.isIn ["and", "or", "then", "iff"] && true) = false := h2
    rw [Bool.and_true] at h2
    have h3 : (h.isIn ["all", "some"] && (true && x.varO)) = false := h3
    rw [Bool.true_and] at h3
    rw [fitSL, h2, if_neg (by decide), h3, if_neg (by decide)]
  | _ :: _ :: _ :: _, _, _, _ => rw [fitSL]
end
theorem as1 {α : Type} {as : List α} (h : as.length + 1 = 2) : ∃ x, as = [x] := by
  match as, h with
  | [x], _ => exact ⟨x, rfl⟩
theorem as2 {α : Type} {as : List α} (h : as.length + 1 = 3) : ∃ x y, as = [x, y] := by
  match as, h with
  | [x, y], _ => exact ⟨x, y, rfl⟩
theorem OVs.one {H : Hp} {vs : List V} {x : O} (h : OVs H vs [x]) : ∃ u, vs = [u] ∧ OV H u x := by
  obtain ⟨u, us, rfl, h1, h2⟩ := h
  obtain rfl : us = [] := h2
  exact ⟨u, rfl, h1⟩
theorem OVs.two {H : Hp} {vs : List V} {x y : O} (h : OVs H vs [x, y]) : ∃ u w, vs = [u, w] ∧ OV H u x ∧ OV H w y := by
  obtain ⟨u, us, rfl, h1, h2⟩ := h
  obtain ⟨w, rfl, h3⟩ := OVs.one h2
  exact ⟨u, w, rfl, h1, h3⟩
section
variable {K : PySem.W.Frag} {σ : L2.St} {H G : Hp} {te ta tb t1 t2 : TE} {v : V} {D : Ends} {tz : TS}
/-- a, b = xs.pop() -/
theorem q_popPr {l tp : Addr} {xs : List V} {x y : V} {i j : Nat} (hl : H l = some (.lst (xs ++ [.ref tp]))) (ht : H tp = some (.tup [x, y])) (ha : Ev ta σ H (.ref l)) (k : ∀ H1, Ex H H1 → tz D ((σ.set i (some x)).set j (some y)) (upd H1 l (.lst xs))) :
    tSeq (tAsg (tBM0 K "list" rPop ta) (gPair K i j)) tz D σ H :=
  ha H (Ex.refl H) _ fun H1 e1 => ⟨.inl ⟨rfl, _, sq_of (e1 l _ hl)⟩, l, _, _, rfl, rfl, e1 l _ hl, last_at, by
    rw [List.dropLast_concat]
    have ne : tp ≠ l := fun z => by
      rw [z, hl] at ht
      cases ht
    exact ⟨tp, [x, y], rfl, st_of (by rw [upd_ne ne]; exact e1 _ _ ht), rfl, _, _, rfl, _, _, rfl, rfl, k H1 e1⟩⟩
/-- xs.extend([t1, t2]), new pairs -/
theorem s_extPr {l : Addr} {xs ys zs : List V} (hl : H l = some (.lst xs)) (ha : Ev ta σ H (.ref l)) (h1 : EvU t1 σ H ys) (h2 : EvU t2 σ H zs) (hs : xs.length + 2 ≤ 100000)
    (k : ∀ p q H1, Ex H H1 → H1 p = some (.tup ys) → H1 q = some (.tup zs) → D.nx σ (upd H1 l (.lst (xs ++ [.ref p, .ref q])))) : tDrop (tBM K "list" (rExtQ K) ta (tCons (tLst (tCons t1 (tCons t2 tNil))) tNil)) D σ H :=
  ha H (Ex.refl H) _ fun H1 e1 => ⟨.inl ⟨rfl, _, sq_of (e1 l _ hl)⟩, h1 H1 e1 _ fun p H2 np e2 hp => h2 H2 (e1.trans e2) _ fun q H3 nq e3 hq => ⟨by show 2 ≤ sizeLine; decide, fun r nr => by
    have e4 : Ex H3 (upd H3 r (.lst [.ref p, .ref q])) := Ex.new nr
    exact .inl ⟨l, r, xs, [.ref p, .ref q], rfl, rfl, e4 _ _ (e3 _ _ (e2 _ _ (e1 _ _ hl))), upd_same, sz_of hs, k p q _ (((e1.trans e2).trans e3).trans e4) (e4 _ _ (e3 _ _ hp)) (e4 _ _ hq)⟩⟩⟩
theorem et_len5 {b : Bool} {a : Addr} {us : List V} (n : Nat) (h5 : σ[5]? = some (some (.ref a))) (hs : SqB H b a us) : EvT (tLn5 K (n : Int)) σ H (decide (us.length = n)) :=
  et_is (et_test (ev_op (ev_lenQ (ev_var h5) hs) ev_c (rv_eq rfl))) (decide_eq_decide.mpr ⟨fun z => by have := V.int.inj z; omega, fun z => by rw [z]⟩)
theorem ev_at5 {b : Bool} {a : Addr} {us : List V} {k : Nat} {u : V} (h5 : σ[5]? = some (some (.ref a))) (hs : SqB H b a us) (hu : us[k]? = some u) : Ev (tAt5 K (k : Int)) σ H u := ev_op (ev_var h5) ev_c (rv_ixQ hs (atI_nat hu))
theorem eu_pr5 {b : Bool} {a sd : Addr} {us : List V} {k : Nat} {u : V} (h5 : σ[5]? = some (some (.ref a))) (h6 : σ[6]? = some (some (.ref sd))) (hs : SqB H b a us) (hu : us[k]? = some u) : EvU (tPr5 K (k : Int)) σ H [u, .ref sd] :=
  eu_tup (ea_cons (ev_at5 h5 hs hu) (ea_cons (ev_var h6) ea_nil)) (by show 2 ≤ 100000; decide)
/-- xs.append((part[2], scope_within(part, around))) -/
theorem s_appBind {tc : TA} {l a sd : Addr} {b : Bool} {xs us : List V} {x : V} {s : Str} {sc : List Str} (hl : H l = some (.lst xs)) (h4 : Ev ta σ H (.ref l)) (h2 : Ev t2 σ H x) (h5 : EvA tc σ H [.ref a, .ref sd]) (hs : SqB H b a us) (hy : us[1]? = some (.str s)) (hsd : H sd = some (.tup (sVs sc))) (hn : sc.length ≤ 9000) (hz : xs.length < 100000)
    (k : ∀ t r G, Ex H G → G t = some (.tup [x, .ref r]) → G r = some (.tup (sVs (sc ++ [s]))) → D.nx σ (upd G l (.lst (xs ++ [.ref t])))) :
    tDrop (tBM K "list" rAppend ta (tCons (tTup (tCons t2 (tCons (tCall spSw [] E0 tc) tNil))) tNil)) D σ H :=
  h4 H (Ex.refl H) _ fun H1 e1 => ⟨.inl ⟨rfl, _, sq_of (e1 l _ hl)⟩, h2 H1 e1 _ fun H2 e2 => h5 H2 (e1.trans e2) _ fun H3 e3 => by
    have e03 := (e1.trans e2).trans e3
    refine ⟨a, sd, b, us, s, sc, rfl, hs.ext e03, hy, e03 _ _ hsd, hn, fun r G eG hr => ⟨by show 2 ≤ sizeLine; decide, fun t nt => ?_⟩⟩
    have eT : Ex G (upd G t (.tup [x, .ref r])) := Ex.new nt
    have e0T := (e03.trans eG).trans eT
    exact ⟨l, xs, .ref t, rfl, rfl, e0T _ _ hl, sz_lt hz, k t r _ e0T upd_same (eT _ _ hr)⟩⟩
end
def spSd : Sp := fun vs H Q _ => ∃ (v : V) (o : O) (fd pd sd : Addr) (ar pr : List (Str × Nat)) (sc : List Str), vs = [v, .ref fd, .ref pd, .ref sd] ∧ ArD H fd ar ∧ ArD H pd pr ∧ H sd = some (.tup (sVs sc)) ∧ OV H v o ∧ o.ss = true ∧ o.hok = true ∧ o.sz + sc.length ≤ 8000 ∧ RetV (.bl (o.fitS ar pr sc)) H Q
def spSi (K : PySem.W.Frag) : Sp := fun vs H Q _ => ∃ (v : V) (C fd pd sd : Addr), vs = [v, .ref fd, .ref pd, .ref sd] ∧ Ins K H v C ∧ RetV (.bl false) H Q
def spSx (K : PySem.W.Frag) : Sp := fun vs H Q E => spSd vs H Q E ∨ spSi K vs H Q E
/-- what holds of a thing that waits -/
def QOk (q : O × List Str) : Prop := q.1.ss = true ∧ q.1.hok = true ∧ q.1.sz + q.2.length ≤ 8000
structure WSf (H0 H : Hp) (p : Addr) (ar pr : List (Str × Nat)) (r : Bool) (m : Nat) (xs : List V) (ws : List (O × List Str)) : Prop where
  ex : Ex H0 H
  hp : H p = some (.lst xs)
  pv : PrVs H0 H xs ws
  mq : m = szQ ws
  ok : ∀ q ∈ ws, QOk q
  le : m ≤ 8000
  fit : fitQ ar pr ws = r
theorem szQ_len (ws : List (O × List Str)) : ws.length ≤ szQ ws := by
  induction ws with
  | nil => exact Nat.zero_le _
  | cons q ws ih =>
    have := q.1.sz_pos
    have e : szQ (q :: ws) = q.1.sz + szQ ws := by unfold szQ; simp
    rw [e, List.length_cons]
    omega
theorem szQ_one (q : O × List Str) : szQ [q] = q.1.sz := by unfold szQ; simp
theorem szQ_two (q r : O × List Str) : szQ [q, r] = q.1.sz + r.1.sz := by unfold szQ; simp
section
variable {P : Program} {w : World} {K : PySem.W.Frag} {mg : Str → Option Value} {base : Heap}
theorem ok_sentence (T : T02 P w K mg base) (B : TB K mg) : Ok P w K mg base CX0 "sentence_fits" ["thing", "functions", "predicates", "scope"] 6 (spSx K) := by
  refine T.ok 16 rfl sc_sf (fun vs H Q E h => ?_) (fun kV doc pm an cdv ct us hl => match us, hl with | [_, _, _, _], _ => rfl) (fun f cdv A outer s H vs Q E hr h => ⟨tSfB K, sf_tree T B hr, ?_⟩)
  · rcases h with ⟨v, o, fd, pd, sd, ar, pr, sc, rfl, _⟩ | ⟨v, C, fd, pd, sd, rfl, _⟩ <;> rfl
  rcases h with ⟨v, o, fd, pd, sd, ar, pr, sc, rfl, har, hpr, hsd, ho, hss, hhk, hz, k⟩ | ⟨v, C, fd, pd, sd, rfl, hC, k⟩
  · refine ⟨_, rfl, _, rfl, by show 2 ≤ sizeLine; decide, fun t ht => ⟨by show 1 ≤ sizeLine; decide, fun p hp => ?_⟩⟩
    have e0 : Ex H (upd H t (.tup [v, .ref sd])) := Ex.new ht
    have e1 : Ex (upd H t (.tup [v, .ref sd])) (upd (upd H t (.tup [v, .ref sd])) p (.lst [.ref t])) := Ex.new hp
    have hp0 : H p = none := fresh_back e0 hp
    unfold gName
    dsimp only
    refine q_while (fun m σ' H' => ∃ xs ws o5 o6, σ' = [some v, some (.ref fd), some (.ref pd), some (.ref sd), some (.ref p), o5, o6] ∧ WSf H H' p ar pr (o.fitS ar pr sc) m xs ws) o.sz
      ⟨_, [(o, sc)], none, none, rfl, ⟨e0.trans e1, upd_same, ⟨⟨t, sd, v, rfl, e1 _ _ upd_same, ho, e1 _ _ (e0 _ _ hsd)⟩, trivial⟩, (szQ_one (o, sc)).symm, (fun q hq => by
        have hq : q = (o, sc) := by simpa using hq
        rw [hq]
        exact ⟨hss, hhk, hz⟩), (by omega), fitQ_one o sc⟩⟩ ?_
    rintro m σ' H' ⟨xs, ws, o5, o6, rfl, W⟩
    refine ⟨!xs.isEmpty, et_truL (ev_var rfl) (SqL.of W.hp), fun hb H3 e3 => ?_, fun hb H3 e3 => ?_⟩
    · rcases List.eq_nil_or_concat ws with hw | ⟨ws', tq, hw⟩
      · have := W.pv.length
        rw [hw] at this
        rw [List.length_eq_zero_iff.mp this] at hb
        exact absurd hb (by decide)
      rw [List.concat_eq_append] at hw
      subst hw
      obtain ⟨us, x, rfl, pv1, tp, sd2, xv, rfl, htp, hov, hsd2⟩ := W.pv.snoc
      obtain ⟨part, sc2⟩ := tq
      have hq := W.ok (part, sc2) (by simp)
      have hsum := szQ_app ws' [(part, sc2)]
      rw [szQ_one] at hsum
      have hfit := W.fit
      rw [fitQ_app, fitQ_one] at hfit
      have hm := W.mq
      have hle := W.le
      have hln := szQ_len ws'
      have hpl := pv1.length
      refine ⟨fun σ2 H2 => ∃ m', m' < m ∧ ∃ xs ws o5 o6, σ2 = [some v, some (.ref fd), some (.ref pd), some (.ref sd), some (.ref p), o5, o6] ∧ WSf H H2 p ar pr (o.fitS ar pr sc) m' xs ws, fun σ2 H2 z => z, ?_⟩
      refine q_popPr (e3 _ _ W.hp) (e3 _ _ htp) (ev_var rfl) fun H4 e4 => ?_
      have e34 := e3.trans e4
      have hp4 : H4 p = some (.lst (us ++ [.ref tp])) := e34 _ _ W.hp
      have tx5 : Tx H4 (upd H4 p (.lst us)) := Tx.lst hp4
      have tx : Tx H' (upd H4 p (.lst us)) := (Tx.of e34).trans tx5
      have e5 : Ex H (upd H4 p (.lst us)) := Ex.mut (W.ex.trans e34) hp0
      have h5p : (upd H4 p (.lst us)) p = some (.lst us) := upd_same
      have hsd5 := tx _ _ hsd2
      have pv5 := pv1.tx tx
      generalize upd H4 p (.lst us) = H5 at tx e5 h5p hsd5 pv5 ⊢
      have ov5 := hov.ext e5
      dsimp only [List.set]
      cases hsq : part.isSeq with
      | false =>
        refine q_when (b := true) (et_is (et_or (a := true) (b := true) (et_is (et_not (et_B (ev_call (ea_cons (ev_var rfl) ea_nil) (spv_li ov5)))) (by rw [hsq]; rfl)) fun z => nomatch z) rfl) (fun _ H6 e6 => ?_) fun z => nomatch z
        refine s_ret (ev_is ev_c ?_) fun H7 e7 => k H7 ((e5.trans e6).trans e7)
        rw [← hfit]
        have : part.fitS ar pr sc2 = false := by
          cases part with
          | lst _ => cases hsq
          | tup _ => cases hsq
          | _ => rw [O.fitS]
        rw [this, Bool.and_false]
      | true =>
        obtain ⟨b, ys, rfl⟩ := O.seq_of hsq
        obtain ⟨a, vs, rfl, ha, hvs⟩ := hov.seq
        have hsq5 : SqB H5 b a vs := e5 _ _ ha
        rw [seq_fitS] at hfit
        obtain ⟨q1, q2, q3⟩ := hq
        rw [seq_ss] at q1
        rw [seq_hok, Bool.and_eq_true] at q2
        rw [O.seq_sz] at q3 hsum
        match ys, hvs, hfit, q1, q2, q3, hsum with
        | [], hvs, hfit, _, _, _, _ =>
          obtain rfl : vs = [] := hvs
          refine q_when (b := true) (et_is (et_or (a := false) (b := true) (et_is (et_not (et_B (ev_call (ea_cons (ev_var rfl) ea_nil) (spv_li ov5)))) (by rw [hsq]; rfl)) fun _ => et_is (et_len5 0 rfl hsq5) rfl) rfl) (fun _ H6 e6 => ?_) fun z => nomatch z
          refine s_ret (ev_is ev_c ?_) fun H7 e7 => k H7 ((e5.trans e6).trans e7)
          rw [← hfit, fitSL, Bool.and_false]
        | h :: as, ⟨u, vs', e0', hu, has⟩, hfit, q1, q2, q3, hsum =>
          subst e0'
          have hal := has.length
          have hvl : (u :: vs').length = as.length + 1 := by rw [List.length_cons, hal]
          have hszc : O.szs (h :: as) = h.sz + O.szs as := rfl
          have hhp := h.sz_pos
          obtain ⟨hss1, hss2⟩ := Bool.and_eq_true_iff.mp (show (h.ss && O.sss as) = true from q1)
          obtain ⟨qh, qhs⟩ := q2
          obtain ⟨_, qhs2⟩ := Bool.and_eq_true_iff.mp (show (h.hok && O.hoks as) = true from qhs)
          have q3 : O.szs (h :: as) + 1 + sc2.length ≤ 8000 := q3
          have fin : ∀ (G : Hp) (vn : List V) (new : List (O × List Str)) (o5 o6 : Option V), Ex H G → G p = some (.lst (us ++ vn)) → PrVs H G (us ++ vn) (ws' ++ new) → (∀ q ∈ new, QOk q) → szQ new < O.szs (h :: as) + 1 → fitQ ar pr new = fitSL ar pr (h :: as) sc2 →
              ∃ m', m' < m ∧ ∃ xs ws o5' o6', [some v, some (.ref fd), some (.ref pd), some (.ref sd), some (.ref p), o5, o6] = [some v, some (.ref fd), some (.ref pd), some (.ref sd), some (.ref p), o5', o6'] ∧ WSf H G p ar pr (o.fitS ar pr sc) m' xs ws := fun G vn new o5 o6 eG hG pG kG sG fG => by
            have hz1 := szQ_app ws' new
            refine ⟨szQ (ws' ++ new), by omega, us ++ vn, ws' ++ new, _, _, rfl, ⟨eG, hG, pG, rfl, fun q hq => ?_, by omega, by rw [fitQ_app, fG]; exact hfit⟩⟩
            rcases List.mem_append.mp hq with hq | hq
            · exact W.ok q (List.mem_append_left _ hq)
            · exact kG q hq
          refine q_when (b := false) (et_is (et_or (a := false) (b := false) (et_is (et_not (et_B (ev_call (ea_cons (ev_var rfl) ea_nil) (spv_li ov5)))) (by rw [hsq]; rfl)) fun _ => et_is (et_len5 0 rfl hsq5) (decide_eq_false (by rw [hvl]; omega))) rfl) (fun z => nomatch z) fun _ H6 e6 => ?_
          have s6 := hsq5.ext e6
          have e56 := e5.trans e6
          have hlb : us.length < 90000 := by omega
          refine s_if (et_and (et_test (ev_op (ev_at5 (k := 0) rfl s6 rfl) ev_c (rv_hdEq (hu.ext e56) qh sh_not))) fun _ => et_len5 2 rfl s6) (fun c1 H7 e7 => ?_) fun c1 H7 e7 => ?_
          · obtain ⟨c1a, c1b⟩ := Bool.and_eq_true_iff.mp c1
            have c1b := of_decide_eq_true c1b
            rw [hvl] at c1b
            · obtain ⟨x, rfl⟩ := as1 c1b
              obtain ⟨ux, rfl, hx⟩ := has.one
              have e67 := e6.trans e7
              have hx1 : O.szs [x] = x.sz := by simp [O.szs]
              refine s_appU (e67 _ _ h5p) (ev_var rfl) (eu_pr5 (k := 1) rfl rfl (s6.ext e7) rfl) (by omega) fun r H8 nr e8 hr8 => ?_
              have e68 := e67.trans e8
              have tx8 : Tx H8 (upd H8 p (.lst (us ++ [.ref r]))) := Tx.lst (e68 _ _ h5p)
              refine fin _ [.ref r] [(x, sc2)] _ _ (Ex.mut (e5.trans e68) hp0) upd_same (PrVs.append (pv5.tx ((Tx.of e68).trans tx8)) ⟨⟨r, sd2, ux, rfl, tx8 _ _ hr8, hx, tx8 _ _ (e68 _ _ hsd5)⟩, trivial⟩) (fun q hq => ?_) (by rw [szQ_one]; show x.sz < _; omega) (by rw [fitQ_one, fs_not c1a])
              obtain rfl : q = (x, sc2) := by simpa using hq
              exact ⟨(Bool.and_eq_true_iff.mp hss2).1, (Bool.and_eq_true_iff.mp qhs2).1, by show x.sz + sc2.length ≤ 8000; omega⟩
          have s7 := s6.ext e7
          have e57 := e56.trans e7
          refine s_if (et_and (et_test (ev_op (ev_at5 (k := 0) rfl s7 rfl) ev_c (rv_hdIn (hu.ext e57) qh B.jn sh_jn))) fun _ => et_len5 3 rfl s7) (fun c2 H8 e8 => ?_) fun c2 H8 e8 => ?_
          · obtain ⟨c2a, c2b⟩ := Bool.and_eq_true_iff.mp c2
            have c2b := of_decide_eq_true c2b
            rw [hvl] at c2b
            · obtain ⟨x, y, rfl⟩ := as2 c2b
              obtain ⟨ux, uy, rfl, hx, hy⟩ := has.two
              have e68 := (e6.trans e7).trans e8
              have hx1 : O.szs [x, y] = x.sz + y.sz := by simp [O.szs]
              refine s_extPr (e68 _ _ h5p) (ev_var rfl) (eu_pr5 (k := 1) rfl rfl (s7.ext e8) rfl) (eu_pr5 (k := 2) rfl rfl (s7.ext e8) rfl) (by omega) fun r1 r2 H9 e9 hr1 hr2 => ?_
              have e69 := e68.trans e9
              have tx8 : Tx H9 (upd H9 p (.lst (us ++ [.ref r1, .ref r2]))) := Tx.lst (e69 _ _ h5p)
              obtain ⟨ss1, ss2⟩ := Bool.and_eq_true_iff.mp (show (x.ss && (y.ss && true)) = true from hss2)
              obtain ⟨hk1, hk2⟩ := Bool.and_eq_true_iff.mp (show (x.hok && (y.hok && true)) = true from qhs2)
              rw [Bool.and_true] at ss2 hk2
              refine fin _ [.ref r1, .ref r2] [(x, sc2), (y, sc2)] _ _ (Ex.mut (e5.trans e69) hp0) upd_same (PrVs.append (pv5.tx ((Tx.of e69).trans tx8)) ⟨⟨r1, sd2, ux, rfl, tx8 _ _ hr1, hx, tx8 _ _ (e69 _ _ hsd5)⟩, ⟨r2, sd2, uy, rfl, tx8 _ _ hr2, hy, tx8 _ _ (e69 _ _ hsd5)⟩, trivial⟩) (fun q hq => ?_) (by rw [szQ_two]; show x.sz + y.sz < _; omega) (by rw [fitQ_two, fs_join c2a])
              rcases List.mem_cons.mp hq with rfl | hq
              · exact ⟨ss1, hk1, by show x.sz + sc2.length ≤ 8000; omega⟩
              · obtain rfl : q = (y, sc2) := by simpa using hq
                exact ⟨ss2, hk2, by show y.sz + sc2.length ≤ 8000; omega⟩
          have s8 := s7.ext e8
          have e58 := e57.trans e8
          have e68 := (e6.trans e7).trans e8
          have hvar : ∀ (w : V) (x : O) {G : Hp} {σ : L2.St}, (u :: vs')[1]? = some w → OV G w x → SqB G b a (u :: vs') → x.ss = true → σ[5]? = some (some (.ref a)) → EvT (tB (tCall (spBs O.varO) [] E0 (tCons (tAt5 K 1) tNil))) σ G x.varO := fun w x G σ hw hx hs hss h5 => et_B (ev_call (ea_cons (ev_at5 (k := 1) h5 hs hw) ea_nil) (spv_bs hx hss))
          refine s_if (b := h.isIn ["all", "some"] && (decide ((h :: as).length = 3) && (as.headD .non).varO)) (et_and (et_test (ev_op (ev_at5 (k := 0) rfl s8 rfl) ev_c (rv_hdIn (hu.ext e58) qh B.bnd sh_bn))) fun _ => et_and (et_is (et_len5 3 rfl s8) (by rw [hvl]; rfl)) fun c3 => ?_) (fun c3 H9 e9 => ?_) fun c3 H9 e9 => ?_
          · have c3 := of_decide_eq_true c3
            · obtain ⟨x, y, rfl⟩ := as2 (by rw [← c3]; rfl)
              obtain ⟨ux, uy, rfl, hx, hy⟩ := has.two
              exact hvar ux x rfl (hx.ext e58) s8 (Bool.and_eq_true_iff.mp hss2).1 rfl
          · obtain ⟨c3a, c3b⟩ := Bool.and_eq_true_iff.mp c3
            obtain ⟨c3b, c3c⟩ := Bool.and_eq_true_iff.mp c3b
            have c3b := of_decide_eq_true c3b
            · obtain ⟨x, y, rfl⟩ := as2 (by rw [← c3b]; rfl)
              obtain ⟨ux, uy, rfl, hx, hy⟩ := has.two
              have hj : h.isIn ["and", "or", "then", "iff"] = false := by
                rw [Bool.and_eq_false_iff] at c2
                rcases c2 with c2 | c2
                · exact c2
                · exact absurd hvl (of_decide_eq_false c2)
              obtain ⟨s1, rfl⟩ : ∃ s1, x = .str s1 := by
                cases x with
                | str s1 => exact ⟨s1, rfl⟩
                | _ => cases c3c
              obtain rfl : ux = .str s1 := hx
              have e69 := e68.trans e9
              have hx1 : O.szs [.str s1, y] = 1 + y.sz := by simp [O.szs, O.sz]
              have s9 := s8.ext e9
              have h5p9 := e69 _ _ h5p
              have hs9 : H9 sd2 = some (.tup (sVs sc2)) := e69 _ _ hsd5
              obtain ⟨ss1, ss2⟩ := Bool.and_eq_true_iff.mp (show ((O.str s1).ss && (y.ss && true)) = true from hss2)
              obtain ⟨hk1, hk2⟩ := Bool.and_eq_true_iff.mp (show ((O.str s1).hok && (y.hok && true)) = true from qhs2)
              rw [Bool.and_true] at ss2 hk2
              refine s_appBind h5p9 (ev_var rfl) (ev_at5 (k := 2) rfl s9 rfl) (ea_cons (ev_var rfl) (ea_cons (ev_var rfl) ea_nil)) s9 rfl hs9 (by omega) (by omega) fun t2 r J eJ htT hrT => ?_
              have e6T := e69.trans eJ
              have hpT := e6T _ _ h5p
              have tx8 : Tx J (upd J p (.lst (us ++ [.ref t2]))) := Tx.lst hpT
              refine fin _ [.ref t2] [(y, sc2 ++ [s1])] _ _ (Ex.mut (e5.trans e6T) hp0) upd_same (PrVs.append (pv5.tx ((Tx.of e6T).trans tx8)) ⟨⟨t2, r, uy, rfl, tx8 _ _ htT, hy, tx8 _ _ hrT⟩, trivial⟩) (fun q hq => ?_) (by rw [szQ_one]; show y.sz < _; omega) (by rw [fitQ_one, fs_bind (x := .str s1) (y := y) hj c3a c3c]; rfl)
              obtain rfl : q = (y, sc2 ++ [s1]) := by simpa using hq
              exact ⟨ss2, hk2, by show y.sz + (sc2 ++ [s1]).length ≤ 8000; rw [List.length_append, List.length_singleton]; omega⟩
          · have s9 := s8.ext e9
            have e59 := e58.trans e9
            have e69 := e68.trans e9
            have fs : fitSL ar pr (h :: as) sc2 = atomL ar pr (h :: as) sc2 := fs_atom (by rw [← c1, hvl]; rfl) (by rw [← c2, hvl]; rfl) c3
            refine s_when (b := !(O.seq b (h :: as)).fitAD ar pr sc2) (et_not (et_B (ev_call (ea_cons (ev_var rfl) (ea_cons (ev_var rfl) (ea_cons (ev_var rfl) (ea_cons (ev_var rfl) ea_nil)))) fun G eG Q' q' E' => ⟨_, O.seq b (h :: as), fd, pd, sd2, ar, pr, sc2, rfl, har.ext (e59.trans eG), hpr.ext (e59.trans eG), eG _ _ (e69 _ _ hsd5), hov.ext (e59.trans eG), by rw [seq_ss]; exact q1, by rw [O.seq_sz]; omega, by rw [seq_e3]; exact hd_e3 qh, q'⟩))) (fun c4 H10 e10 => ?_) fun c4 H10 e10 => ?_
            · have c4 : (O.seq b (h :: as)).fitAD ar pr sc2 = false := by simpa using c4
              refine s_ret (ev_is ev_c ?_) fun G eG => k G ((e59.trans e10).trans eG)
              rw [← hfit, fs, ← atomL_seq b, c4, Bool.and_false]
            · have c4 : (O.seq b (h :: as)).fitAD ar pr sc2 = true := by simpa using c4
              have e610 := e69.trans e10
              refine fin _ [] [] _ _ (e5.trans (e610)) (by rw [List.append_nil]; exact e610 _ _ h5p) (by rw [List.append_nil, List.append_nil]; exact pv5.tx (Tx.of e610)) (fun q hq => absurd hq (by simp)) (by show 0 < _; omega) (by rw [fs, ← atomL_seq b, c4]; rfl)
    · have hx : xs = [] := by
        cases xs with
        | nil => rfl
        | cons _ _ => cases hb
      have hw := W.pv.length
      rw [hx] at hw
      have hw := List.length_eq_zero_iff.mp hw.symm
      have hf := W.fit
      rw [hw] at hf
      refine s_ret (ev_is ev_c ?_) fun H4 e4 => k H4 ((W.ex.trans e3).trans e4)
      rw [← hf]
      rfl
  · refine ⟨_, rfl, _, rfl, by show 2 ≤ sizeLine; decide, fun t ht => ⟨by show 1 ≤ sizeLine; decide, fun p hp => ?_⟩⟩
    have e0 : Ex H (upd H t (.tup [v, .ref sd])) := Ex.new ht
    have e1 : Ex (upd H t (.tup [v, .ref sd])) (upd (upd H t (.tup [v, .ref sd])) p (.lst [.ref t])) := Ex.new hp
    have hp0 : H p = none := fresh_back e0 hp
    unfold gName
    dsimp only
    refine q_while (fun m σ' H' => m = 0 ∧ σ' = [some v, some (.ref fd), some (.ref pd), some (.ref sd), some (.ref p), none, none] ∧ Ex H H' ∧ H' p = some (.lst [.ref t]) ∧ H' t = some (.tup [v, .ref sd])) 0 ⟨rfl, rfl, e0.trans e1, upd_same, e1 _ _ upd_same⟩ ?_
    rintro m σ' H' ⟨rfl, rfl, eH, hpl, htl⟩
    refine ⟨true, et_truL (ev_var rfl) (SqL.of hpl), fun hb H3 e3 => ⟨fun _ _ => False, fun _ _ z => z.elim, ?_⟩, fun z => nomatch z⟩
    refine q_popPr (xs := []) (e3 _ _ hpl) (e3 _ _ htl) (ev_var rfl) fun H4 e4 => ?_
    have e5 : Ex H (upd H4 p (.lst [])) := Ex.mut ((eH.trans e3).trans e4) hp0
    refine q_when (b := true) (et_is (et_or (a := true) (b := true) (et_is (et_not (et_B (ev_call (ea_cons (ev_var rfl) ea_nil) (spv_liI (hC.ext e5))))) rfl) fun z => nomatch z) rfl) (fun _ H6 e6 => ?_) fun z => nomatch z
    exact s_ret ev_c fun H7 e7 => k H7 ((e5.trans e6).trans e7)
end
end K02

set_option Elab.async false
set_option linter.all false
set_option maxRecDepth 100000
set_option maxHeartbeats 4000000
/-! bad_pair: its walk, whatever is asked of the second thing. -/
namespace K02
open PySem PySem.Spec PyProof.Rows L2 Evl
def O.h0 (o : O) : O := o.items.getD 0 .non
def O.h1 (o : O) : O := o.items.getD 1 .non
/-- a row that is wrong where these names stood -/
def rowX (f : O → Bool) (stood : List Str) (x : O) : Bool := !x.isPair || (!x.h0.nameO || (stood.contains x.h0.txt || !f x.h1))
def badRow (f : O → Bool) : List Str → Nat → List O → Option Nat
  | _, _, [] => none
  | st, i, x :: xs => if rowX f st x then some i else badRow f (st ++ [x.h0.txt]) (i + 1) xs
theorem badRow_cons {f : O → Bool} {st : List Str} {i : Nat} {x : O} {xs : List O} : badRow f st i (x :: xs) = if rowX f st x then some i else badRow f (st ++ [x.h0.txt]) (i + 1) xs := rfl
def badR (f : O → Bool) (bs : List Str) (o : O) : Option Nat := if o.isSeq = true then badRow f bs 0 o.items else some 0
def natV : Option Nat → V
  | some i => .int (i : Nat) | none => .non
theorem O.pair_of {o : O} (h : o.isPair = true) : ∃ b x y, o = O.seq b [x, y] := by
  unfold O.isPair at h
  obtain ⟨h1, h2⟩ := Bool.and_eq_true_iff.mp h
  have h2 := of_decide_eq_true h2
  cases o with
  | lst xs =>
    match xs, h2 with
    | [x, y], _ => exact ⟨true, x, y, rfl⟩
  | tup xs =>
    match xs, h2 with
    | [x, y], _ => exact ⟨false, x, y, rfl⟩
  | _ => cases h1
theorem sss_mem : ∀ {zs : List O}, O.sss zs = true → ∀ z ∈ zs, z.ss = true
  | [], _, _, hz => by cases hz
  | a :: r, h, z, hz => by
    obtain ⟨h1, h2⟩ := Bool.and_eq_true_iff.mp (show (a.ss && O.sss r) = true from h)
    rcases List.mem_cons.mp hz with rfl | hz
    · exact h1
    · exact sss_mem h2 z hz
section
variable {K : PySem.W.Frag} {σ : L2.St} {H G : Hp} {te ta tb tl : TE} {v : V} {D : Ends} {tu tz : TS}
theorem q_forEnumQ {b : Bool} {a : Addr} {xs : List V} {j1 j2 : Nat} (h : Ev tl σ H (.ref a)) (hx : SqB H b a xs) (Pv : Nat → L2.St → Hp → Prop) (h0 : ∀ H1, Ex H H1 → Pv 0 σ H1) (hl : ∀ i σ' H', i ≤ xs.length → Pv i σ' H' → SqB H' b a xs)
    (hs : ∀ (i : Nat) x σ' H' H2, xs[i]? = some x → Pv i σ' H' → Ex H' H2 → tu { D with nx := Pv (i + 1), ct := Pv (i + 1), bk := tz D } ((σ'.set j1 (some (.int i))).set j2 (some x)) H2) (hd : ∀ σ' H', Pv xs.length σ' H' → tz D σ' H') : tSeq (tFor (iEnQ K (tCons tl tNil)) (gPair K j1 j2) tu) tz D σ H := by
  cases b with
  | true => exact .inl (s_forEnum (D := { D with nx := tz D }) h (sq_of hx) Pv h0 (fun i σ' H' hi p => sq_of (hl i σ' H' hi p)) hs hd)
  | false => exact .inr (h H (Ex.refl H) _ fun H1 e => ⟨a, xs, rfl, ex_t e (st_of hx), for_it walk_enumT Pv (h0 H1 e) (fun i σ' H' hi p => st_of (hl i σ' H' hi p)) (fun i v σ' H' H2 hi p y => by
    obtain ⟨T, x, z, rfl, hT, rfl, e1, e2⟩ := y
    cases e1
    exact ⟨T, _, rfl, SqT.of upd_same, rfl, _, _, rfl, _, _, rfl, rfl, hs i z σ' H' _ e2 p (Ex.new hT)⟩) hd⟩)
end
abbrev nBad : List Str := ["things", "barred", "is_right", "stood", "index", "thing"]
theorem sc_bad : FnScope nBad ["things", "barred", "is_right"] (defScope s_bad_pair) := ⟨rfl, rfl, rfl, by decide +kernel, rfl, by decide +kernel, by decide +kernel⟩
abbrev tIt5 (K : PySem.W.Frag) (k : Int) : TE := tOp (rIxQ K) (tVar 5) (tC (.int k))
abbrev tBadB (K : PySem.W.Frag) (tc : TE) : TS :=
  tSeq (tIfS (tNot (tB (tCall (spLi K) [] E0 (tCons (tVar 0) tNil)))) (tRet (tC (.int 0))) tNext)
  (tSeq (tAsg (tCB (rListS K) (tCons (tVar 1) tNil)) (gName 3))
  (tSeq (tFor (iEnQ K (tCons (tVar 0) tNil)) (gPair K 4 5)
    (tSeq (tIfS (tOr (tNot (tB (tCall (spB O.isPair) [] E0 (tCons (tVar 5) tNil)))) (tOr (tNot (tB (tCall (spBs O.nameO) [] E0 (tCons (tIt5 K 0) tNil)))) (tOr (tTest (tOp (rIn K false) (tIt5 K 0) (tVar 3))) (tNot (tB tc))))) (tRet (tVar 4)) tNext)
      (tDrop (tBM K "list" rAppend (tVar 3) (tCons (tIt5 K 0) tNil)))))
  (tRet (tC .non))))
section
variable {P : Program} {w : World} {K : PySem.W.Frag} {mg : Str → Option Value} {base : Heap} {f : Addr} {cdv : Value} {A : Around} {outer : List Env} {s : Shared} {H : Hp} {E : XK}
theorem bad_tree {tc : TE} (T : T02 P w K mg base) (hr : Room 3 (cxOf CX0 P w K mg base nBad "bad_pair" (defScope s_bad_pair) f cdv A outer s H E).nox.A) (hc : ∀ p1 p2 p3 p4 p5 : Pos, PE (cxOf CX0 P w K mg base nBad "bad_pair" (defScope s_bad_pair) f cdv A outer s H E).nox (.Call (.Name "is_right" p1) [.Subscript (.Name "thing" p2) (.Constant (.int 1) 0 p3) p4] [] p5) tc) :
    PSs (cxOf CX0 P w K mg base nBad "bad_pair" (defScope s_bad_pair) f cdv A outer s H E).nox (defBody s_bad_pair) (tBadB K tc) := by
  obtain ⟨fL, dL, GL, bL, kL, mL⟩ := (ok_is_list_x T).ex
  obtain ⟨fP, dP, GP, bP, kP, mP⟩ := (ok_is_pair T).ex
  obtain ⟨fN, dN, GN, bN, kN, mN⟩ := (ok_is_name_o T).ex
  exact pss_cons (ps_if (pt_not (pt_val (pe_call GL (hr.mono (by decide)) (by rfl) mL kL bL .nil pass0 (pa_cons (pv 0) pa_nil)))) (pss_one (ps_ret pe_int)) pss_nil)
      (pss_cons (ps_set (i := 3) sc_bad.nd rfl (Or.inl rfl) (pe_callTy call_list_of (by rfl) T.list PyProof.Rows.boot_list (pa_cons (pv 1) pa_nil)))
      (pss_cons (ps_for PassesOwn.never rfl (pi_or (pi_enum (by rfl) T.enumerate (pa_cons (pv 0) pa_nil)) (pi_enumT (by rfl) T.enumerate (pa_cons (pv 0) pa_nil))) (pg_tup rfl (pgs_cons (pg_name (i := 4) sc_bad.nd rfl (Or.inl rfl)) (pgs_cons (pg_name (i := 5) sc_bad.nd rfl (Or.inl rfl)) pgs_nil)))
        (pss_cons (ps_if (PW.pt (pw_or (pt_not (pt_val (pe_call GP (hr.mono (by decide)) (by rfl) mP kP bP .nil pass0 (pa_cons (pv 5) pa_nil))))
          (pw_or (pt_not (pt_val (pe_call GN (hr.mono (by decide)) (by rfl) mN kN bN .nil pass0 (pa_cons (pe_ix ix_seq (pv 5) pe_int (fun _ _ => rfl)) pa_nil))))
          (pw_or (pt_cmpR op_in_seq (pe_ix ix_seq (pv 5) pe_int (fun _ _ => rfl)) (pv 3) (by rfl))
          (pw_or1 (pt_not (pt_val (hc _ _ _ _ _)))))))) (pss_one (ps_ret (pv 4))) pss_nil)
        (pss_one (ps_expr (pe_bm PySem.F.plainAttrs_list PySem.F.slot_list_append PySem.F.type_list_append mt_append (pv 3) (pa_cons (pe_ix ix_seq (pv 5) pe_int (fun _ _ => rfl)) pa_nil))))))
      (pss_one (ps_ret pe_non))))
end
section
variable {K : PySem.W.Frag} {H : Hp} {Q : VK}
/-- no list at all -/
theorem bad_ins {tc : TE} {v : V} {C bb fw : Addr} (hv : Ins K H v C) (k : RetV (.int 0) H Q) :
    tBadB K tc { nx := fun _ H' => Q .non H', rt := Q } (L2.start nBad [v, .ref bb, .ref fw]) H := by
  refine q_when (b := true) (et_is (et_not (et_B (ev_call (ea_cons (ev_var rfl) ea_nil) (spv_liI hv)))) rfl) (fun _ H1 e1 => ?_) fun z => nomatch z
  exact s_ret ev_c fun H2 e2 => k H2 (e1.trans e2)
theorem bad_walk {tc : TE} {g : O → Bool} {v : V} {o : O} {bb fw : Addr} {bs : List Str} (ho : OV H v o) (hss : O.sss o.items = true) (hlen : o.items.length ≤ 1000) (hbl : bs.length ≤ 1000) (hb : H bb = some (.lst (sVs bs)))
    (hc : ∀ x ∈ o.items, x.isPair = true → ∀ (b2 : Bool) (a2 p : Addr) (i : Nat) (v1 v2 : V) (G : Hp), Ex H G → SqB G b2 a2 [v1, v2] → OV G v2 x.h1 → Ev tc [some v, some (.ref bb), some (.ref fw), some (.ref p), some (.int (i : Nat)), some (.ref a2)] G (.bl (g x.h1)))
    (k : RetV (natV (badR g bs o)) H Q) : tBadB K tc { nx := fun _ H' => Q .non H', rt := Q } (L2.start nBad [v, .ref bb, .ref fw]) H := by
  cases hq : o.isSeq with
  | false =>
    refine q_when (b := true) (et_is (et_not (et_B (ev_call (ea_cons (ev_var rfl) ea_nil) (spv_li ho)))) (by rw [hq]; rfl)) (fun _ H1 e1 => ?_) fun z => nomatch z
    refine s_ret (ev_is ev_c ?_) fun H2 e2 => k H2 (e1.trans e2)
    unfold badR
    rw [hq]
    rfl
  | true =>
    obtain ⟨b, xs, rfl⟩ := O.seq_of hq
    obtain ⟨a, us, rfl, ha, hov⟩ := ho.seq
    have hsq : SqB H b a us := ha
    have hbad : badR g bs (O.seq b xs) = badRow g bs 0 xs := by
      unfold badR
      rw [hq, if_pos rfl, O.items_seq]
    rw [hbad] at k
    rw [O.items_seq] at hss hlen hc
    refine q_when (b := false) (et_is (et_not (et_B (ev_call (ea_cons (ev_var rfl) ea_nil) (spv_li ho)))) (by rw [hq]; rfl)) (fun z => nomatch z) fun _ H1 e1 => ?_
    refine q_asgL (el_list (ev_var rfl) (sq_of (e1 _ _ hb))) fun p H2 hp e2 h2 => ?_
    have hp0 : H p = none := fresh_back e1 hp
    refine q_forEnumQ (xs := us) (ev_var rfl) (hsq.ext (e1.trans e2)) (fun i σ' H' => ∃ (u v : Option V) (st : List Str), σ' = [some (.ref a), some (.ref bb), some (.ref fw), some (.ref p), u, v] ∧ Ex H H' ∧ H' p = some (.lst (sVs st)) ∧ st.length = i + bs.length ∧ badRow g st i (xs.drop i) = badRow g bs 0 xs) ?_ ?_ ?_ ?_
    · intro H3 e3
      exact ⟨none, none, bs, rfl, (e1.trans e2).trans e3, e3 _ _ h2, (Nat.zero_add _).symm, rfl⟩
    · rintro i σ' H' hi ⟨u, v, st, rfl, e, _⟩
      exact hsq.ext e
    · rintro i y σ' H' H3 hy ⟨u, v, st, rfl, e, hp3, hst, hbr⟩ e3
      obtain ⟨x, hx, hov⟩ := hov.get hy
      have hov := hov.ext (e.trans e3)
      have hil := (List.getElem?_eq_some_iff.mp hx).1
      have hdrop : xs.drop i = x :: xs.drop (i + 1) := by
        rw [List.drop_eq_getElem_cons hil]
        congr 1
        exact (List.getElem?_eq_some_iff.mp hx).2
      rw [hdrop, badRow_cons] at hbr
      have hxm := List.mem_of_getElem? hx
      have hxs : x.ss = true := sss_mem hss x hxm
      have hp4 := e3 _ _ hp3
      have parts : x.isPair = true → ∃ b2 a2 v1 v2, y = .ref a2 ∧ SqB H3 b2 a2 [v1, v2] ∧ OV H3 v1 x.h0 ∧ OV H3 v2 x.h1 ∧ x.h0.ss = true := fun hpr => by
        obtain ⟨b2, x1, x2, rfl⟩ := O.pair_of hpr
        obtain ⟨a2, ws, rfl, h2, v1, ws1, rfl, o1, v2, ws2, rfl, o2, h0⟩ := hov.seq
        obtain rfl : ws2 = [] := h0
        have e0 : (O.seq b2 [x1, x2]).h0 = x1 := by unfold O.h0; rw [O.items_seq]; rfl
        have e1 : (O.seq b2 [x1, x2]).h1 = x2 := by unfold O.h1; rw [O.items_seq]; rfl
        rw [e0, e1]
        rw [seq_ss] at hxs
        exact ⟨b2, a2, v1, v2, rfl, h2, o1, o2, (Bool.and_eq_true_iff.mp hxs).1⟩
      refine q_when (b := rowX g st x) (et_or (et_not (et_B (ev_call (ea_cons (ev_var rfl) ea_nil) (spv_B hov)))) fun hpr => ?_) (fun hbx H4 e4 => ?_) fun hbx H4 e4 => ?_
      · have hpr1 : x.isPair = true := by simpa using hpr
        obtain ⟨b2, a2, v1, v2, rfl, h2, o1, o2, s1⟩ := parts hpr1
        have ix0 : Ev (tIt5 K 0) [some (.ref a), some (.ref bb), some (.ref fw), some (.ref p), some (.int (i : Nat)), some (.ref a2)] H3 v1 := ev_op (ev_var rfl) ev_c (rv_ixQ h2 (atI_nat (j := 0) rfl))
        refine et_or (et_not (et_B (ev_call (ea_cons ix0 ea_nil) (spv_bs o1 s1)))) fun hnm => ?_
        obtain ⟨s, h0⟩ : ∃ s, x.h0 = .str s := by
          cases h0 : x.h0 with
          | str s => exact ⟨s, rfl⟩
          | _ => rw [h0] at hnm; cases hnm
        rw [h0] at o1
        obtain rfl : v1 = .str s := o1
        refine et_or (et_is (et_test (ev_op ix0 (ev_var rfl) (rv_isL (sq_of hp4) rfl (sVs_flat _)))) ?_) fun _ => et_not (et_B (hc x hxm hpr1 b2 a2 p i _ v2 H3 (e.trans e3) h2 o2))
        rw [sVs_in, h0]
        rfl
      · rw [if_pos hbx] at hbr
        rw [← hbr] at k
        exact s_ret (ev_var rfl) fun H5 e5 => k H5 (((e.trans e3).trans e4).trans e5)
      · rw [if_neg (by rw [hbx]; decide)] at hbr
        have hpr : x.isPair = true := by
          unfold rowX at hbx
          cases h : x.isPair with
          | true => rfl
          | false => rw [h] at hbx; cases hbx
        have hnm : x.h0.nameO = true := by
          unfold rowX at hbx
          rw [hpr] at hbx
          cases h : x.h0.nameO with
          | true => rfl
          | false => rw [h] at hbx; cases hbx
        obtain ⟨b2, a2, v1, v2, rfl, h2, o1, o2, s1⟩ := parts hpr
        obtain ⟨s, h0⟩ : ∃ s, x.h0 = .str s := by
          cases h0 : x.h0 with
          | str s => exact ⟨s, rfl⟩
          | _ => rw [h0] at hnm; cases hnm
        rw [h0] at o1
        obtain rfl : v1 = .str s := o1
        refine s_app (e4 _ _ hp4) (ev_var rfl) (ev_op (ev_var rfl) ev_c (rv_ixQ (h2.ext e4) (atI_nat (j := 0) rfl))) (by rw [sVs_len]; omega) fun H5 e5 => ?_
        refine ⟨_, _, st ++ [s], rfl, Ex.mut (((e.trans e3).trans e4).trans e5) hp0, ?_, by rw [List.length_append, hst, List.length_singleton]; omega, ?_⟩
        · rw [upd_same, sVs_append]
          rfl
        · rw [h0] at hbr
          exact hbr
    · rintro σ' H' ⟨u, v, st, rfl, e, _, _, hbr⟩
      rw [hov.length, List.drop_length] at hbr
      have hbr : badRow g bs 0 xs = none := hbr.symm
      rw [hbr] at k
      exact s_ret ev_c fun H4 e4 => k H4 (e.trans e4)
end
end K02

set_option Elab.async false
set_option linter.all false
set_option maxRecDepth 100000
set_option maxHeartbeats 4000000
/-! sorted(pairs) of a text and a whole number, in their order. -/
namespace L2
open PySem PySem.Spec PyProof.Rows
theorem perm_map_back {α β : Type} (f : α → β) : ∀ {l : List β} {xs : List α}, l.Perm (xs.map f) → ∃ ys : List α, ys.Perm xs ∧ ys.map f = l
  | [], xs, h => by
    obtain rfl : xs = [] := List.map_eq_nil_iff.mp (List.perm_nil.mp h.symm)
    exact ⟨[], .nil, rfl⟩
  | b :: l, xs, h => by
    have hb : b ∈ xs.map f := h.mem_iff.mp List.mem_cons_self
    obtain ⟨x, hx, rfl⟩ := List.mem_map.mp hb
    obtain ⟨s, t, rfl⟩ := List.append_of_mem hx
    have h2 : (f x :: l).Perm (f x :: (s ++ t).map f) := h.trans (by simpa using (List.perm_middle (a := f x) (l₁ := s.map f) (l₂ := t.map f)))
    obtain ⟨ys, a1, a2⟩ := perm_map_back f (List.Perm.cons_inv h2)
    exact ⟨x :: ys, (List.Perm.cons x a1).trans List.perm_middle.symm, by rw [List.map_cons, a2]⟩
def sh0 : Nat → Bool := fun i => i == 0
abbrev Tri := Addr × Str × Int
/-- what a pair is sorted by -/
def kSI (r : Str × Int) : List (Int ⊕ List Nat) := [.inr r.1.cps.toList, .inl r.2]
def leSI (r q : Str × Int) : Prop := PyProof.Rows.lexLt PyProof.Rows.itemOrd (kSI q) (kSI r) = false
theorem leSI_anti {r q : Str × Int} (h1 : leSI r q) (h2 : leSI q r) : r = q := by
  have e := PyProof.Rows.lex_total (O := PyProof.Rows.itemOrd) (kSI r) (kSI q) h2 h1
  obtain ⟨s, i⟩ := r
  obtain ⟨t, j⟩ := q
  unfold kSI at e
  simp only [List.cons.injEq, Sum.inr.injEq, Sum.inl.injEq, and_true] at e
  obtain ⟨e1, rfl⟩ := e
  obtain ⟨a⟩ := s
  obtain ⟨b⟩ := t
  have e2 : a = b := Array.ext' e1
  rw [e2]
/-- in one order alone -/
theorem sort_one {xs ys zs : List (Str × Int)} (h1 : ys.Perm xs) (h2 : zs.Perm xs) (s1 : ys.Pairwise leSI) (s2 : zs.Pairwise leSI) : ys = zs :=
  List.Perm.eq_of_pairwise (fun a b _ _ p q => leSI_anti p q) s1 s2 (h1.trans h2.symm)
def rSortTS (K : PySem.W.Frag) : List V → Hp → VK → Prop := fun vs H Q => ∃ (a : Addr) (xs : List Tri), vs = [.ref a] ∧ SqL K H a (xs.map fun x => V.ref x.1) ∧ (∀ x ∈ xs, SqT K H x.1 [.str x.2.1, .int x.2.2]) ∧
  ∀ (ys : List Tri) p, ys.Perm xs → (ys.map (·.2)).Pairwise leSI → H p = none → Q (.ref p) (upd H p (.lst (ys.map fun x => V.ref x.1)))
theorem zip_self {α : Type} : ∀ l : List α, l.zip l = l.map fun v => (v, v)
  | [] => rfl
  | x :: l => by rw [List.zip_cons_cons, zip_self l]; rfl
section
variable {X : Cx}
theorem tri_at {pins : List (Addr × Obj)} {σ : St} {H : Hp} {s : Shared} (I : Inv X pins σ H s) {x : Tri} (h : SqT X.K H x.1 [.str x.2.1, .int x.2.2]) : ∃ o n t u, s.heap.get? x.1 = some o ∧ o.cls = .type "tuple" ∧ o.data = .seq #[.str x.2.1 t, .int x.2.2 u] n := by
  obtain ⟨its, rv, ⟨o, g1, g2, n, g3⟩, _⟩ := I.tuple h
  obtain ⟨u1, u2, rfl, ⟨t, rfl⟩, ⟨u, rfl⟩⟩ := vals2 rv
  exact ⟨o, n, t, u, g1, g2, g3⟩
theorem tris_of {pins : List (Addr × Obj)} {σ : St} {H : Hp} {s : Shared} (I : Inv X pins σ H s) : ∀ {xs : List Tri}, (∀ x ∈ xs, SqT X.K H x.1 [.str x.2.1, .int x.2.2]) → ∃ fs, PyProof.Rows.TupsOf s.heap sh0 (xs.map fun x => Value.ref x.1) fs
  | [], _ => ⟨[], .nil⟩
  | x :: xs, h => by
    obtain ⟨fs, hf⟩ := tris_of I fun y hy => h y (List.mem_cons_of_mem _ hy)
    obtain ⟨o, n, t, u, g1, g2, g3⟩ := tri_at I (h x List.mem_cons_self)
    exact ⟨.str x.2.1 t :: fs, .cons ⟨x.1, o, _, n, rfl, g1, g2, g3, rfl, fun e => absurd e (by decide), fun _ => ⟨_, _, rfl⟩⟩ hf⟩
theorem cr_sortedTS : CallR X (.builtin "sorted") (rSortTS X.K) := by
  intro pins s σ H vs us Q I r h
  obtain ⟨a, xs, rfl, hs, hx, q⟩ := h
  obtain ⟨its, rv, hl, hz⟩ := I.list hs
  obtain ⟨u, rfl, ru⟩ := vals1 r
  obtain rfl : u = Value.ref a := ru
  have ei : its = xs.map fun x => Value.ref x.1 := by
    have e0 : (xs.map fun x => V.ref x.1) = (xs.map (·.1)).map V.ref := by rw [List.map_map]; rfl
    rw [e0] at rv
    rw [refs_at rv, List.map_map]
    rfl
  subst ei
  rw [List.length_map] at hz
  obtain ⟨fs, hf⟩ := tris_of I hx
  have key : ∀ x ∈ xs, G.tupKeyC s.heap sh0 (.ref x.1) = some (kSI x.2) := fun x hx1 => by
    obtain ⟨o, n, t, u, g1, g2, g3⟩ := tri_at I (hx x hx1)
    exact G.tupKeyC_of (l := kSI x.2) g1 g2 g3 rfl
  refine G.sorted_tups (shape := sh0) hl.isList hf (fun v hv => ?_) (by rw [List.length_map]; exact hz) fun st' hp hso _ => ?_
  · obtain ⟨x, hx1, rfl⟩ := List.mem_map.mp hv
    exact ⟨_, key x hx1⟩
  · have e1 := Array.perm_iff_toList_perm.mp hp
    rw [pairsOf_toList, zip_self] at e1
    have hp2 : ((arrOf st').map (·.2)).toList.Perm (xs.map fun x => Value.ref x.1) := by
      have e2 := e1.map (·.2)
      rw [Array.toList_map]
      refine e2.trans ?_
      rw [List.map_map, List.map_map]
      exact .refl _
    obtain ⟨ys, hy, ey⟩ := perm_map_back _ hp2
    obtain ⟨c, hc⟩ := sortedAll_at s.heap (xs.map fun x => Value.ref x.1) ((arrOf st').map (·.2))
    have le : s.heap.objs.size ≤ s.heap.objs.size + 1 := Nat.le_succ _
    have vals : ∀ l : List Tri, Vals (l.map fun x => V.ref x.1) (l.map fun x => Value.ref x.1) := by
      intro l
      induction l with
      | nil => exact .nil
      | cons x l ih => exact .cons rfl ih
    have hsz : (arrOf st').toList.length = ys.length := by
      have h0 := congrArg List.length ey
      rw [List.length_map, Array.toList_map, List.length_map] at h0
      exact h0.symm
    have hps : (pairsOf (xs.map fun x => Value.ref x.1)).size = ys.length := by
      rw [pairsOf_size, List.length_map, hy.length_eq]
    have at_ : ∀ (i : Nat) (x : Tri), ys[i]? = some x → KK (G.tupKindC s.heap sh0) (arrOf st') i = kSI x.2 := fun i x hi => by
      have hm : x ∈ xs := hy.mem_iff.mp (List.mem_of_getElem? hi)
      have h2 : (ys.map fun x => Value.ref x.1)[i]? = some (Value.ref x.1) := by rw [List.getElem?_map, hi]; rfl
      rw [ey, Array.toList_map, List.getElem?_map] at h2
      obtain ⟨pr, hpr, e3⟩ := Option.map_eq_some_iff.mp h2
      have hmem := e1.mem_iff.mp (List.mem_of_getElem? hpr)
      obtain ⟨z, _, ez⟩ := List.mem_map.mp hmem
      have e4 : pr.1 = pr.2 := by rw [← ez]
      have e5 : (arrOf st')[i]? = some pr := by rw [← Array.getElem?_toList]; exact hpr
      show KK (G.tupKindC s.heap sh0) (arrOf st') i = _
      unfold KK
      rw [e5]
      show (G.tupKeyC s.heap sh0 pr.1).getD [] = _
      rw [e4, e3, key x hm]
      rfl
    have hsort : (ys.map (·.2)).Pairwise leSI := by
      rw [List.pairwise_iff_getElem]
      intro i j hi hj hij
      have hi' : i < ys.length := by simpa using hi
      have hj' : j < ys.length := by simpa using hj
      have h3 := hso i j (Nat.le_of_lt hij) (by rw [hps]; exact hj')
      rw [at_ i ys[i] (List.getElem?_eq_getElem hi'), at_ j ys[j] (List.getElem?_eq_getElem hj')] at h3
      rw [List.getElem_map, List.getElem_map]
      exact h3
    refine ⟨.ref (s.heap.objs.size + 1), upd H (s.heap.objs.size + 1) (.lst (ys.map fun x => V.ref x.1)), I.laid (t' := s.toks) (fun _ _ => sortedAll_old) le ⟨by rw [List.length_map, hy.length_eq]; exact hz, ys.map (fun x => Value.ref x.1), c, vals ys, ?_⟩, rfl, q ys _ hy hsort (I.hok.fresh le)⟩
    rw [ey]
    exact hc
end
end L2

set_option Elab.async false
set_option linter.all false
set_option maxRecDepth 100000
set_option maxHeartbeats 4000000
/-! Names: what is known of the classes; names made. -/
namespace K02
open PySem PySem.Spec PyProof.Rows L2 Evl
abbrev CN (K : PySem.W.Frag) : Addr := He.ga K "Names"
abbrev CT (K : PySem.W.Frag) : Addr := He.ga K "Theory"
abbrev CP (K : PySem.W.Frag) : Addr := He.ga K "Problem"
structure TN (P : Program) (w : World) (K : PySem.W.Frag) (mg : Str → Option Value) (base : Heap) : Prop extends T02 P w K mg base, TB K mg where
  iO : ∀ x ∈ onms, InsC K (He.ga K x)
  gO : ∀ x ∈ onms, mg x = some (.ref (He.ga K x))
  nF : NoAttr K (CN K) "_functions"
  nP : NoAttr K (CN K) "_predicates"
  nNm : NoAttr K (CT K) "_names"
  nAx : NoAttr K (CT K) "_axioms"
  nTh : NoAttr K (CP K) "_theory"
  nGo : NoAttr K (CP K) "_goal"
  mkN : ∃ f fd, Mk K (CN K) f ∧ FunD K "__init__" "Names.__init__" (defArgs s_Names_init) (defBody s_Names_init) (defScope s_Names_init) [] [] f fd
  mkT : ∃ f fd, Mk K (CT K) f ∧ FunD K "__init__" "Theory.__init__" (defArgs s_Theory_init) (defBody s_Theory_init) (defScope s_Theory_init) [] [] f fd
  mkP : ∃ f fd, Mk K (CP K) f ∧ FunD K "__init__" "Problem.__init__" (defArgs s_Problem_init) (defBody s_Problem_init) (defScope s_Problem_init) [] [] f fd
  mFu : ∃ f fd, Meth K (CN K) "functions" f ∧ FunD K "functions" "Names.functions" (defArgs s_Names_functions) (defBody s_Names_functions) (defScope s_Names_functions) [] [] f fd
  mPr : ∃ f fd, Meth K (CN K) "predicates" f ∧ FunD K "predicates" "Names.predicates" (defArgs s_Names_predicates) (defBody s_Names_predicates) (defScope s_Names_predicates) [] [] f fd
  mNe : ∃ f fd, Meth K (CN K) "__eq__" f ∧ FunD K "__eq__" "Names.__eq__" (defArgs s_Names_eq) (defBody s_Names_eq) (defScope s_Names_eq) [] [] f fd
  mNm : ∃ f fd, Meth K (CT K) "names" f ∧ FunD K "names" "Theory.names" (defArgs s_Theory_names) (defBody s_Theory_names) (defScope s_Theory_names) [] [] f fd
  mAx : ∃ f fd, Meth K (CT K) "axioms" f ∧ FunD K "axioms" "Theory.axioms" (defArgs s_Theory_axioms) (defBody s_Theory_axioms) (defScope s_Theory_axioms) [] [] f fd
  mTe : ∃ f fd, Meth K (CT K) "__eq__" f ∧ FunD K "__eq__" "Theory.__eq__" (defArgs s_Theory_eq) (defBody s_Theory_eq) (defScope s_Theory_eq) [] [] f fd
  mTh : ∃ f fd, Meth K (CP K) "theory" f ∧ FunD K "theory" "Problem.theory" (defArgs s_Problem_theory) (defBody s_Problem_theory) (defScope s_Problem_theory) [] [] f fd
  mGo : ∃ f fd, Meth K (CP K) "goal" f ∧ FunD K "goal" "Problem.goal" (defArgs s_Problem_goal) (defBody s_Problem_goal) (defScope s_Problem_goal) [] [] f fd
  mPe : ∃ f fd, Meth K (CP K) "__eq__" f ∧ FunD K "__eq__" "Problem.__eq__" (defArgs s_Problem_eq) (defBody s_Problem_eq) (defScope s_Problem_eq) [] [] f fd
  ot : ∀ x ∈ onms, ∀ y ∈ onms, x ≠ y → PySem.W.kitOne K (.ref (He.ga K x)) (.ref (He.ga K y)) = some false
  ne : ∀ x ∈ onms, PySem.W.findIn K (.ref (He.ga K x)) "__ne__" = some (some (.builtin "object.__ne__"))
  sub : ∀ x ∈ onms, PySem.W.subIn K (.ref (He.ga K x)) (.type "object") = some true
section
variable {P : Program} {w : World} {K : PySem.W.Frag} {mg : Str → Option Value} {base : Heap}
theorem TN.iN (T : TN P w K mg base) : InsC K (CN K) := T.iO "Names" (by decide)
theorem TN.iT (T : TN P w K mg base) : InsC K (CT K) := T.iO "Theory" (by decide)
theorem TN.iP (T : TN P w K mg base) : InsC K (CP K) := T.iO "Problem" (by decide)
theorem TN.gN (T : TN P w K mg base) : mg "Names" = some (.ref (CN K)) := T.gO "Names" (by decide)
theorem TN.gT (T : TN P w K mg base) : mg "Theory" = some (.ref (CT K)) := T.gO "Theory" (by decide)
theorem TN.gP (T : TN P w K mg base) : mg "Problem" = some (.ref (CP K)) := T.gO "Problem" (by decide)
end
/-! ### pairs as data -/
def prO (r : Str × Nat) : O := .tup [.str r.1, .int (r.2 : Nat)]
def pI (r : Str × Nat) : Str × Int := (r.1, (r.2 : Int))
/-- in their order -/
def Sd (ps : List (Str × Nat)) : Prop := (ps.map pI).Pairwise leSI
theorem prs_noL : ∀ rs : List (Str × Nat), O.hasLs (rs.map prO) = false
  | [] => rfl
  | r :: rs => by show (false || O.hasLs (rs.map prO)) = false; rw [prs_noL rs]; rfl
theorem prs_nod : ∀ rs : List (Str × Nat), O.nods (rs.map prO) = true
  | [] => rfl
  | r :: rs => by show (true && O.nods (rs.map prO)) = true; rw [prs_nod rs]; rfl
/-- names that Names takes -/
structure NsOk (ps qs : List (Str × Nat)) : Prop where
  nm : ∀ r ∈ ps ++ qs, nameB r.1 = true ∧ r.1 ∈ SS ∧ r.2 ≤ 6
  nd : ((ps ++ qs).map (·.1)).Nodup
  l1 : ps.length ≤ 50
  l2 : qs.length ≤ 50
/-- names at o -/
structure NmAt (K : PySem.W.Frag) (H : Hp) (o : Addr) (ar pr : List (Str × Nat)) : Prop where
  ex : ∃ dx df dp fs xs ys, H o = some (.ins (CN K) dx fs) ∧ fs.lookup ("_functions" : Str) = some (.ref df) ∧ fs.lookup ("_predicates" : Str) = some (.ref dp) ∧ fs.lookup ("functions" : Str) = none ∧ fs.lookup ("predicates" : Str) = none ∧
    H df = some (.lst xs) ∧ OVs H xs (ar.map prO) ∧ H dp = some (.lst ys) ∧ OVs H ys (pr.map prO)
theorem NmAt.ext {K : PySem.W.Frag} {H G : Hp} {o : Addr} {ar pr : List (Str × Nat)} (h : NmAt K H o ar pr) (e : Ex H G) : NmAt K G o ar pr := by
  obtain ⟨dx, df, dp, fs, xs, ys, h1, h2, h3, h4, h5, h6, h7, h8, h9⟩ := h.ex
  exact ⟨dx, df, dp, fs, xs, ys, e _ _ h1, h2, h3, h4, h5, e _ _ h6, h7.ext e, e _ _ h8, h9.ext e⟩
theorem NmAt.ins {P : Program} {w : World} {K : PySem.W.Frag} {mg : Str → Option Value} {base : Heap} {H : Hp} {o : Addr} {ar pr : List (Str × Nat)} (h : NmAt K H o ar pr) (T : TN P w K mg base) : Ins K H (.ref o) (CN K) := by
  obtain ⟨dx, df, dp, fs, xs, ys, h1, _⟩ := h.ex
  exact ⟨T.iN, o, dx, fs, rfl, h1⟩
/-! ### rows handed loosely -/
theorem strip_tup {o : O} {xs : List O} (h : o.strip = .tup xs) : ∃ b zs, o = O.seq b zs ∧ O.strips zs = xs := by
  cases o with
  | lst zs => exact ⟨true, zs, rfl, O.tup.inj h⟩
  | tup zs => exact ⟨false, zs, rfl, O.tup.inj h⟩
  | _ => cases h
theorem strips_cons {zs : List O} {x : O} {xs : List O} (h : O.strips zs = x :: xs) : ∃ z zs', zs = z :: zs' ∧ z.strip = x ∧ O.strips zs' = xs := by
  cases zs with
  | nil => cases h
  | cons z zs' =>
    have h : z.strip :: O.strips zs' = x :: xs := h
    exact ⟨z, zs', rfl, (List.cons.inj h).1, (List.cons.inj h).2⟩
theorem strips_nil {zs : List O} (h : O.strips zs = []) : zs = [] := by
  cases zs with
  | nil => rfl
  | cons z zs' => cases h
theorem strip_int {x : O} {i : Int} (h : x.strip = .int i) : x = .int i := by
  cases x with
  | int j => exact h
  | _ => cases h
theorem strip_pr {x : O} {r : Str × Nat} (h : x.strip = prO r) : ∃ b, x = O.seq b [.str r.1, .int (r.2 : Nat)] := by
  obtain ⟨b, zs, rfl, hz⟩ := strip_tup h
  obtain ⟨z1, z2, rfl, h1, h2⟩ := strips_cons hz
  obtain ⟨z3, z4, rfl, h3, h4⟩ := strips_cons h2
  obtain rfl := strips_nil h4
  rw [strip_str h1, strip_int h3]
  exact ⟨b, rfl⟩
theorem pair_h (b : Bool) (x y : O) : (O.seq b [x, y]).h0 = x ∧ (O.seq b [x, y]).h1 = y ∧ (O.seq b [x, y]).isPair = true := by
  cases b <;> exact ⟨rfl, rfl, rfl⟩
/-- pairs in the heap: lists and tuples of a name and places -/
structure PwV (H : Hp) (b : Bool) (a : Addr) (us : List V) (rs : List (Str × Nat)) : Prop where
  sq : SqB H b a us
  len : us.length = rs.length
  at' : ∀ (i : Nat) (y : V), us[i]? = some y → ∃ r, rs[i]? = some r ∧ ∃ b2 a2, y = .ref a2 ∧ SqB H b2 a2 [.str r.1, .int (r.2 : Nat)]
theorem PwV.ext {H G : Hp} {b : Bool} {a : Addr} {us : List V} {rs : List (Str × Nat)} (h : PwV H b a us rs) (e : Ex H G) : PwV G b a us rs :=
  ⟨h.sq.ext e, h.len, fun i y hy => let ⟨r, h1, b2, a2, h2, h3⟩ := h.at' i y hy; ⟨r, h1, b2, a2, h2, h3.ext e⟩⟩
theorem sqb_ins {H : Hp} {b : Bool} {a p C : Addr} {dx : Addr} {fs : List (Str × V)} {us : List V} {o : HO} (h : SqB H b a us) (hp : H p = some (.ins C dx fs)) : SqB (upd H p o) b a us := by
  unfold SqB at h ⊢
  rw [upd_ne (fun z => by rw [z, hp] at h; cases b <;> cases h)]
  exact h
theorem PwV.ins {H : Hp} {b : Bool} {a p C : Addr} {dx : Addr} {fs : List (Str × V)} {us : List V} {rs : List (Str × Nat)} {o : HO} (h : PwV H b a us rs) (hp : H p = some (.ins C dx fs)) : PwV (upd H p o) b a us rs :=
  ⟨sqb_ins h.sq hp, h.len, fun i y hy => let ⟨r, h1, b2, a2, h2, h3⟩ := h.at' i y hy; ⟨r, h1, b2, a2, h2, sqb_ins h3 hp⟩⟩
theorem pwv_of {H : Hp} {v : V} {o : O} {rs : List (Str × Nat)} (h : OV H v o) (e : o.strip = .tup (rs.map prO)) : ∃ b a us, v = .ref a ∧ PwV H b a us rs := by
  obtain ⟨b, zs, rfl, hz⟩ := strip_tup e
  obtain ⟨a, us, rfl, ha, hov⟩ := h.seq
  rw [strips_eq] at hz
  refine ⟨b, a, us, rfl, ha, ?_, fun i y hy => ?_⟩
  · rw [hov.length]
    have := congrArg List.length hz
    simpa using this
  · obtain ⟨x, hx, ho⟩ := hov.get hy
    have hx2 : (zs.map O.strip)[i]? = some x.strip := by rw [List.getElem?_map, hx]; rfl
    rw [hz, List.getElem?_map] at hx2
    obtain ⟨r, hr, hrx⟩ := Option.map_eq_some_iff.mp hx2
    obtain ⟨b2, rfl⟩ := strip_pr hrx.symm
    obtain ⟨a2, ws, rfl, h2, v1, ws1, rfl, o1, v2, ws2, rfl, o2, h0⟩ := ho.seq
    obtain rfl : ws2 = [] := h0
    obtain rfl : v1 = .str r.1 := o1
    obtain rfl : v2 = .int (r.2 : Nat) := o2
    exact ⟨r, hr, b2, a2, rfl, h2⟩
theorem row_good {st : List Str} {x : O} {r : Str × Nat} (h : x.strip = prO r) (h1 : nameB r.1 = true) (h2 : r.1 ∉ st) (h3 : r.2 ≤ 6) : rowX O.isArity st x = false ∧ x.h0.txt = r.1 := by
  obtain ⟨b, rfl⟩ := strip_pr h
  obtain ⟨e0, e1, ep⟩ := pair_h b (.str r.1) (.int (r.2 : Nat))
  refine ⟨?_, by rw [e0]; rfl⟩
  unfold rowX
  rw [ep, e0, e1]
  show (!true || (!nameB r.1 || (st.contains r.1 || !(decide (((r.2 : Nat) : Int) ≥ 0) && decide (((r.2 : Nat) : Int) ≤ 6))))) = false
  rw [h1, decide_eq_true (show ((r.2 : Nat) : Int) ≥ 0 by omega), decide_eq_true (show ((r.2 : Nat) : Int) ≤ 6 by omega)]
  have : st.contains r.1 = false := by
    cases q : st.contains r.1 with
    | false => rfl
    | true => exact absurd (List.contains_iff_mem.mp q) h2
  rw [this]
  rfl
theorem rows_good {o : O} {rs : List (Str × Nat)} {bs : List Str} (hr : ∀ r ∈ rs, nameB r.1 = true ∧ r.2 ≤ 6) (nd : (bs ++ rs.map (·.1)).Nodup) (e : o.strip = .tup (rs.map prO)) : badR O.isArity bs o = none := by
  obtain ⟨b, zs, rfl, hz⟩ := strip_tup e
  have hq : (O.seq b zs).isSeq = true := by cases b <;> rfl
  unfold badR
  rw [hq, if_pos rfl, O.items_seq]
  have key : ∀ (zs : List O) (rs : List (Str × Nat)) (st : List Str) (i : Nat), O.strips zs = rs.map prO → (∀ r ∈ rs, nameB r.1 = true ∧ r.2 ≤ 6) → (st ++ rs.map (·.1)).Nodup → badRow O.isArity st i zs = none := by
    intro zs
    induction zs with
    | nil => intros; rfl
    | cons z zs ih =>
      intro rs st i hz hr nd
      cases rs with
      | nil => cases hz
      | cons r rs =>
        have hz : z.strip :: O.strips zs = prO r :: rs.map prO := hz
        have hz := List.cons.inj hz
        obtain ⟨r1, r2⟩ := hr r (by simp)
        have nin : r.1 ∉ st := fun m => (List.nodup_append.mp nd).2.2 _ m _ (by simp) rfl
        obtain ⟨g1, g2⟩ := row_good hz.1 r1 nin r2
        rw [badRow_cons, g1, if_neg (by decide), g2]
        exact ih rs _ _ hz.2 (fun q hq => hr q (by simp [hq])) (by rw [List.append_assoc]; exact nd)
  exact key zs rs bs 0 hz hr nd
theorem strips_len' {zs : List O} {xs : List O} (h : O.strips zs = xs) : zs.length = xs.length := by
  rw [← h, strips_eq, List.length_map]
mutual
theorem strip_ss : ∀ o : O, o.strip.ss = o.ss
  | .non => rfl | .bl _ => rfl | .int _ => rfl | .str _ => rfl | .dct => rfl | .lst xs => strip_sss xs | .tup xs => strip_sss xs
theorem strip_sss : ∀ os : List O, O.sss (O.strips os) = O.sss os
  | [] => rfl
  | x :: xs => by
    show (x.strip.ss && O.sss (O.strips xs)) = (x.ss && O.sss xs)
    rw [strip_ss x, strip_sss xs]
end
theorem prs_ss : ∀ {rs : List (Str × Nat)}, (∀ r ∈ rs, r.1 ∈ SS) → O.sss (rs.map prO) = true
  | [], _ => rfl
  | r :: rs, h => by
    show ((SS.contains r.1 && (true && true)) && O.sss (rs.map prO)) = true
    rw [List.contains_iff_mem.mpr (h r (by simp)), prs_ss fun q hq => h q (by simp [hq])]
    rfl
theorem rows_ss {o : O} {rs : List (Str × Nat)} (hs : ∀ r ∈ rs, r.1 ∈ SS) (e : o.strip = .tup (rs.map prO)) : O.sss o.items = true ∧ o.items.length = rs.length := by
  obtain ⟨b, zs, rfl, hz⟩ := strip_tup e
  rw [O.items_seq]
  refine ⟨by rw [← strip_sss, hz]; exact prs_ss hs, ?_⟩
  rw [strips_len' hz, List.length_map]
/-! ### bad_pair asked with is_arity -/
section
variable {P : Program} {w : World} {K : PySem.W.Frag} {mg : Str → Option Value} {base : Heap}
def spBadA (mg : Str → Option Value) : Sp := fun vs H Q _ => ∃ (v : V) (o : O) (bb fw : Addr) (bs : List Str), vs = [v, .ref bb, .ref fw] ∧ OV H v o ∧ O.sss o.items = true ∧ o.items.length ≤ 1000 ∧ bs.length ≤ 1000 ∧ mg "is_arity" = some (.ref fw) ∧ H bb = some (.lst (sVs bs)) ∧ RetV (natV (badR O.isArity bs o)) H Q
theorem ok_bad_arity (T : T02 P w K mg base) : Ok P w K mg base CX0 "bad_pair" ["things", "barred", "is_right"] 4 (spBadA mg) := by
  obtain ⟨fW, dW, GW, bW, kW, mW⟩ := (ok_is_arity T).ex
  refine T.ok 8 rfl sc_bad (fun vs H Q E h => by obtain ⟨v, o, bb, fw, bs, rfl, _⟩ := h; rfl) (fun kV doc pm an cdv ct us hl => match us, hl with | [_, _, _], _ => rfl) (fun f cdv A outer s H vs Q E hr h => ?_)
  obtain ⟨v, o, bb, fw, bs, rfl, ho, hss, hlen, hbl, hm, hb, k⟩ := h
  obtain rfl : fw = fW := Value.ref.inj (Option.some.inj (hm.symm.trans mW))
  refine ⟨_, bad_tree (tc := tCallL 2 fw (spB O.isArity) [] E0 (tCons (tIt5 K 1) tNil)) T hr fun p1 p2 p3 p4 p5 => pe_callL (i := 2) GW (hr.mono (by decide)) rfl (Or.inl rfl) kW bW .nil pass0 (pa_cons (pe_ix ix_seq (pv 5) pe_int (fun _ _ => rfl)) pa_nil), ?_⟩
  exact bad_walk ho hss hlen hbl hb (fun x hx hpr b2 a2 p i v1 v2 G e hs o2 => ev_callL rfl (ea_cons (ev_op (ev_var rfl) ev_c (rv_ixQ hs (atI_nat (j := 1) rfl))) ea_nil) (spv_B o2)) k
end
end K02

set_option Elab.async false
set_option linter.all false
set_option maxRecDepth 100000
set_option maxHeartbeats 4000000
/-! Names made. -/
namespace K02
open PySem PySem.Spec PyProof.Rows L2 Evl
section
variable {K : PySem.W.Frag} {σ : L2.St} {H G : Hp} {te tl : TE} {b : Bool} {a : Addr} {us : List V} {ps ar : List (Str × Nat)} {j j1 j2 : Nat} {vs : List Nat}
/-- [x[0] for x in xs] -/
theorem el_names (h : Ev tl σ H (.ref a)) (R : PwV H b a us ps) (hl : ps.length ≤ 1000) (hw : ∀ x, wipe ((wipe σ vs).set j (some x)) vs = wipe σ vs) (hj : ∀ x : V, ((wipe σ vs).set j (some x))[j]? = some (some x)) :
    EvL (tLc (iQ K tl) (gName j) tYes (tOp (rIxQ K) (tVar j) (tC (.int 0))) vs) σ H (sVs (ps.map (·.1))) := by
  have e := el_lcQ (K := K) (te := tOp (rIxQ K) (tVar j) (tC (.int 0))) (tt := tYes) (fun _ => true) (fun i => ((ps[i]?).map fun r => V.str r.1).getD .non) h R.sq (by rw [R.len]; omega) hw (fun i x H1 e1 hx => et_yes) (fun i x H1 e1 hx _ => by
    obtain ⟨r, hr, b2, a2, rfl, h2⟩ := R.at' i x hx
    rw [hr]
    exact ev_op (ev_var (hj _)) ev_c (rv_ixQ (h2.ext e1) (atI_nat (j := 0) rfl)))
  rw [given_map ps (fun r => V.str r.1) us.length R.len] at e
  have e2 : sVs (ps.map (·.1)) = ps.map fun r => V.str r.1 := by unfold sVs; rw [List.map_map]; rfl
  rw [e2]
  exact e
/-- [(x, y) for x, y in xs] -/
theorem elp_pairs (h : Ev tl σ H (.ref a)) (R : PwV H b a us ps) (hl : ps.length ≤ 1000) (hw : ∀ x y, wipe (((wipe σ vs).set j1 (some x)).set j2 (some y)) vs = wipe σ vs) (hj1 : ∀ x y : V, (((wipe σ vs).set j1 (some x)).set j2 (some y))[j1]? = some (some x)) (hj2 : ∀ x y : V, (((wipe σ vs).set j1 (some x)).set j2 (some y))[j2]? = some (some y)) :
    EvLP (tLc (iQ K tl) (gPrQ K j1 j2) tYes (tTup (tCons (tVar j1) (tCons (tVar j2) tNil))) vs) σ H (fun xs G => OVs G xs (ps.map prO)) := fun H1 e1 Q q => by
  have R1 := R.ext e1
  refine iq_it (h.mono e1) R1.sq fun J G0 e0 wk D hD => ?_
  have R0 := R1.ext e0
  have hul : us.length ≤ 1000 := by rw [R.len]; exact hl
  refine lc_it wk (fun i G => Ex G0 G ∧ ∃ acc, G D = some (.lst acc) ∧ acc.length = i ∧ OVs G acc ((ps.take i).map prO)) ⟨Ex.new hD, [], upd_same, rfl, rfl⟩ (fun i G _ q => R0.sq.ext q.1) ?_ ?_
  · rintro i x G G' hi ⟨q1, acc, q2, q3, q4⟩ ⟨rfl, hx⟩
    obtain ⟨r, hr1, b2, c, rfl, hc⟩ := (R0.ext q1).at' i x hx
    refine g_prq hc ⟨hw _ _, ?_⟩
    unfold tYes
    dsimp only
    rw [if_pos rfl]
    refine ⟨_, hj1 _ _, _, hj2 _ _, by show 2 ≤ sizeLine; decide, fun t ht => ⟨acc, ?_, sz_lt (by omega), Ex.mut (q1.trans (Ex.new ht)) hD, acc ++ [.ref t], upd_same, by simp; omega, ?_⟩⟩
    · rw [upd_ne (ne_of_none q2 ht)]
      exact q2
    · have hD2 : (upd G' t (.tup [.str r.1, .int (r.2 : Nat)])) D = some (.lst acc) := by
        rw [upd_ne (ne_of_none q2 ht)]
        exact q2
      have tx := Tx.lst (o := .lst (acc ++ [.ref t])) hD2
      have e1 : ps.take (i + 1) = ps.take i ++ [r] := by rw [List.take_succ, hr1]; rfl
      rw [e1, List.map_append]
      refine OVs.append (OVs.tx ((Tx.of (Ex.new ht)).trans tx) (prs_noL _) (prs_nod _) q4) (.cons ⟨t, [.str r.1, .int (r.2 : Nat)], rfl, tx _ _ upd_same, .cons rfl (.cons rfl .nil)⟩ .nil)
  rintro H3 ⟨e3, xs3, hD3, _, ho3⟩
  rw [R.len, List.take_length] at ho3
  exact q D xs3 H3 (fresh_back e0 hD) (e0.trans e3) hD3 ho3
theorem tris {xs : List V} : ∀ {ps : List (Str × Nat)} {xs : List V}, OVs H xs (ps.map prO) → ∃ ts : List Tri, xs = (ts.map fun x => V.ref x.1) ∧ ts.map (·.2) = ps.map pI ∧ ∀ x ∈ ts, H x.1 = some (.tup [.str x.2.1, .int x.2.2])
  | [], xs, h => by
    obtain rfl : xs = [] := h
    exact ⟨[], rfl, rfl, fun x hx => by cases hx⟩
  | r :: ps, _, ⟨v, us, rfl, h1, h2⟩ => by
    obtain ⟨ts, rfl, e2, e3⟩ := tris (xs := us) h2
    obtain ⟨t, ws, rfl, ht, w1, ws1, rfl, o1, w2, ws2, rfl, o2, h0⟩ := h1
    obtain rfl : ws2 = [] := h0
    obtain rfl : w1 = .str r.1 := o1
    obtain rfl : w2 = .int (r.2 : Nat) := o2
    refine ⟨(t, pI r) :: ts, rfl, by rw [List.map_cons, List.map_cons, e2], fun x hx => ?_⟩
    rcases List.mem_cons.mp hx with rfl | hx
    · exact ht
    · exact e3 x hx
theorem tris_back : ∀ {ts : List Tri} {ar : List (Str × Nat)}, ts.map (·.2) = ar.map pI → (∀ x ∈ ts, H x.1 = some (.tup [.str x.2.1, .int x.2.2])) → OVs H (ts.map fun x => V.ref x.1) (ar.map prO)
  | [], [], _, _ => rfl
  | [], _ :: _, h, _ => by cases h
  | _ :: _, [], h, _ => by cases h
  | t :: ts, r :: ar, h, k => by
    obtain ⟨h1, h2⟩ := List.cons.inj (show t.2 :: ts.map (·.2) = pI r :: ar.map pI from h)
    have ht := k t (by simp)
    rw [h1] at ht
    exact .cons ⟨t.1, _, rfl, ht, .cons rfl (.cons rfl .nil)⟩ (tris_back h2 fun x hx => k x (by simp [hx]))
theorem elp_sorted (h : EvLP te σ H (fun xs G => OVs G xs (ps.map prO))) (pm : ps.Perm ar) (sd : Sd ar) : EvLP (tCB (rSortTS K) (tCons te tNil)) σ H (fun xs G => OVs G xs (ar.map prO)) := fun H1 e1 Q q =>
  h H1 e1 _ fun p xs G np e2 hp hov => by
    obtain ⟨ts, rfl, h1, h2⟩ := tris (xs := xs) hov
    refine ⟨p, ts, rfl, sq_of hp, fun x hx => st_of (h2 x hx), fun ys r hpm hso nr => ?_⟩
    have e : Ex G (upd G r (.lst (ys.map fun x => V.ref x.1))) := Ex.new nr
    have e3 : ys.map (·.2) = ar.map pI := sort_one (xs := ps.map pI) (by rw [← h1]; exact hpm.map _) (pm.symm.map _) hso sd
    exact q r _ _ (fresh_back e2 nr) (e2.trans e) upd_same (tris_back e3 fun x hx => e _ _ (h2 x (hpm.mem_iff.mp hx)))
end
theorem ovs_tx {H : Hp} {B : Addr → Prop} (n : ∀ a xs, H a = some (.tup xs) → ¬ B a) : Tx H (Hx B H) := fun a xs h => hx_of (n a xs h) tup_tbl h
section
variable {P : Program} {w : World} {K : PySem.W.Frag} {mg : Str → Option Value} {base : Heap}
def spNi (K : PySem.W.Frag) : Sp := fun vs H Q _ => ∃ (p dx : Addr) (v1 v2 : V) (o1 o2 : O) (ps qs ar pr : List (Str × Nat)), vs = [.ref p, v1, v2] ∧ H p = some (.ins (CN K) dx []) ∧ OV H v1 o1 ∧ OV H v2 o2 ∧ o1.strip = .tup (ps.map prO) ∧ o2.strip = .tup (qs.map prO) ∧ NsOk ps qs ∧
  ps.Perm ar ∧ Sd ar ∧ qs.Perm pr ∧ Sd pr ∧ ∀ H', NmAt K (Hx (Old H) H') p ar pr → (∀ b u, H b = some u → b ≠ p → H' b = some u) → Q .non H'
abbrev nNi : List Str := ["self", "functions", "predicates", "index", "pair", "name", "arity"]
theorem sc_ni : FnScope nNi ["self", "functions", "predicates"] (defScope s_Names_init) := ⟨rfl, rfl, rfl, by decide +kernel, rfl, by decide +kernel, by decide +kernel⟩
theorem ok_ninit {f : Addr} {fd : FuncData} (T : TN P w K mg base) (F : FunD K "__init__" "Names.__init__" (defArgs s_Names_init) (defBody s_Names_init) (defScope s_Names_init) [] [] f fd) : FnOk P w K mg base CX0 6 f fd ["self", "functions", "predicates"] (spNi K) := by
  obtain ⟨fB, dB, GB, bB, kB, mB⟩ := (ok_bad_arity T.toT02).ex
  obtain ⟨fW, dW, GW, bW, kW, mW⟩ := (ok_is_arity T.toT02).ex
  refine F.ok sc_ni (fun vs H Q E h => ?_) (fun cdv A outer s H vs Q E hr h => ?_)
  · obtain ⟨p, dx, v1, v2, o1, o2, ps, qs, ar, pr, rfl, _⟩ := h
    rfl
  · obtain ⟨p, dx, v1, v2, o1, o2, ps, qs, ar, pr, rfl, hp, ho1, ho2, hs1, hs2, N, pm1, sd1, pm2, sd2, k⟩ := h
    refine ⟨_, PSs.nox (pss_cons (ps_set (i := 3) sc_ni.nd rfl (Or.inl rfl) (pe_call GB (hr.mono (by decide)) (by rfl) mB kB bB .nil pass0 (pa_cons (pv 1) (pa_cons (pe_lst pa_nil) (pa_cons (pe_glob (v := .ref fW) rfl mW rfl) pa_nil)))))
      (pss_cons (ps_if (pt_cmp (pc_notN (pv 3))) (pss_one ps_never) pss_nil)
      (pss_cons (ps_set (i := 3) sc_ni.nd rfl (Or.inl rfl) (pe_call GB (hr.mono (by decide)) (by rfl) mB kB bB .nil pass0 (pa_cons (pv 2) (pa_cons (pe_lc (own := [("pair", 4)]) (g := gName 4) (tt := tYes) (te := tOp (rIxQ K) (tVar 4) (tC (.int 0))) rfl sc_ni.nd (pi_seq (pv 1)) (blkOk_by (N := nNi) (sc := defScope s_Names_init) (by decide +kernel))
          (fun _ _ _ _ _ => pg_name (i := 4) sc_ni.nd rfl (Or.inl rfl)) (fun _ _ _ _ _ => pts_nil) (fun _ _ _ _ _ => pe_ix ix_seq (pv 4) pe_int (fun _ _ => rfl))) (pa_cons (pe_glob (v := .ref fW) rfl mW rfl) pa_nil)))))
      (pss_cons (ps_if (pt_cmp (pc_notN (pv 3))) (pss_one ps_never) pss_nil)
      (pss_cons (ps_fld (pv 0) (pe_callB cr_sortedTS (by rfl) T.sorted boot_sorted (pa_cons (pe_lc (own := [("name", 5), ("arity", 6)]) (g := gPrQ K 5 6) (tt := tYes) (te := tTup (tCons (tVar 5) (tCons (tVar 6) tNil))) rfl sc_ni.nd (pi_seq (pv 1)) (blkOk_by (N := nNi) (sc := defScope s_Names_init) (by decide +kernel))
        (fun _ _ _ _ _ => pg_or (pg_tup rfl (pgs_cons (pg_name (i := 5) sc_ni.nd rfl (Or.inl rfl)) (pgs_cons (pg_name (i := 6) sc_ni.nd rfl (Or.inl rfl)) pgs_nil))) (pg_lst rfl (pgs_cons (pg_name (i := 5) sc_ni.nd rfl (Or.inl rfl)) (pgs_cons (pg_name (i := 6) sc_ni.nd rfl (Or.inl rfl)) pgs_nil)))) (fun _ _ _ _ _ => pts_nil) (fun _ _ _ _ _ => pe_tup (pa_cons (pv 5) (pa_cons (pv 6) pa_nil)))) pa_nil)) rfl)
      (pss_one (ps_fld (pv 0) (pe_callB cr_sortedTS (by rfl) T.sorted boot_sorted (pa_cons (pe_lc (own := [("name", 5), ("arity", 6)]) (g := gPrQ K 5 6) (tt := tYes) (te := tTup (tCons (tVar 5) (tCons (tVar 6) tNil))) rfl sc_ni.nd (pi_seq (pv 2)) (blkOk_by (N := nNi) (sc := defScope s_Names_init) (by decide +kernel))
        (fun _ _ _ _ _ => pg_or (pg_tup rfl (pgs_cons (pg_name (i := 5) sc_ni.nd rfl (Or.inl rfl)) (pgs_cons (pg_name (i := 6) sc_ni.nd rfl (Or.inl rfl)) pgs_nil))) (pg_lst rfl (pgs_cons (pg_name (i := 5) sc_ni.nd rfl (Or.inl rfl)) (pgs_cons (pg_name (i := 6) sc_ni.nd rfl (Or.inl rfl)) pgs_nil)))) (fun _ _ _ _ _ => pts_nil) (fun _ _ _ _ _ => pe_tup (pa_cons (pv 5) (pa_cons (pv 6) pa_nil)))) pa_nil)) rfl))))))), ?_⟩
    have nd := N.nd
    rw [List.map_append] at nd
    have g1 : badR O.isArity [] o1 = none := rows_good (fun r hr => ⟨(N.nm r (by simp [hr])).1, (N.nm r (by simp [hr])).2.2⟩) (List.nodup_append.mp nd).1 hs1
    have g2 : badR O.isArity (ps.map (·.1)) o2 = none := rows_good (fun r hr => ⟨(N.nm r (by simp [hr])).1, (N.nm r (by simp [hr])).2.2⟩) nd hs2
    have z1 := rows_ss (fun r hr => (N.nm r (by simp [hr])).2.1) hs1
    have z2 := rows_ss (fun r hr => (N.nm r (by simp [hr])).2.1) hs2
    have l1 := N.l1
    have l2 := N.l2
    obtain ⟨b1, a1, us1, rfl, R1⟩ := pwv_of ho1 hs1
    obtain ⟨b2, a2, us2, rfl, R2⟩ := pwv_of ho2 hs2
    refine q_asg (v := .non) (fun H1 e Q q => ⟨_, rfl, Nat.zero_le _, fun b hb => ?_⟩) fun H1 e1 => ?_
    · have e2 : Ex H1 (upd H1 b (.lst [])) := Ex.new hb
      exact ⟨_, o1, b, fW, [], rfl, ho1.ext (e.trans e2), z1.1, by rw [z1.2]; omega, Nat.zero_le _, mW, upd_same, fun H2 e3 => by rw [g1]; exact q H2 (e2.trans e3)⟩
    refine q_when (b := false) (et_B (ev_notN (ev_var rfl) rfl)) (fun z => nomatch z) fun _ H2 e2 => ?_
    have e12 := e1.trans e2
    refine q_asg (v := .non) (fun H3 e Q q => ⟨_, rfl, el_names (ev_var rfl) (R1.ext e12) (by omega) (fun x => rfl) (fun x => rfl) H3 e _ fun b H4 nb e4 hb => ?_⟩) fun H3 e3 => ?_
    · exact ⟨_, o2, b, fW, ps.map (·.1), rfl, ho2.ext ((e12.trans e).trans e4), z2.1, by rw [z2.2]; omega, by rw [List.length_map]; omega, mW, hb, fun H5 e5 => by rw [g2]; exact q H5 (e4.trans e5)⟩
    refine q_when (b := false) (et_B (ev_notN (ev_var rfl) rfl)) (fun z => nomatch z) fun _ H4 e4 => ?_
    have e14 := (e12.trans e3).trans e4
    refine elp_sorted (elp_pairs (ev_var rfl) (R1.ext e14) (by omega) (fun x y => rfl) (fun x y => rfl) (fun x y => rfl)) pm1 sd1 H4 (Ex.refl _) _ fun D xs G nD eD hD hov => ?_
    have e1G := e14.trans eD
    have hp3 := e1G _ _ hp
    refine ⟨_, rfl, p, CN K, dx, [], rfl, hp3, T.iN.cl, T.nF, by show 0 < 1000; decide, ?_⟩
    have nDH : H D = none := fresh_back e14 nD
    have R2' : PwV (upd G p (.ins (CN K) dx (putF "_functions" (.ref D) []))) b2 a2 us2 qs := (R2.ext e1G).ins hp3
    have hD4 : (upd G p (.ins (CN K) dx (putF "_functions" (.ref D) []))) D = some (.lst xs) := by rw [upd_ne (ne_of hD hp3 (by intro z; cases z))]; exact hD
    have hov4 : OVs (upd G p (.ins (CN K) dx (putF "_functions" (.ref D) []))) xs (ar.map prO) := OVs.tx (fun c ys hc => by rw [upd_ne (ne_of hc hp3 (by intro z; cases z))]; exact hc) (prs_noL _) (prs_nod _) hov
    have hp4 : (upd G p (.ins (CN K) dx (putF "_functions" (.ref D) []))) p = some (.ins (CN K) dx (putF "_functions" (.ref D) [])) := upd_same
    have far4 : ∀ c u, H c = some u → c ≠ p → (upd G p (.ins (CN K) dx (putF "_functions" (.ref D) []))) c = some u := fun c u hc n => by rw [upd_ne n]; exact e1G _ _ hc
    generalize upd G p (.ins (CN K) dx (putF "_functions" (.ref D) [])) = J at R2' hD4 hov4 hp4 far4 ⊢
    refine elp_sorted (elp_pairs (ev_var rfl) R2' (by omega) (fun x y => rfl) (fun x y => rfl) (fun x y => rfl)) pm2 sd2 J (Ex.refl _) _ fun D2 ys G2 nD2 eD2 hD2 hov2 => ?_
    have hp5 := eD2 _ _ hp4
    refine ⟨_, rfl, p, CN K, dx, _, rfl, hp5, T.iN.cl, T.nP, by show 1 < 1000; decide, ?_⟩
    have nD2H : H D2 = none := by
      cases q : H D2 with
      | none => rfl
      | some u =>
        have ne : D2 ≠ p := fun z => by rw [z, hp4] at nD2; cases nD2
        rw [far4 _ _ q ne] at nD2
        cases nD2
    have keep : ∀ c u, G2 c = some u → c ≠ p → (upd G2 p (.ins (CN K) dx (putF "_predicates" (.ref D2) (putF "_functions" (.ref D) [])))) c = some u := fun c u hc n => by rw [upd_ne n]; exact hc
    have far : ∀ c u, H c = some u → c ≠ p → (upd G2 p (.ins (CN K) dx (putF "_predicates" (.ref D2) (putF "_functions" (.ref D) [])))) c = some u := fun c u hc n => keep c u (eD2 _ _ (far4 c u hc n)) n
    have hpo : ¬ Old H p := fun ⟨zs, hz⟩ => by rw [hp] at hz; cases hz
    have tx0 : Tx G2 (upd G2 p (.ins (CN K) dx (putF "_predicates" (.ref D2) (putF "_functions" (.ref D) [])))) := fun c zs hc => by rw [upd_ne (ne_of hc hp5 (by intro z; cases z))]; exact hc
    have hpE : (upd G2 p (.ins (CN K) dx (putF "_predicates" (.ref D2) (putF "_functions" (.ref D) [])))) p = some (.ins (CN K) dx (putF "_predicates" (.ref D2) (putF "_functions" (.ref D) []))) := upd_same
    have hDE := keep _ _ (eD2 _ _ hD4) (ne_of hD4 hp4 (by intro z; cases z))
    have hD2E := keep _ _ hD2 (ne_of hD2 hp5 (by intro z; cases z))
    have oE1 := OVs.tx tx0 (prs_noL _) (prs_nod _) (hov4.ext eD2)
    have oE2 := OVs.tx tx0 (prs_noL _) (prs_nod _) hov2
    generalize upd G2 p (.ins (CN K) dx (putF "_predicates" (.ref D2) (putF "_functions" (.ref D) []))) = L at far hpE hDE hD2E oE1 oE2 ⊢
    have txH : Tx L (Hx (Old H) L) := ovs_tx fun c zs hc ⟨ws, hw⟩ => by
      have ne : c ≠ p := fun z => by rw [z, hpE] at hc; cases hc
      rw [far _ _ hw ne] at hc
      cases hc
    refine k L ⟨dx, D, D2, _, xs, ys, hx_of hpo (fun _ z => nomatch z) hpE, ?_, ?_, ?_, ?_, hx_of (not_old nDH) lst_tbl hDE, OVs.tx txH (prs_noL _) (prs_nod _) oE1, hx_of (not_old nD2H) lst_tbl hD2E, OVs.tx txH (prs_noL _) (prs_nod _) oE2⟩ far
    · rw [lookup_putF, if_neg (by decide +kernel), lookup_putF, if_pos rfl]
    · rw [lookup_putF, if_pos rfl]
    · rw [lookup_putF, if_neg (by decide +kernel), lookup_putF, if_neg (by decide +kernel)]
      rfl
    · rw [lookup_putF, if_neg (by decide +kernel), lookup_putF, if_neg (by decide +kernel)]
      rfl
end
end K02

set_option Elab.async false
set_option linter.all false
set_option maxRecDepth 100000
set_option maxHeartbeats 4000000
/-! Names asked. -/
namespace K02
open PySem PySem.Spec PyProof.Rows L2 Evl
section
variable {K : PySem.W.Frag} {σ : L2.St} {H G : Hp} {te ta tb : TE} {v : V}
theorem ev_fld {o C dx : Addr} {fs : List (Str × V)} {f : Str} (h : Ev te σ H (.ref o)) (ho : H o = some (.ins C dx fs)) (cl : Cls K C) (nf : NoAttr K C f) (l : fs.lookup f = some v) : Ev (tFld K te f) σ H v := fun H1 e Q q =>
  h H1 e _ fun H2 e2 => ⟨o, C, dx, fs, v, rfl, (e.trans e2) _ _ ho, cl, nf, l, q H2 e2⟩
theorem kit_self {C : Addr} : PySem.W.kitOne K (.ref C) (.ref C) = some true := by
  unfold PySem.W.kitOne
  rw [if_pos (by simp)]
theorem cls_some {C : Addr} {t : Value} {b : Bool} (h : PySem.W.mroIn K C t = some b) : (PySem.W.clsIn K C).isSome = true := by
  unfold PySem.W.mroIn at h
  cases q : PySem.W.clsIn K C with
  | none => rw [q] at h; cases h
  | some x => rfl
theorem mro_no (o : O) (C : Addr) : ∃ l, PySem.fastBuiltinMro o.ty = some l ∧ l.contains (Value.ref C) = false := by
  cases o <;> refine ⟨_, rfl, ?_⟩ <;> rfl
theorem kit_no {C : Addr} {o : O} (i : InsC K C) : PySem.W.kitOne K (.type o.ty) (.ref C) = some false := by
  unfold PySem.W.kitOne
  rw [if_neg (by simp)]
  unfold PySem.W.kitCls
  dsimp only
  rw [cls_some i.hm, i.ty, if_pos (by simp)]
  obtain ⟨l, h1, h2⟩ := mro_no o C
  show (PySem.fastBuiltinMro o.ty).map (·.contains (Value.ref C)) = some false
  rw [h1]
  exact congrArg some h2
abbrev tIsO (K : PySem.W.Frag) (te : TE) (C : Addr) : TE := tCB (rIsi K) (tCons te (tCons (tC (.ref C)) tNil))
theorem ev_isiS {C : Addr} (h : Ev te σ H v) (i : Ins K H v C) : Ev (tIsO K te C) σ H (.bl true) :=
  ev_cb (ea_cons h (ea_cons ev_c ea_nil)) fun H1 x Q q => ⟨v, .ref C, .ref C, .ref C, true, rfl, .own C, (i.ext x).tyx, kit_self, q H1 (Ex.refl H1)⟩
theorem ev_isiO {C D : Addr} (h : Ev te σ H v) (i : Ins K H v D) (e : PySem.W.kitOne K (.ref D) (.ref C) = some false) : Ev (tIsO K te C) σ H (.bl false) :=
  ev_cb (ea_cons h (ea_cons ev_c ea_nil)) fun H1 x Q q => ⟨v, .ref C, .ref D, .ref C, false, rfl, .own C, (i.ext x).tyx, e, q H1 (Ex.refl H1)⟩
theorem ev_isiD {C : Addr} {o : O} (h : Ev te σ H v) (ho : OV H v o) (i : InsC K C) : Ev (tIsO K te C) σ H (.bl false) :=
  ev_cb (ea_cons h (ea_cons ev_c ea_nil)) fun H1 x Q q => ⟨v, .ref C, _, .ref C, false, rfl, .own C, (ho.ext x).tyx, kit_no i, q H1 (Ex.refl H1)⟩
/-! ### data compared -/
theorem O.shaped64 {o : O} (h : o.ed = true) (d : o.dp ≤ 64) : SeqAt.shaped o.py = true := by
  unfold SeqAt.shaped
  rw [O.lay h, decide_eq_true (by have := O.pdp o h; omega)]
  rfl
theorem rv_eqD {u v : V} {a b : O} (h1 : OV H u a) (h2 : OV H v b) (e1 : a.ed = true) (e2 : b.ed = true) (d1 : a.dp ≤ 64) (d2 : b.dp ≤ 64) : RV (rEqD K) u v H (.bl (a.eqv b)) := fun H1 e Q q =>
  ⟨a.py, b.py, OV.dpd (h1.ext e) e1, OV.dpd (h2.ext e) e2, O.shaped64 e1 d1, O.shaped64 e2 d2, q H1 (Ex.refl _)⟩
end
mutual
/-- texts, numbers, lists and tuples of such -/
def O.pu : O → Bool
  | .str _ => true | .int _ => true | .lst xs => O.pus xs | .tup xs => O.pus xs | .non => false | .bl _ => false | .dct => false
def O.pus : List O → Bool
  | [] => true
  | x :: xs => x.pu && O.pus xs
end
mutual
theorem eqv_iff : ∀ (a b : O), a.pu = true → b.pu = true → (PyData.eqv a.py b.py = true ↔ a = b)
  | .str s, b, _, hb => by cases b <;> first | (cases hb; done) | simp [O.py, PyData.eqv]
  | .int s, b, _, hb => by cases b <;> first | (cases hb; done) | simp [O.py, PyData.eqv]
  | .lst xs, b, ha, hb => by
    cases b with
    | lst ys =>
      show PyData.eqv (.list (O.pys xs)) (.list (O.pys ys)) = true ↔ _
      simp only [PyData.eqv, eqvs_iff xs ys ha hb, O.lst.injEq]
    | str _ => simp [O.py, PyData.eqv]
    | int _ => simp [O.py, PyData.eqv]
    | tup _ => simp [O.py, PyData.eqv]
    | _ => cases hb
  | .tup xs, b, ha, hb => by
    cases b with
    | tup ys =>
      show PyData.eqv (.tuple (O.pys xs)) (.tuple (O.pys ys)) = true ↔ _
      simp only [PyData.eqv, eqvs_iff xs ys ha hb, O.tup.injEq]
    | str _ => simp [O.py, PyData.eqv]
    | int _ => simp [O.py, PyData.eqv]
    | lst _ => simp [O.py, PyData.eqv]
    | _ => cases hb
  | .non, _, ha, _ => by cases ha
  | .bl _, _, ha, _ => by cases ha
  | .dct, _, ha, _ => by cases ha
theorem eqvs_iff : ∀ (xs ys : List O), O.pus xs = true → O.pus ys = true → (PyData.eqvAll (O.pys xs) (O.pys ys) = true ↔ xs = ys)
  | [], [], _, _ => by simp [O.pys, PyData.eqvAll]
  | [], _ :: _, _, _ => by simp [O.pys, PyData.eqvAll]
  | _ :: _, [], _, _ => by simp [O.pys, PyData.eqvAll]
  | x :: xs, y :: ys, ha, hb => by
    obtain ⟨a1, a2⟩ := Bool.and_eq_true_iff.mp (show (x.pu && O.pus xs) = true from ha)
    obtain ⟨b1, b2⟩ := Bool.and_eq_true_iff.mp (show (y.pu && O.pus ys) = true from hb)
    simp only [O.pys, PyData.eqvAll, Bool.and_eq_true, eqv_iff x y a1 b1, eqvs_iff xs ys a2 b2, List.cons.injEq]
end
theorem eqv_self {a : O} (h : a.pu = true) : a.eqv a = true := (eqv_iff a a h h).mpr rfl
theorem eqv_ne {a b : O} (h : a.pu = true) (k : b.pu = true) (n : a ≠ b) : a.eqv b = false := by
  cases q : a.eqv b with
  | false => rfl
  | true => exact absurd ((eqv_iff a b h k).mp q) n
theorem prs_pu : ∀ rs : List (Str × Nat), O.pus (rs.map prO) = true
  | [] => rfl
  | r :: rs => by show ((true && (true && true)) && O.pus (rs.map prO)) = true; rw [prs_pu rs]; rfl
theorem prs_ed : ∀ {rs : List (Str × Nat)}, (∀ r ∈ rs, r.1 ∈ SS) → O.eds (rs.map prO) = true
  | [], _ => rfl
  | r :: rs, h => by
    show ((SS.contains r.1 && (true && true)) && O.eds (rs.map prO)) = true
    rw [List.contains_iff_mem.mpr (h r (by simp)), prs_ed fun q hq => h q (by simp [hq])]
    rfl
theorem prs_dp : ∀ rs : List (Str × Nat), O.dps (rs.map prO) ≤ 1
  | [] => Nat.zero_le _
  | r :: rs => Nat.max_le.mpr ⟨Nat.le_refl _, prs_dp rs⟩
def eqPs (as bs : List (Str × Nat)) : Bool := (O.lst (as.map prO)).eqv (.lst (bs.map prO))
theorem eqPs_self (as : List (Str × Nat)) : eqPs as as = true := eqv_self (a := .lst (as.map prO)) (prs_pu as)
theorem prO_inj {a b : Str × Nat} (h : prO a = prO b) : a = b := by
  obtain ⟨s, i⟩ := a
  obtain ⟨t, j⟩ := b
  unfold prO at h
  simp only [O.tup.injEq, List.cons.injEq, O.str.injEq, O.int.injEq, and_true] at h
  obtain ⟨rfl, h2⟩ := h
  have h3 : i = j := by omega
  rw [h3]
theorem map_inj {α β : Type} {f : α → β} (hf : ∀ a b, f a = f b → a = b) : ∀ {xs ys : List α}, xs.map f = ys.map f → xs = ys
  | [], [], _ => rfl
  | [], _ :: _, h => by cases h
  | _ :: _, [], h => by cases h
  | x :: xs, y :: ys, h => by
    obtain ⟨h1, h2⟩ := List.cons.inj (show f x :: xs.map f = f y :: ys.map f from h)
    rw [hf _ _ h1, map_inj hf h2]
theorem eqPs_ne {as bs : List (Str × Nat)} (h : as ≠ bs) : eqPs as bs = false := eqv_ne (a := .lst (as.map prO)) (b := .lst (bs.map prO)) (prs_pu as) (prs_pu bs) fun e => h (map_inj (fun _ _ => prO_inj) (O.lst.inj e))
section
variable {P : Program} {w : World} {K : PySem.W.Frag} {mg : Str → Option Value} {base : Heap}
/-- its pairs, told new -/
def spNf (K : PySem.W.Frag) (b : Bool) : Sp := fun vs H Q _ => ∃ a ar pr, vs = [.ref a] ∧ NmAt K H a ar pr ∧ ∀ p xs G, H p = none → Ex H G → G p = some (.lst xs) → OVs G xs ((if b = true then ar else pr).map prO) → Q (.ref p) G
theorem sc_nf : FnScope ["self"] ["self"] (defScope s_Names_functions) := ⟨rfl, rfl, rfl, by decide +kernel, rfl, by decide +kernel, by decide +kernel⟩
theorem ok_nfun {f : Addr} {fd : FuncData} (T : TN P w K mg base) (F : FunD K "functions" "Names.functions" (defArgs s_Names_functions) (defBody s_Names_functions) (defScope s_Names_functions) [] [] f fd) : FnOk P w K mg base CX0 2 f fd ["self"] (spNf K true) := by
  refine F.ok sc_nf (fun vs H Q E h => by obtain ⟨a, ar, pr, rfl, _⟩ := h; rfl) (fun cdv A outer s H vs Q E hr h => ?_)
  obtain ⟨a, ar, pr, rfl, hn, k⟩ := h
  obtain ⟨dx, df, dp, fs, xs, ys, h1, h2, h3, _, _, h6, h7, h8, h9⟩ := hn.ex
  refine ⟨_, pss_one (ps_ret (pe_callTy call_list_of (by rfl) T.list PyProof.Rows.boot_list (pa_cons (pe_fld (pv 0) rfl) pa_nil))), ?_⟩
  exact ev_fld (te := tVar 0) (ev_var rfl) h1 T.iN.cl T.nF h2 H (Ex.refl H) _ fun H1 e1 => ⟨df, xs, rfl, .inl (sq_of (e1 _ _ h6)), fun l hl => k l xs _ (fresh_back e1 hl) (e1.trans (Ex.new hl)) upd_same ((h7.ext e1).ext (Ex.new hl))⟩
theorem sc_np : FnScope ["self"] ["self"] (defScope s_Names_predicates) := ⟨rfl, rfl, rfl, by decide +kernel, rfl, by decide +kernel, by decide +kernel⟩
theorem ok_npred {f : Addr} {fd : FuncData} (T : TN P w K mg base) (F : FunD K "predicates" "Names.predicates" (defArgs s_Names_predicates) (defBody s_Names_predicates) (defScope s_Names_predicates) [] [] f fd) : FnOk P w K mg base CX0 2 f fd ["self"] (spNf K false) := by
  refine F.ok sc_np (fun vs H Q E h => by obtain ⟨a, ar, pr, rfl, _⟩ := h; rfl) (fun cdv A outer s H vs Q E hr h => ?_)
  obtain ⟨a, ar, pr, rfl, hn, k⟩ := h
  obtain ⟨dx, df, dp, fs, xs, ys, h1, h2, h3, _, _, h6, h7, h8, h9⟩ := hn.ex
  refine ⟨_, pss_one (ps_ret (pe_callTy call_list_of (by rfl) T.list PyProof.Rows.boot_list (pa_cons (pe_fld (pv 0) rfl) pa_nil))), ?_⟩
  exact ev_fld (te := tVar 0) (ev_var rfl) h1 T.iN.cl T.nP h3 H (Ex.refl H) _ fun H1 e1 => ⟨dp, ys, rfl, .inl (sq_of (e1 _ _ h8)), fun l hl => k l ys _ (fresh_back e1 hl) (e1.trans (Ex.new hl)) upd_same ((h9.ext e1).ext (Ex.new hl))⟩
/-- names that stand in SS -/
def NmS (ps qs : List (Str × Nat)) : Prop := ∀ r ∈ ps ++ qs, r.1 ∈ SS
def spNe (K : PySem.W.Frag) : Sp := fun vs H Q _ => ∃ a b ar pr ar' pr', vs = [.ref a, .ref b] ∧ NmAt K H a ar pr ∧ NmAt K H b ar' pr' ∧ NmS ar pr ∧ NmS ar' pr' ∧ RetV (.bl (eqPs ar ar' && eqPs pr pr')) H Q
theorem sc_ne : FnScope ["self", "other"] ["self", "other"] (defScope s_Names_eq) := ⟨rfl, rfl, rfl, by decide +kernel, rfl, by decide +kernel, by decide +kernel⟩
theorem ok_neq {f : Addr} {fd : FuncData} (T : TN P w K mg base) (F : FunD K "__eq__" "Names.__eq__" (defArgs s_Names_eq) (defBody s_Names_eq) (defScope s_Names_eq) [] [] f fd) : FnOk P w K mg base CX0 2 f fd ["self", "other"] (spNe K) := by
  refine F.ok sc_ne (fun vs H Q E h => by obtain ⟨a, b, ar, pr, ar', pr', rfl, _⟩ := h; rfl) (fun cdv A outer s H vs Q E hr h => ?_)
  obtain ⟨a, b, ar, pr, ar', pr', rfl, ha, hb, s1, s2, k⟩ := h
  have ia := ha.ins T
  have ib := hb.ins T
  obtain ⟨dx, df, dp, fs, xs, ys, h1, h2, h3, _, _, h6, h7, h8, h9⟩ := ha.ex
  obtain ⟨ex, ef, ep, gs, us, ws, g1, g2, g3, _, _, g6, g7, g8, g9⟩ := hb.ex
  refine ⟨_, pss_one (ps_ret (pe_and (pe_callB call_isi (by rfl) T.isi PyProof.Rows.boot_isinstance (pa_cons (pv 1) (pa_cons (pe_glob (v := .ref (CN K)) rfl T.gN rfl) pa_nil)))
      (pe_and (pe_cmpR (op_eqD hr.units) (pe_fld (pv 0) rfl) (pe_fld (pv 1) rfl) (nomark _)) (pe_one (pe_cmpR (op_eqD hr.units) (pe_fld (pv 0) rfl) (pe_fld (pv 1) rfl) (nomark _)))))), ?_⟩
  have sN : ∀ {ps qs : List (Str × Nat)}, NmS ps qs → (O.lst (ps.map prO)).ed = true ∧ (O.lst (qs.map prO)).ed = true := fun s => ⟨prs_ed fun r hr => s r (by simp [hr]), prs_ed fun r hr => s r (by simp [hr])⟩
  have dN : ∀ ps : List (Str × Nat), (O.lst (ps.map prO)).dp ≤ 64 := fun ps => by
    have := prs_dp ps
    show O.dps _ + 1 ≤ 64
    omega
  exact s_ret (ev_andV (a := true) (ev_isiS (ev_var rfl) ib) fun _ => ev_andV (ev_op (ev_fld (ev_var rfl) h1 T.iN.cl T.nF h2) (ev_fld (ev_var rfl) g1 T.iN.cl T.nF g2) (rv_eqD (a := .lst (ar.map prO)) (b := .lst (ar'.map prO)) ⟨_, _, rfl, h6, h7⟩ ⟨_, _, rfl, g6, g7⟩ (sN s1).1 (sN s2).1 (dN _) (dN _)))
    fun _ => ev_op (ev_fld (ev_var rfl) h1 T.iN.cl T.nP h3) (ev_fld (ev_var rfl) g1 T.iN.cl T.nP g3) (rv_eqD (a := .lst (pr.map prO)) (b := .lst (pr'.map prO)) ⟨_, _, rfl, h8, h9⟩ ⟨_, _, rfl, g8, g9⟩ (sN s1).2 (sN s2).2 (dN _) (dN _))) k
/-! ### check_names -/
def spCk (K : PySem.W.Frag) (x : Str) (C : Addr) : Sp := fun vs H Q E => ∃ v, vs = [v] ∧ ((Ins K H v C ∧ RetV .non H Q) ∨ (((∃ o, OV H v o) ∨ ∃ D, Ins K H v D ∧ PySem.W.kitOne K (.ref D) (.ref C) = some false) ∧ Bad K x v H E))
theorem sc_cn : FnScope ["names"] ["names"] (defScope s_check_names) := ⟨rfl, rfl, rfl, by decide +kernel, rfl, by decide +kernel, by decide +kernel⟩
theorem ok_check_names (T : TN P w K mg base) : Ok P w K mg base (L2.CX P w) "check_names" ["names"] 4 (spCk K "BadNames" (CN K)) := by
  refine T.toT02.okX 17 rfl sc_cn (fun vs H Q E h => by obtain ⟨v, rfl, _⟩ := h; rfl) (fun kV doc pm an cdv ct us hl => match us, hl with | [_], _ => rfl) (fun f cdv A outer s H vs Q E hr h => ?_)
  obtain ⟨v, rfl, h⟩ := h
  refine ⟨_, pss_one (ps_if (pt_not (pt_val (pe_callB call_isi (by rfl) T.isi PyProof.Rows.boot_isinstance (pa_cons (pv 0) (pa_cons (pe_glob (v := .ref (CN K)) rfl T.gN rfl) pa_nil))))) (pss_one (ps_raiseE rfl T.toT02.bna (takes_of rfl rfl rfl rfl) (hr.mono (by decide)) (pv 0))) pss_nil), ?_⟩
  rcases h with ⟨i, k⟩ | ⟨(⟨o, ho⟩ | ⟨D, i, e⟩), k⟩
  · exact s_when (b := false) (et_not (a := true) (et_B (ev_isiS (ev_var rfl) i))) (fun z => nomatch z) fun _ H1 e1 => k H1 e1
  · exact s_when (b := true) (et_not (a := false) (et_B (ev_isiD (ev_var rfl) ho T.iN))) (fun _ H1 e1 => s_raise T.toT02.bna (ev_var rfl) fun d G e hd => k d G (e1.trans e) hd) (fun z => nomatch z)
  · exact s_when (b := true) (et_not (a := false) (et_B (ev_isiO (ev_var rfl) i e))) (fun _ H1 e1 => s_raise T.toT02.bna (ev_var rfl) fun d G e hd => k d G (e1.trans e) hd) (fun z => nomatch z)
def spCk0 (K : PySem.W.Frag) (C : Addr) : Sp := fun vs H Q _ => ∃ v, vs = [v] ∧ Ins K H v C ∧ RetV .non H Q
theorem ok_check_names0 (T : TN P w K mg base) : Ok P w K mg base CX0 "check_names" ["names"] 4 (spCk0 K (CN K)) := by
  refine T.toT02.ok 17 rfl sc_cn (fun vs H Q E h => by obtain ⟨v, rfl, _⟩ := h; rfl) (fun kV doc pm an cdv ct us hl => match us, hl with | [_], _ => rfl) (fun f cdv A outer s H vs Q E hr h => ?_)
  obtain ⟨v, rfl, i, k⟩ := h
  refine ⟨_, pss_one (ps_if (pt_not (pt_val (pe_callB call_isi (by rfl) T.isi PyProof.Rows.boot_isinstance (pa_cons (pv 0) (pa_cons (pe_glob (v := .ref (CN K)) rfl T.gN rfl) pa_nil))))) (pss_one ps_never) pss_nil), ?_⟩
  exact s_when (b := false) (et_not (a := true) (et_B (ev_isiS (ev_var rfl) i))) (fun z => nomatch z) fun _ H1 e1 => k H1 e1
/-! ### is_closed -/
theorem arl_val : ∀ {ar : List (Str × Nat)} {s : Str}, (ar.map (·.1)).Nodup → valV (ar.map fun r => ((Sum.inr r.1 : Key), V.int (r.2 : Nat))) (Sum.inr s : Key) = (arl ar s).map fun n : Nat => V.int (n : Nat)
  | [], s, _ => rfl
  | r :: ar, s, nd => by
    have nd := List.nodup_cons.mp nd
    have ih := arl_val (ar := ar) (s := s) nd.2
    unfold valV arl at ih ⊢
    rw [List.map_cons, List.find?_cons, List.find?_cons]
    by_cases h : r.1 = s
    · have e1 : decide ((Sum.inr r.1 : Key) = Sum.inr s) = true := by simp [h]
      have e2 : decide (r.1 = s) = true := by simp [h]
      rw [e1, e2]
      rfl
    · have e1 : decide ((Sum.inr r.1 : Key) = Sum.inr s) = false := by simp [h]
      have e2 : decide (r.1 = s) = false := by simp [h]
      rw [e1, e2]
      exact ih
end
end K02

set_option Elab.async false
set_option linter.all false
set_option maxRecDepth 100000
set_option maxHeartbeats 4000000
/-! is_closed. -/
namespace K02
open PySem PySem.Spec PyProof.Rows L2 Evl
def akv (ar : List (Str × Nat)) : List (Key × V) := ar.map fun r => ((Sum.inr r.1 : Key), V.int (r.2 : Nat))
theorem akv_none {s : Str} : ∀ {ar : List (Str × Nat)}, s ∉ ar.map (·.1) → valV (akv ar) (Sum.inr s : Key) = none
  | [], _ => rfl
  | r :: ar, h => by
    have ih := akv_none (s := s) (ar := ar) fun q => h (by simp only [List.map_cons, List.mem_cons]; exact .inr q)
    unfold valV akv at ih ⊢
    rw [List.map_cons, List.find?_cons]
    have e1 : decide ((Sum.inr r.1 : Key) = Sum.inr s) = false := decide_eq_false fun e => h (by simp [Sum.inr.inj e])
    rw [e1]
    exact ih
theorem merge_a : ∀ (rs qs : List (Str × Nat)), ((qs ++ rs).map (·.1)).Nodup → mergeK (akv qs) (akv rs) = akv (qs ++ rs)
  | [], qs, _ => by simp [akv, mergeK]
  | r :: rs, qs, nd => by
    show mergeK (putK (akv qs) (Sum.inr r.1) (V.int (r.2 : Nat))) (akv rs) = _
    have h1 : r.1 ∉ qs.map (·.1) := by
      intro z
      rw [List.map_append] at nd
      exact (List.nodup_append.mp nd).2.2 _ z _ (by simp) rfl
    rw [putK_new (akv_none h1)]
    have e1 : akv qs ++ [((Sum.inr r.1 : Key), V.int (r.2 : Nat))] = akv (qs ++ [r]) := by simp [akv]
    rw [e1, merge_a rs (qs ++ [r]) (by rw [List.append_assoc]; exact nd), List.append_assoc] <;> rfl
abbrev tDict (K : PySem.W.Frag) (te : TE) : TE := tCB (fun xs H Q => ∃ (a : Addr) (ps : List Addr) (kvs : List (Key × V)), xs = [.ref a] ∧ SqL K H a (ps.map V.ref) ∧ Paired (fun p kv => SqT K H p [kV kv.1, kv.2]) ps kvs ∧ ∀ p, H p = none → Q (.ref p) (upd H p (.dK (mergeK [] kvs)))) (tCons te tNil)
section
variable {K : PySem.W.Frag} {σ : L2.St} {H G : Hp} {te : TE}
theorem prs_paired : ∀ {ar : List (Str × Nat)} {xs : List V}, OVs H xs (ar.map prO) → ∃ ps : List Addr, xs = ps.map V.ref ∧ Paired (fun p (kv : Key × V) => SqT K H p [kV kv.1, kv.2]) ps (akv ar)
  | [], xs, h => by
    obtain rfl : xs = [] := h
    exact ⟨[], rfl, .nil⟩
  | r :: ar, _, ⟨v, us, rfl, h1, h2⟩ => by
    obtain ⟨ps, rfl, hp⟩ := prs_paired (ar := ar) h2
    obtain ⟨t, ws, rfl, ht, w1, ws1, rfl, o1, w2, ws2, rfl, o2, h0⟩ := h1
    obtain rfl : ws2 = [] := h0
    obtain rfl : w1 = .str r.1 := o1
    obtain rfl : w2 = .int (r.2 : Nat) := o2
    exact ⟨t :: ps, rfl, .cons (st_of ht) hp⟩
theorem ep_dict {ar : List (Str × Nat)} (h : EvLP te σ H (fun xs G => OVs G xs (ar.map prO))) (nd : (ar.map (·.1)).Nodup) : EvP (tDict K te) σ H (fun v G => ∃ d, v = .ref d ∧ ArD G d ar) := fun H1 e Q q =>
  h H1 e _ fun p xs H2 np e2 hp hov => by
    obtain ⟨ps, rfl, hpr⟩ := prs_paired (K := K) hov
    refine ⟨p, ps, akv ar, rfl, sq_of hp, hpr, fun d hd => ?_⟩
    have e0 : mergeK [] (akv ar) = akv ar := merge_a ar [] nd
    rw [e0]
    exact q _ _ (e2.trans (Ex.new hd)) ⟨d, rfl, _, upd_same, fun s => arl_val nd⟩
theorem elp_nf {a : Addr} {ar pr : List (Str × Nat)} {b : Bool} {m : Str} {E : XK} (h : Ev te σ H (.ref a)) (hn : NmAt K H a ar pr) (hm : ∀ fs : List (Str × V), fs.lookup ("functions" : Str) = none → fs.lookup ("predicates" : Str) = none → fs.lookup m = none) :
    EvLP (tMeth (CN K) m (spNf K b) [] E te tNil) σ H (fun xs G => OVs G xs ((if b = true then ar else pr).map prO)) := fun H1 e Q q =>
  h H1 e _ fun H2 e2 => by
    have hn2 := hn.ext (e.trans e2)
    obtain ⟨dx, df, dp, fs, xs, ys, h1, h2, h3, h4, h5, _⟩ := hn2.ex
    exact ⟨a, dx, fs, rfl, h1, hm fs h4 h5, a, ar, pr, rfl, hn2, fun p xs G np eG hp hov => q p xs G (fresh_back e2 np) (e2.trans eG) hp hov⟩
end
section
variable {P : Program} {w : World} {K : PySem.W.Frag} {mg : Str → Option Value} {base : Heap}
/-- what sentence_fits may be asked about -/
structure SOk (o : O) : Prop where
  ss : o.ss = true
  hok : o.hok = true
  sz : o.sz ≤ 7000
def spIc (K : PySem.W.Frag) : Sp := fun vs H Q _ => ∃ (n : Addr) (v : V) (ar pr : List (Str × Nat)), vs = [.ref n, v] ∧ NmAt K H n ar pr ∧ (ar.map (·.1)).Nodup ∧ (pr.map (·.1)).Nodup ∧ ((∃ o, OV H v o ∧ SOk o ∧ RetV (.bl (o.fitS ar pr [])) H Q) ∨ ((∃ C, Ins K H v C) ∧ RetV (.bl false) H Q))
theorem sc_ic : FnScope ["names", "thing"] ["names", "thing"] (defScope s_is_closed) := ⟨rfl, rfl, rfl, by decide +kernel, rfl, by decide +kernel, by decide +kernel⟩
theorem ok_is_closed (T : TN P w K mg base) : Ok P w K mg base CX0 "is_closed" ["names", "thing"] 7 (spIc K) := by
  obtain ⟨fC, dC, GC, bC, kC, mC⟩ := (ok_check_names0 T).ex
  obtain ⟨fS, dS, GS, bS, kS, mS⟩ := (ok_sentence T.toT02 T.toTB).ex
  obtain ⟨fF, fdF, MF, FF⟩ := T.mFu
  obtain ⟨fP, fdP, MP, FP⟩ := T.mPr
  have GF := ok_nfun T FF
  have GP := ok_npred T FP
  have bF := FF.bindsN (ps := ["self"]) (fun kV doc pm an cdv ct us hl => match us, hl with | [_], _ => rfl)
  have bP := FP.bindsN (ps := ["self"]) (fun kV doc pm an cdv ct us hl => match us, hl with | [_], _ => rfl)
  refine T.toT02.ok 18 rfl sc_ic (fun vs H Q E h => by obtain ⟨n, v, ar, pr, rfl, _⟩ := h; rfl) (fun kV doc pm an cdv ct us hl => match us, hl with | [_, _], _ => rfl) (fun f cdv A outer s H vs Q E hr h => ?_)
  obtain ⟨n, v, ar, pr, rfl, hn, na, np, h⟩ := h
  refine ⟨_, pss_cons (ps_expr (pe_call GC (hr.mono (by decide)) (by rfl) mC kC bC .nil pass0 (pa_cons (pv 0) pa_nil)))
    (pss_one (ps_ret (pe_call GS hr (by rfl) mS kS bS .nil pass0 (pa_cons (pv 1) (pa_cons (pe_callTy (call_dictP rfl) (by rfl) T.dict boot_dict23 (pa_cons (pe_meth0 (pv 0) T.iN.cl MF GF (hr.mono (by decide)) bF .nil pass0) pa_nil))
      (pa_cons (pe_callTy (call_dictP rfl) (by rfl) T.dict boot_dict23 (pa_cons (pe_meth0 (pv 0) T.iN.cl MP GP (hr.mono (by decide)) bP .nil pass0) pa_nil)) (pa_cons (pe_tup pa_nil) pa_nil))))))), ?_⟩
  refine q_drop (v := .non) (ev_call (ea_cons (ev_var rfl) ea_nil) fun H1 e Q q E => ⟨.ref n, rfl, (hn.ext e).ins T, q⟩) fun H1 e1 => ?_
  have hn1 := hn.ext e1
  refine ⟨v, rfl, ep_dict (elp_nf (b := true) (m := "functions") (ev_var rfl) hn1 (fun fs a b => a)) na H1 (Ex.refl _) _ fun d1 H2 e2 ⟨a1, ed1, hd1⟩ => ?_⟩
  refine ep_dict (elp_nf (b := false) (m := "predicates") (ev_var rfl) (hn1.ext e2) (fun fs a b => b)) np H2 (Ex.refl _) _ fun d2 H3 e3 ⟨a2, ed2, hd2⟩ => ?_
  subst ed1
  subst ed2
  refine ⟨Nat.zero_le _, fun t nt => ?_⟩
  have e4 : Ex H3 (upd H3 t (.tup [])) := Ex.new nt
  have e14 := (e2.trans e3).trans e4
  rcases h with ⟨o, ho, S, k⟩ | ⟨⟨C, hC⟩, k⟩
  · exact .inl ⟨v, o, a1, a2, t, ar, pr, [], rfl, hd1.ext (e3.trans e4), hd2.ext e4, upd_same, ho.ext (e1.trans e14), S.ss, S.hok, by have := S.sz; show o.sz + 0 ≤ 8000; omega, fun H5 e5 => k H5 ((e1.trans e14).trans e5)⟩
  · exact .inr ⟨v, C, a1, a2, t, rfl, hC.ext (e1.trans e14), fun H5 e5 => k H5 ((e1.trans e14).trans e5)⟩
end
end K02

set_option Elab.async false
set_option linter.all false
set_option maxRecDepth 100000
set_option maxHeartbeats 4000000
/-! A lambda of one parameter, with captured names, handed to a def that calls it. -/
namespace K02
open PySem PySem.Spec PyProof.Rows L2 Evl LamX
/-- a lambda's words, what it captured, its code -/
structure LF where
  params : Arguments
  body : Expr
  scope : Scope
  q : Str
  cl : List (Str × Addr)
  c : Addr
/-- as a function's words: for its frame alone -/
def LF.nf (F : LF) : NdefX.NF := ⟨"<lambda>", F.q, F.params, [], F.scope, F.cl, F.c⟩
def LamOc (f : Addr) (F : LF) : HO := .ext fun h => ∃ pm ctv : Value, h.get? f = some (PySem.W.kla_obj "<lambda>" F.q F.params F.body F.scope F.cl pm F.c ctv)
theorem lamOc_at {P : Program} {w : World} {H : Hp} {h : Heap} {f : Addr} {F : LF} (ok : HOk P w H h) (e : H f = some (LamOc f F)) : ∃ pm ctv : Value, h.get? f = some (PySem.W.kla_obj "<lambda>" F.q F.params F.body F.scope F.cl pm F.c ctv) := by
  obtain ⟨z, _, _⟩ := ok f _ e
  exact z
def tLamC (T : List (Addr × Str)) (F : Addr → LF) : TE := fun _ H Q => Tabs T H ∧ ∀ (f c' : Addr) (H1 : Hp), ExtN H H1 → (∀ b, H1 b = none → H b = none) → Tabs T H1 → H f = none → H1 f = some (LamOc f (F c')) → H1 (F c').c = some (CodeO (F c').c (F c').q) → Q (.ref f) H1
section
variable {X : Cx}
theorem lamc_new {pins : List (Addr × Obj)} {σ : L2.St} {H : Hp} {s : Shared} {F : LF} {pm ctv : Value} {t' : Nat} (I : Inv X pins σ H s) :
    Inv X pins σ (upd H s.heap.objs.size (LamOc s.heap.objs.size F)) { s with heap := s.heap.push (PySem.W.kla_obj "<lambda>" F.q F.params F.body F.scope F.cl pm F.c ctv), toks := t' } := by
  refine I.laid (a := s.heap.objs.size) (fun b u e => Heap.get?_push_of_some _ e) (Nat.le_refl _) ?_
  have e : (s.heap.push (PySem.W.kla_obj "<lambda>" F.q F.params F.body F.scope F.cl pm F.c ctv)).get? s.heap.objs.size = some (PySem.W.kla_obj "<lambda>" F.q F.params F.body F.scope F.cl pm F.c ctv) := Heap.get?_push_size _ rfl
  exact ⟨⟨pm, ctv, e⟩, ⟨_, e⟩, fun h1 h2 ⟨p, t, z⟩ st => ⟨p, t, st _ z⟩⟩
/-- a lambda as a value -/
theorem pe_lamC {T : List (Addr × Str)} {c P : Addr} {params : Arguments} {body : Expr} {scope : Scope} {pos : Pos} (TB : TabB X.base X.mg c P) (hcode : X.env.code = .ref c)
    (hm : (P, X.env.qual ++ "<lambda>") ∈ T) (hu : ∀ p ∈ T, p.1 = P → p.2 = X.env.qual ++ "<lambda>") (hdef : defaultsOf params X.env = ([], [])) (hno : ∀ y ∈ scope.names, y.2 = .free → X.env.scope.names.lookup y.1 = some .cell ∨ X.env.scope.names.lookup y.1 = some .free) :
    PE X (.Lambda params body scope pos) (tLamC T fun c' => ⟨params, body, scope, X.env.qual ++ "<lambda>", cloFrom X.env.cells scope.names [], c'⟩) := by
  refine ⟨fun pins s σ H Q I h => ?_⟩
  obtain ⟨hT, h⟩ := h
  obtain ⟨ps, hP, ht, ha⟩ := hT _ hm
  have hfree : ∀ y ∈ scope.names, y.2 = .free → ∃ c, X.env.cells.lookup y.1 = some c := fun y hy e => (hno y hy e).elim (fun z => I.ok.has _ (.inl z)) fun z => I.ok.has _ (.inr z)
  have hclo := closure_ok (env := X.env) hfree
  refine PySem.W.kla_eval hdef ?_
  have bP : s.heap.BuiltinsAt X.mg P := TB.bm.keeps I.bk
  have eP : s.heap.get? P = some { cls := .none, data := .fields ps } := I.hok P _ hP
  cases hc : codeAmong pos ps.toList with
  | none =>
    refine PySem.W.kla_makeFunction (mg := X.mg) (c := c) (P := P) (ps := ps) hclo I.ok.glob (I.mod.glob.keeps I.bk) hcode (TB.code.keeps I.bk) eP ht hc TB.gP bP fun c' ctv h' tk hx hge hlt hrec htb => ?_
    obtain ⟨c2, oc, vs, t, e2, hoc, hd, hv⟩ := hrec
    cases e2
    have nC : H c' = none := I.hok.fresh hge
    have I1 := inv_table (t' := tk) (more := #[rawInt pos.line, rawInt pos.col, .ref c']) (h' := h') I hP (fun b o nb eb => hx b o nb eb) htb hge ⟨oc, vs, t, hoc, hd, hv⟩
    have hE : ExtN H (upd (upd H P (.tbl (ps ++ #[rawInt pos.line, rawInt pos.col, .ref c']))) c' (CodeO c' (X.env.qual ++ "<lambda>"))) := fun b o e n => by
      rw [upd_ne (ne_of_none e nC)]
      rw [upd_ne (fun z => n ps (Option.some.inj (e.symm.trans (by rw [z]; exact hP))))]
      exact e
    have eL : (ps ++ #[rawInt pos.line, rawInt pos.col, .ref c']).toList = ps.toList ++ [rawInt pos.line, rawInt pos.col, .ref c'] := by simp
    have T1 : Tabs T (upd (upd H P (.tbl (ps ++ #[rawInt pos.line, rawInt pos.col, .ref c']))) c' (CodeO c' (X.env.qual ++ "<lambda>"))) := fun p hp => by
      by_cases hb : p.1 = P
      · rw [hu p hp hb, hb]
        refine ⟨_, (by rw [upd_ne (ne_of_none hP nC), upd_same]), (by rw [eL]; exact PySem.TriplesOk_snoc _ _ _ _ ht), fun p' cv hcv => ?_⟩
        rw [eL] at hcv
        rcases among_app _ ht hcv with z | z
        · obtain ⟨cz, y1, y2⟩ := ha p' cv z
          exact ⟨cz, y1, hE _ _ y2 codeO_ne⟩
        · exact ⟨c', z, upd_same⟩
      · obtain ⟨pz, a1, a2, a3⟩ := hT p hp
        refine ⟨pz, (by rw [upd_ne (ne_of_none a1 nC), upd_ne hb]; exact a1), a2, fun p' cv hcv => ?_⟩
        obtain ⟨cz, y1, y2⟩ := a3 p' cv hcv
        exact ⟨cz, y1, hE _ _ y2 codeO_ne⟩
    have nF := I1.hok.fresh (Nat.le_refl _)
    have I2 := lamc_new (F := ⟨params, body, scope, X.env.qual ++ "<lambda>", cloFrom X.env.cells scope.names [], c'⟩) (pm := (X.mg "__name__").getD .none) (ctv := ctv) (t' := tk) I1
    have hN : Ex _ (upd (upd (upd H P (.tbl (ps ++ #[rawInt pos.line, rawInt pos.col, .ref c']))) c' (CodeO c' (X.env.qual ++ "<lambda>"))) h'.objs.size (LamOc h'.objs.size ⟨params, body, scope, X.env.qual ++ "<lambda>", cloFrom X.env.cells scope.names [], c'⟩)) := Ex.new nF
    exact ⟨.ref h'.objs.size, _, I2, rfl, h h'.objs.size c' _ (fun b o e n => hN _ _ (hE b o e n)) (fun b z => NdefX.upd_none (NdefX.upd_none (NdefX.upd_none z))) (T1.ext hN) (I.hok.fresh (Nat.le_trans hge (Nat.le_of_lt hlt))) upd_same (hN _ _ upd_same)⟩
  | some cv =>
    obtain ⟨c', e, hco⟩ := ha pos cv hc
    subst e
    refine PySem.W.kla_makeFunctionHit (mg := X.mg) (c := c) (P := P) (ps := ps) hclo I.ok.glob (I.mod.glob.keeps I.bk) hcode (TB.code.keeps I.bk) eP ht hc bP fun ctv h' tk hx hsz => ?_
    have I1 : Inv X pins σ H { s with heap := h', toks := tk } := I.kept hx
    have nF : H h'.objs.size = none := I1.hok.fresh (Nat.le_refl _)
    have I2 := lamc_new (F := ⟨params, body, scope, X.env.qual ++ "<lambda>", cloFrom X.env.cells scope.names [], c'⟩) (pm := (X.mg "__name__").getD .none) (ctv := ctv) (t' := tk) I1
    have hN : Ex H (upd H h'.objs.size (LamOc h'.objs.size ⟨params, body, scope, X.env.qual ++ "<lambda>", cloFrom X.env.cells scope.names [], c'⟩)) := Ex.new nF
    exact ⟨.ref h'.objs.size, _, I2, rfl, h h'.objs.size c' _ (ExtN.of hN) (fun b z => NdefX.upd_none z) (hT.ext hN) nF upd_same (hN _ _ hco)⟩
end
/-! ### the call -/
theorem cells_un {cl : List (Str × Addr)} {fr : List Str} {ws : List (Option V)} {H HZ : Hp} {h h' : Heap} {fs : List Addr} (C : NdefX.CellsAt cl fr ws h H) (un : Un fs [] H HZ h h') : NdefX.CellsAt cl fr ws h' HZ := by
  have kp : ∀ {c : Addr} {v : Option Value}, H c = none → h.IsCell c v → h'.IsCell c v := fun {c v} n ⟨o, ho, hd⟩ => by
    obtain ⟨sl, q⟩ := un.any ho n (by simp)
    exact ⟨_, q, hd⟩
  refine ⟨C.len, fun y c e => ?_, C.inj, fun i y e => ?_⟩
  · obtain ⟨n, v, o, ho, hd⟩ := C.all y c e
    exact ⟨un.free c o ho n (by simp), v, kp n ⟨o, ho, hd⟩⟩
  · obtain ⟨c, hc, hv⟩ := C.has i y e
    exact ⟨c, hc, fun v ev => let ⟨u, r, z⟩ := hv v ev; ⟨u, r, kp (C.all y c hc).1 z⟩⟩
/-- what a lambda of the one parameter a does: tb read in its own frame -/
structure LamDoes (P : Program) (w : World) (K : PySem.W.Frag) (mg : Str → Option Value) (base : Heap) (k : Nat) (F : LF) (a : Str) (fr : List Str) (tb : TE) : Prop where
  sc : NdefX.NScope (a :: fr) [a] fr F.scope
  bind : ∀ (pm cv ctv u : Value), bindArgs (PySem.W.kla_fn "<lambda>" F.q F.params F.body F.scope F.cl pm cv ctv) ⟨[u], []⟩ = pure [(a, u)]
  body : ∀ (f : Addr) (A : Around) (outer : List Env) (s : Shared) (H : Hp), Room k (A.deeper (NdefX.envF F.nf f s.heap.objs.size)) → PE (NdefX.ncx CX0 P w K mg base (a :: fr) F.nf f A outer s H E0) F.body tb
theorem run_lamC {P : Program} {w : World} {K : PySem.W.Frag} {mg : Str → Option Value} {base : Heap} {k : Nat} {F : LF} {a : Str} {fr : List Str} {tb : TE} (D : LamDoes P w K mg base k F a fr tb) {A : Around} {outer : List Env} {s : Shared} {H : Hp} {f : Addr} {u : Value} {v : V} {Q : VK} {ws : List (Option V)}
    (hr : Room (k + 1) A) (e0 : Env0 P w K mg base A outer s H) (hf : H f = some (LamOc f F)) (hc : H F.c = some (CodeO F.c F.q)) (C : NdefX.CellsAt F.cl fr ws s.heap H) (r : RelV v u) (h : tb (NdefX.startF (a :: fr) [v] ws) H Q) :
    codeAny (model P w) A (.call (.ref f) ⟨[u], []⟩) (CR CX0 outer P w H s Q E0) s := by
  obtain ⟨pm, ctv, ho⟩ := lamOc_at e0.hok hf
  obtain ⟨⟨oc, vs, t, y1, y2, y3⟩, _, _⟩ := e0.hok F.c _ hc
  have lim : s.heap.NoLimit := e0.mod.nolimit.keeps fun b o e => (e0.bs b o e).1
  refine PySem.W.kla_callFunE hr.depth ho rfl D.sc.co D.sc.gen rfl ⟨F.c, oc, vs, t, rfl, y1, y2, y3⟩ ?_
  rw [D.bind pm _ ctv u]
  refine wpAny_pure (wpAny_newFunctionEnv D.sc.nocell (fun y hy => by
    have e : y = (a, u) := by simpa using hy
    subst e
    exact D.sc.par a (by simp)) (fun h₁ hns hsb => ⟨lim.fresh _ hsb, ?_⟩) D.sc.kind)
  show codeAny _ _ (.expr F.body (NdefX.envF F.nf f s.heap.objs.size)) _ _
  have kp : ∀ b o, s.heap.get? b = some o → h₁.get? b = some o := fun b o e => hsb.extBut b o (Nat.ne_of_lt (Heap.lt_size e)) (Heap.get?_push_of_some _ e)
  have J : Inv (NdefX.ncx CX0 P w K mg base (a :: fr) F.nf f A outer s H E0) [] (NdefX.startF (a :: fr) [v] ws) H { s with heap := h₁, toks := s.toks + ([a].zip [u]).length } :=
    NdefX.inv_startN (ps := [a]) (us := [u]) D.sc hr.hd e0 rfl (.cons r .nil) C hns kp
  refine PySem.W.kla_codeExpr (wpAny_mono ((D.body f A outer s H (hr.deeper _)).run [] _ _ H Q J h) (fun v' s' hq => ?_) fun e s' hq => hq)
  obtain ⟨w', H', J', rv, q⟩ := hq
  exact ⟨w', H', J'.os, J'.bare, J'.base, J'.hok, rv, q⟩
/-- x(e), the name x in the slot i holding the lambda F at f -/
def tCallC (i : Nat) (f : Addr) (F : LF) (a : Str) (fr : List Str) (ws : List (Option V)) (tb : TE) (te : TA) : TE := fun σ H Q => σ[i]? = some (some (.ref f)) ∧ H f = some (LamOc f F) ∧ te σ H fun vs H1 => ∃ v : V,
  vs = [v] ∧ H1 f = some (LamOc f F) ∧ H1 F.c = some (CodeO F.c F.q) ∧ tb (NdefX.startF (a :: fr) [v] ws) H1 Q
theorem pe_callC {Z : Cx} {H0 : Hp} {s0 : Shared} {fs : List Addr} {i k : Nat} {x : Str} {e : Expr} {te : TA} {p pos : Pos} {f : Addr} {F : LF} {a : Str} {fr : List Str} {ws : List (Option V)} {tb : TE} (D : LamDoes Z.prog Z.w Z.K Z.mg Z.base k F a fr tb) (C : NdefX.CellsAt F.cl fr ws s0.heap H0)
    (un : ∀ {pins : List (Addr × Obj)} {σ : L2.St} {HZ : Hp} {s : Shared}, Inv Z pins σ HZ s → Un fs [] H0 HZ s0.heap s.heap)
    (hr : Room (k + 1) Z.A) (hN : Z.N[i]? = some x) (hv : Vis Z.env.scope x) (ha : PA Z [e] te)
    (hd : (x == ("__debug__" : Str)) = false := by decide) (hcd : (x == ("__classdict__" : Str)) = false := by decide) (he : starEach [e] Z.env = (false, eval e Z.env) :: starEach [] Z.env := by rfl) :
    PE Z (.Call (.Name x p) [e] [] pos) (tCallC i f F a fr ws tb te) := by
  refine ⟨fun pins s σ H Q I h => ?_⟩
  obtain ⟨hs, h0, ht⟩ := h
  refine wpAny_Call_Name_kw (thn ((pe_var (pos := p) hN hv hd hcd).run pins s σ H (fun v H1 => v = .ref f ∧ H1 = H) I ⟨.ref f, hs, rfl, rfl⟩) fun u s1 ⟨v, H1, I1, r1, q1⟩ => ?_)
  obtain ⟨ev, eH⟩ := q1
  subst ev
  subst eH
  obtain rfl : u = Value.ref f := r1
  obtain ⟨pm0, ctv0, ho0⟩ := lamOc_at I1.hok h0
  refine PySem.W.callWith_F (first := []) ⟨_, _, _, _, ho0⟩ (thn (ha.run pos pins s1 σ _ _ I1 ht) fun us s2 ⟨vs, H2, I2, r, v, ev, h1, h2, q⟩ => ?_) he (by rfl)
  subst ev
  obtain ⟨u, rfl, ru⟩ := vals1 r
  obtain ⟨pm, ctv, ho⟩ := lamOc_at I2.hok h1
  refine ⟨⟨_, _, _, _, ho⟩, ?_⟩
  refine wpAny_call (codeAny_mono (run_lamC D hr I2.env0 h1 h2 (cells_un C (un I2)) ru q) fun rr s' hq => ?_)
  cases rr with
  | error er => exact (show False from hq).elim
  | ok fl =>
    cases fl with
    | ret z => exact I2.after hq
    | next => exact False.elim hq
    | brk => exact False.elim hq
    | cont => exact False.elim hq
/-! ### bad_pair called with a lambda -/
def tBadL (K : PySem.W.Frag) (F : Addr → LF) (a : Str) (fr : List Str) (js : List Nat) (tb : TE) (ta : TA) : TE := fun σ H Q => ta σ H fun vs H1 => ∃ (va : V) (bb f c' : Addr), vs = [va, .ref bb, .ref f] ∧ H1 f = some (LamOc f (F c')) ∧ H1 (F c').c = some (CodeO (F c').c (F c').q) ∧
  tBadB K (tCallC 2 f (F c') a fr (js.map (NdefX.slotAt σ)) tb (tCons (tIt5 K 1) tNil)) { nx := fun _ H' => Q .non H', rt := Q } (L2.start nBad [va, .ref bb, .ref f]) H1
theorem pe_badL {X : Cx} {F : Addr → LF} {cl : List (Str × Addr)} {a : Str} {fr : List Str} {js : List Nat} {tb : TE} {ta : TA} {k : Nat} {e : Expr} {es : List Expr} {p pos : Pos} (ha : PA X (e :: es) ta) (T : T02 X.prog X.w X.K X.mg X.base) (D : ∀ c', LamDoes X.prog X.w X.K X.mg X.base k (F c') a fr tb) (hcl : ∀ c', (F c').cl = cl) (cp : X.Ok → NdefX.Caps X cl fr js)
    (hg : Gl X "bad_pair") (hr : Room (k + 5) X.A) (he : starEach (e :: es) X.env = (false, eval e X.env) :: starEach es X.env := by rfl) (hpl : (backTo pos (starEach es X.env)).any (·.1) = false := by rfl) :
    PE X (.Call (.Name "bad_pair" p) (e :: es) [] pos) (tBadL X.K F a fr js tb ta) := by
  obtain ⟨⟨fd, FD⟩, m⟩ := T.df 8 "bad_pair" s_bad_pair rfl
  have hb := FD.bindsN (ps := ["things", "barred", "is_right"]) fun kV doc pm an cdv ct us hl => match us, hl with | [_, _, _], _ => rfl
  obtain ⟨oc, od, dV, kV, doc, pm, an, cdv, ct, osl, rfl, lk, hcd, _, _⟩ := FD.ex
  refine ⟨fun pins s σ H Q I h => ?_⟩
  refine wpAny_Call_Name_kw (ld_glob I hg m ?_ (by decide))
  refine PySem.W.callWith_K (h₀ := X.base) I.ok.mod.kin FD.kp (thn (ha.run pos pins s σ H _ I h) fun us s1 ⟨vs, H1, I1, r, va, bb, f, c', ev, hf, hc, ht⟩ => ⟨I1.kIn, ?_⟩) he hpl
  subst ev
  have C := NdefX.cells_of I1 (cp I1.ok)
  rw [← hcl c'] at C
  have hul : us.length = 3 := r.length.symm
  have rc : codeAny (model X.prog X.w) X.A (.call (.ref (He.ga X.K "bad_pair")) ⟨us, []⟩) (CR CX0 X.stack X.prog X.w H1 s1 Q E0) s1 := by
    refine run_ofS (N := nBad) (ps := ["things", "barred", "is_right"]) (us := us) (vs := [va, .ref bb, .ref f]) (k := k + 4) lk hcd sc_bad hr I1.env0 ?_ r rfl fun hr' => ?_
    · have := hb s1 us I1.kIn (by rw [List.append_nil]; exact hul)
      rw [List.append_nil] at this
      exact this
    · refine ⟨_, (bad_tree (tc := tCallC 2 f (F c') a fr (js.map (NdefX.slotAt σ)) tb (tCons (tIt5 X.K 1) tNil)) T (hr'.mono (by omega)) fun p1 p2 p3 p4 p5 => ?_).nox, ht⟩
      exact pe_callC (i := 2) (fs := frs X.stack) (s0 := s1) (H0 := H1) (D c') C (fun {pins σ HZ s} I => I.base) (hr'.mono (by omega)) rfl (Or.inl rfl) (pa_cons (pe_ix ix_seq (pv 5) pe_int (fun _ _ => rfl)) pa_nil)
  refine wpAny_call (codeAny_mono rc fun r s2 hq => ?_)
  cases r with
  | error e => exact (show False from hq).elim
  | ok fl =>
    cases fl with
    | ret u => exact I1.after hq
    | next => exact False.elim hq
    | brk => exact False.elim hq
    | cont => exact False.elim hq
/-- the same, the lambda written in the call -/
theorem pe_badLam {X : Cx} {TT : List (Addr × Str)} {c P : Addr} {params : Arguments} {body : Expr} {scope : Scope} {a : Str} {fr : List Str} {js : List Nat} {tb t1 t2 : TE} {k : Nat} {e1 e2 : Expr} {p lpos pos : Pos} (T : T02 X.prog X.w X.K X.mg X.base)
    (h1 : PE X e1 t1) (h2 : PE X e2 t2) (TB : TabB X.base X.mg c P) (hcode : X.env.code = .ref c)
    (hm : (P, X.env.qual ++ "<lambda>") ∈ TT) (hu : ∀ p ∈ TT, p.1 = P → p.2 = X.env.qual ++ "<lambda>") (hdef : defaultsOf params X.env = ([], [])) (hno : ∀ y ∈ scope.names, y.2 = .free → X.env.scope.names.lookup y.1 = some .cell ∨ X.env.scope.names.lookup y.1 = some .free)
    (hfr : ∀ y ∈ fr, (y, NameKind.free) ∈ scope.names) (hjs : js.map (fun j => X.N[j]?) = fr.map some)
    (D : ∀ c', LamDoes X.prog X.w X.K X.mg X.base k ⟨params, body, scope, X.env.qual ++ "<lambda>", cloFrom X.env.cells scope.names [], c'⟩ a fr tb)
    (hg : Gl X "bad_pair") (hr : Room (k + 5) X.A)
    (hpl : (backTo pos (starEach [e2, .Lambda params body scope lpos] X.env)).any (·.1) = false := by rfl)
    (he1 : starEach [e1, e2, .Lambda params body scope lpos] X.env = (false, eval e1 X.env) :: starEach [e2, .Lambda params body scope lpos] X.env := by rfl)
    (he2 : starEach [e2, .Lambda params body scope lpos] X.env = (false, eval e2 X.env) :: starEach [.Lambda params body scope lpos] X.env := by rfl) :
    PE X (.Call (.Name "bad_pair" p) [e1, e2, .Lambda params body scope lpos] [] pos) (tBadL X.K (fun c' => ⟨params, body, scope, X.env.qual ++ "<lambda>", cloFrom X.env.cells scope.names [], c'⟩) a fr js tb (tCons t1 (tCons t2 (tCons (tLamC TT fun c' => ⟨params, body, scope, X.env.qual ++ "<lambda>", cloFrom X.env.cells scope.names [], c'⟩) tNil)))) :=
  pe_badL (F := fun c' => ⟨params, body, scope, X.env.qual ++ "<lambda>", cloFrom X.env.cells scope.names [], c'⟩) (pa_cons h1 (pa_cons h2 (pa_cons (pe_lamC TB hcode hm hu hdef hno) pa_nil (by rfl)) he2) he1) T D (fun _ => rfl) (fun ok => NdefX.Caps.made ok hno hfr hjs) hg hr he1 hpl
end K02

set_option Elab.async false
set_option linter.all false
set_option maxRecDepth 100000
set_option maxHeartbeats 4000000
/-! bad_axiom. -/
namespace K02
open PySem PySem.Spec PyProof.Rows L2 Evl LamX
def tabT (K : PySem.W.Frag) : List (Addr × Str) := tf.map fun p => ((He.cT K p).2, (p.1 ++ ("." : Str) ++ ("<locals>." : Str)) ++ ("<lambda>" : Str))
/-- the tables of the defs that make lambdas -/
structure TabF (K : PySem.W.Frag) (mg : Str → Option Value) (base : Heap) : Prop where
  tb : ∀ p ∈ tf, TabB base mg (He.cT K p).1 (He.cT K p).2
  ne : (He.cT K ("bad_axiom", none)).2 ≠ (He.cT K ("_law_refused_right", none)).2
theorem cod_lst {c : Addr} {q : Str} {xs : List V} : CodeO c q ≠ .lst xs := fun z => by
  unfold CodeO at z
  cases z
theorem cod_ins {c : Addr} {q : Str} {C dx : Addr} {fs : List (Str × V)} : CodeO c q ≠ .ins C dx fs := fun z => by
  unfold CodeO at z
  cases z
theorem tabs_but {T : List (Addr × Str)} {H G : Hp} {p q : Addr} {n : Int} (h : Tabs T H) (B : But p q H G) (S : Spr H p q n) : Tabs T G := fun z hz => by
  obtain ⟨xs, ys, hp, hq⟩ := S.lst
  obtain ⟨ps, y1, y2, y3⟩ := h z hz
  refine ⟨ps, ?_, y2, fun pos cv hc => ?_⟩
  · exact B _ _ (fun e => by rw [e, hp] at y1; cases y1) (fun e => by rw [e, hq] at y1; cases y1) y1
  · obtain ⟨c, c1, c2⟩ := y3 pos cv hc
    exact ⟨c, c1, B _ _ (fun e => by rw [e, hp] at c2; exact absurd (Option.some.inj c2).symm cod_lst) (fun e => by rw [e, hq] at c2; exact absurd (Option.some.inj c2).symm cod_lst) c2⟩
/-- lists and instances may change -/
theorem tabs_keep {T : List (Addr × Str)} {H G : Hp} (h : Tabs T H) (k : ∀ b u, H b = some u → (∀ xs, u ≠ .lst xs) → (∀ C dx fs, u ≠ .ins C dx fs) → G b = some u) : Tabs T G := fun z hz => by
  obtain ⟨ps, y1, y2, y3⟩ := h z hz
  refine ⟨ps, k _ _ y1 (fun _ z => nomatch z) (fun _ _ _ z => nomatch z), y2, fun pos cv hc => ?_⟩
  obtain ⟨c, c1, c2⟩ := y3 pos cv hc
  exact ⟨c, c1, k _ _ c2 (fun _ => cod_lst) (fun _ _ _ => cod_ins)⟩
mutual
theorem OV.hxn {H : Hp} : ∀ {o : O} {v : V}, OV H v o → OV (Hx (fun _ => False) H) v o
  | .non, _, h => h
  | .bl _, _, h => h
  | .int _, _, h => h
  | .str _, _, h => h
  | .dct, _, ⟨a, h1, h2⟩ => ⟨a, h1, hx_of (fun z => z) (fun _ z => nomatch z) h2⟩
  | .lst _, _, ⟨a, vs, h1, h2, h3⟩ => ⟨a, vs, h1, hx_of (fun z => z) lst_tbl h2, OVs.hxn h3⟩
  | .tup _, _, ⟨a, vs, h1, h2, h3⟩ => ⟨a, vs, h1, hx_of (fun z => z) tup_tbl h2, OVs.hxn h3⟩
theorem OVs.hxn {H : Hp} : ∀ {os : List O} {vs : List V}, OVs H vs os → OVs (Hx (fun _ => False) H) vs os
  | [], _, h => h
  | _ :: _, _, ⟨v, us, h1, h2, h3⟩ => ⟨v, us, h1, OV.hxn h2, OVs.hxn h3⟩
end
theorem OV.extN {H G : Hp} {v : V} {o : O} (h : OV H v o) (e : ExtN H G) : OV G v o := (h.hxn.ext (Go.ofN e).ex).ext hx_ex
theorem OVs.extN {H G : Hp} {vs : List V} {os : List O} (h : OVs H vs os) (e : ExtN H G) : OVs G vs os := (h.hxn.ext (Go.ofN e).ex).ext hx_ex
theorem ins_tbl {C dx : Addr} {fs : List (Str × V)} : ∀ ps, HO.ins C dx fs ≠ .tbl ps := fun _ z => nomatch z
theorem NmAt.extN {K : PySem.W.Frag} {H G : Hp} {o : Addr} {ar pr : List (Str × Nat)} (h : NmAt K H o ar pr) (e : ExtN H G) : NmAt K G o ar pr := by
  obtain ⟨dx, df, dp, fs, xs, ys, h1, h2, h3, h4, h5, h6, h7, h8, h9⟩ := h.ex
  exact ⟨dx, df, dp, fs, xs, ys, e _ _ h1 ins_tbl, h2, h3, h4, h5, e _ _ h6 lst_tbl, h7.extN e, e _ _ h8 lst_tbl, h9.extN e⟩
theorem Ins.extN {K : PySem.W.Frag} {H G : Hp} {v : V} {C : Addr} (h : Ins K H v C) (e : ExtN H G) : Ins K G v C := let ⟨c, a, dx, fs, h1, h2⟩ := h; ⟨c, a, dx, fs, h1, e _ _ h2 ins_tbl⟩
section
variable {P : Program} {w : World} {K : PySem.W.Frag} {mg : Str → Option Value} {base : Heap}
/-- a def by its place, its code object told -/
theorem T02.okC (T : T02 P w K mg base) (i : Nat) {x : Str} {st : Stmt} {N ps : List Str} {k : Nat} {sp : Sp} (hi : fnA[i]? = some (dN x st)) (S : FnScope N ps (defScope st)) (len : ∀ vs H Q E, sp vs H Q E → vs.length = ps.length)
    (hb : ∀ (kV doc pm : Value) (an : Option Addr) (cdv ct : Value) (us : List Value), us.length = ps.length → bindArgs (PySem.W.fnOf x x (defArgs st) (defBody st) (defScope st) .none kV doc pm an cdv ct) ⟨us, []⟩ = pure (ps.zip us))
    (hbody : ∀ (f c : Addr), He.codeOf K (x, none) = c → ∀ (A : Around) (outer : List Env) (s : Shared) (H : Hp) (vs : List V) (Q : VK) (E : XK), Room k (A.deeper (envOfC x (defScope st) s.heap.objs.size f (.ref c))) → sp vs H Q E →
      ∃ t, PSs (cxOf CX0 P w K mg base N x (defScope st) f (.ref c) A outer s H E).nox (defBody st) t ∧ t { nx := fun _ H' => Q .non H', rt := Q } (L2.start N vs) H) (hx : ∀ (oc dV kV doc pm ct : Value) (an od : Option Addr) (osl : Array (Option Value)) (c : Addr), K.lookup (He.ga K x) = some ⟨oc, od, .func (PySem.W.fnOf x x (defArgs st) (defBody st) (defScope st) dV kV doc pm an (.ref c) ct), osl⟩ → He.codeOf K (x, none) = c) : Ok P w K mg base CX0 x ps (k + 1) sp := by
  obtain ⟨⟨fd, F⟩, m⟩ := T.df i x st hi
  have F' := F
  obtain ⟨oc, od, dV, kV, doc, pm, an, cd, ct, osl, rfl, lk, hcd, _, _⟩ := F.ex
  obtain ⟨c, hc⟩ := He.codeIn_ref hcd
  subst hc
  refine ⟨_, _, fn_of lk hcd S len (fun A outer s H vs Q E hr h => ?_), F'.bindsN hb, F'.kp, m⟩
  obtain ⟨t, h1, h2⟩ := hbody _ c (hx _ _ _ _ _ _ _ _ _ c lk) A outer s H vs Q E hr h
  exact ⟨t, PSs.nox h1, h2⟩
/-- what bad_axiom tells -/
abbrev badAx (ar pr : List (Str × Nat)) (o : O) : Option Nat := badR (fun s => s.fitS ar pr []) [] o
/-- what axioms may be asked -/
structure AxOk (o : O) : Prop where
  ss : O.sss o.items = true
  len : o.items.length ≤ 1000
  it : ∀ x ∈ o.items, x.isPair = true → SOk x.h1
def spBx (K : PySem.W.Frag) : Sp := fun vs H Q _ => ∃ (n : Addr) (v : V) (ar pr : List (Str × Nat)), vs = [.ref n, v] ∧ NmAt K H n ar pr ∧ (ar.map (·.1)).Nodup ∧ (pr.map (·.1)).Nodup ∧ Tabs (tabT K) H ∧
  ((∃ o, OV H v o ∧ AxOk o ∧ ∀ G, ExtN H G → Tabs (tabT K) G → Q (natV (badAx ar pr o)) G) ∨ ((∃ C, Ins K H v C) ∧ ∀ G, ExtN H G → Tabs (tabT K) G → Q (.int 0) G))
theorem sc_bx : FnScope ["names", "axioms"] ["names", "axioms"] (defScope s_bad_axiom) := ⟨rfl, rfl, rfl, by decide +kernel, rfl, by decide +kernel, by decide +kernel⟩
def scL : Scope := { kind := .function, names := [("thing", .local), ("names", .free), ("is_closed", .globalImplicit)], isGenerator := false, isCoroutine := false }
theorem sc_lam : NdefX.NScope ["thing", "names"] ["thing"] ["names"] scL := NdefX.nscope_by (by decide +kernel)
abbrev tbX (K : PySem.W.Frag) : TE := tCall (spIc K) [] E0 (tCons (tVar 1) (tCons (tVar 0) tNil))
theorem ok_bad_axiom (T : TN P w K mg base) (t2 : TabF K mg base) : Ok P w K mg base CX0 "bad_axiom" ["names", "axioms"] 13 (spBx K) := by
  obtain ⟨fI, dI, GI, bI, kI, mI⟩ := (ok_is_closed T).ex
  refine T.toT02.okC 19 rfl sc_bx (fun vs H Q E h => by obtain ⟨n, v, ar, pr, rfl, _⟩ := h; rfl) (fun kV doc pm an cdv ct us hl => match us, hl with | [_, _], _ => rfl) (fun f c hcode A outer s H vs Q E hr h => ?_) (fun oc dV kV doc pm ct an od osl c lk => He.codeOf_eq (p := ("bad_axiom", none)) lk rfl)
  obtain ⟨n, v, ar, pr, rfl, hn, na, np, hT, h⟩ := h
  have tb := t2.tb ("bad_axiom", none) (List.mem_of_getElem? (i := 0) rfl)
  have ecd : (He.cT K ("bad_axiom", none)).1 = c := hcode
  rw [ecd] at tb
  have hm : ((He.cT K ("bad_axiom", none)).2, ("bad_axiom.<locals>.<lambda>" : Str)) ∈ tabT K := List.mem_of_getElem? (i := 0) (by rfl)
  have hu : ∀ p ∈ tabT K, p.1 = (He.cT K ("bad_axiom", none)).2 → p.2 = ("bad_axiom.<locals>.<lambda>" : Str) := fun p hp e => by
    have h1 : tabT K = [((He.cT K ("bad_axiom", none)).2, ("bad_axiom.<locals>.<lambda>" : Str)), ((He.cT K ("_law_refused_right", none)).2, ("_law_refused_right.<locals>.<lambda>" : Str))] := rfl
    rw [h1] at hp
    rcases List.mem_cons.mp hp with rfl | hp
    · rfl
    · obtain rfl := List.mem_singleton.mp hp
      exact absurd e.symm t2.ne
  refine ⟨_, pss_one (ps_ret (pe_badLam (a := "thing") (fr := ["names"]) (js := [0]) (tb := tbX K) (k := 7) T.toT02 (pv 1) (pe_lst pa_nil) tb rfl hm hu rfl (NdefX.ndef_free (sc := defScope s_bad_axiom) (fr := ["names"]) (by decide +kernel)) (NdefX.ndef_fr (sc := defScope s_bad_axiom) (fr := ["names"]) (by decide +kernel)) rfl
    (fun c' => ⟨sc_lam, fun pm cv ctv u => rfl, fun f A outer s H hr2 => pe_call GI hr2 (by rfl) mI kI bI .nil pass0 (pa_cons (pv 1) (pa_cons (pv 0) pa_nil))⟩) (by rfl) hr)), ?_⟩
  refine ⟨v, rfl, Nat.zero_le _, fun bb nb => ?_⟩
  have e1 : Ex H (upd H bb (.lst [])) := Ex.new nb
  refine ⟨hT.ext e1, fun f' c' H1 eN nn T1 nf hf hc => ?_⟩
  have e01 : ExtN H H1 := (ExtN.of e1).trans eN
  have hbb : H1 bb = some (.lst []) := eN _ _ upd_same lst_tbl
  refine ⟨v, bb, f', c', rfl, hf, hc, ?_⟩
  have hn1 := hn.extN e01
  rcases h with ⟨o, ho, A0, k⟩ | ⟨⟨C, hC⟩, k⟩
  · refine bad_walk (g := fun s => s.fitS ar pr []) (bs := []) (ho.extN e01) A0.ss A0.len (Nat.zero_le _) hbb (fun x hx hpr b2 a2 p i v1 v2 G eG hs o2 => ?_) fun G eG => k G (e01.trans (ExtN.of eG)) (T1.ext eG)
    intro G1 e1G Q1 q1
    have eH1 := eG.trans e1G
    refine ⟨rfl, eH1 _ _ hf, (ea_cons (ev_op (ev_var rfl) ev_c (rv_ixQ hs (atI_nat (j := 1) rfl))) ea_nil : EvA _ _ G [v2]) G1 e1G _ fun G2 e2 => ?_⟩
    have e12 := eH1.trans e2
    refine ⟨v2, rfl, e12 _ _ hf, e12 _ _ hc, _, rfl, _, rfl, n, v2, ar, pr, rfl, hn1.ext e12, na, np, .inl ⟨x.h1, o2.ext (e1G.trans e2), A0.it x hx hpr, fun G3 e3 => q1 G3 (e2.trans e3)⟩⟩
  · exact bad_ins (hC.extN e01) fun G eG => k G (e01.trans (ExtN.of eG)) (T1.ext eG)
end
end K02

set_option Elab.async false
set_option linter.all false
set_option maxRecDepth 100000
set_option maxHeartbeats 4000000
/-! Theories. -/
namespace L2
open PySem PySem.Spec PyProof.Rows
section
variable {X : Cx} {CX : CXT} {n : Nat} {C f : Addr} {fd : FuncData} {ps : List Str} {sp : Sp} {E : XK}
/-- what may stand right of an own == -/
inductive Rt (K : PySem.W.Frag) (C : Addr) (H : Hp) : V → Prop
  | ins {b D dy : Addr} {gs : List (Str × V)} : H b = some (.ins D dy gs) → (D = C ∨ PySem.W.subIn K (.ref D) (.ref C) = some false) → Rt K C H (.ref b)
  | lst {b : Addr} {xs : List V} : H b = some (.lst xs) → Rt K C H (.ref b)
  | int {i : Int} : Rt K C H (.int i)
theorem Rt.looks {pins : List (Addr × Obj)} {σ : L2.St} {H : Hp} {s : Shared} {y : V} {u : Value} (I : Inv X pins σ H s) (h : Rt X.K C H y) (r : RelV y u) : ∃ tb, PySem.W.Looks (model X.prog X.w) s.heap (typeOf u) tb ∧ PySem.W.notFirst X.K C tb = true := by
  cases h with
  | ins hb hD =>
    cases r
    obtain ⟨mB, J', _⟩ := ins_get I.hok hb
    obtain ⟨od', J', _⟩ := J'.look
    refine ⟨_, J'.type, ?_⟩
    unfold PySem.W.notFirst
    rcases hD with rfl | hD
    · simp
    · rw [hD]; simp
  | lst hb =>
    cases r
    obtain ⟨_, its, nn, _, _, e⟩ := I.lstM hb
    exact ⟨.type "list", (PySem.W.Looks.ld e).andThen .now, rfl⟩
  | int =>
    obtain ⟨t, rfl⟩ := r
    exact ⟨.type "int", .now, rfl⟩
def rOwn (K : PySem.W.Frag) (C : Addr) (sp : Sp) (E : XK) : R2 := fun x y H Q => ∃ a dx fs, x = .ref a ∧ H a = some (.ins C dx fs) ∧ Rt K C H y ∧ sp [x, y] H (fun v H' => ∃ b, v = .bl b ∧ Q v H') E
theorem op_own (F : FnOk X.prog X.w X.K X.mg X.base CX n f fd ps sp) (hr : Room n X.A) (hs : PySem.W.findIn X.K (.ref C) "__eq__" = some (some (.ref f))) (hf : PySem.W.isFn X.K (.ref f) = true) (hb : Binds X.K fd ps []) (hx : Passes CX X E) : OpR X (compareOp .Eq) (rOwn X.K C sp E) := by
  intro pins s σ H x y v u Q I rx ry hq
  obtain ⟨a, dx, fs, rfl, ha, hy, hsp⟩ := hq
  cases rx
  obtain ⟨mA, J, _⟩ := ins_get I.hok ha
  obtain ⟨od, J, _⟩ := J.look
  obtain ⟨m, hF⟩ := I.fr
  obtain ⟨tb, ht, hn⟩ := hy.looks I ry
  have hl := F.len _ _ _ _ hsp
  have r2 : Vals [V.ref a, y] [Value.ref a, u] := .cons rfl (.cons ry .nil)
  have e0 : compareOp .Eq (.ref a) u = richCompare .Eq (.ref a) u := rfl
  rw [e0]
  refine PySem.W.cmp_K (op := .Eq) (tb := tb) hr.units0 hF I.ok.mod.kin J ht hn hs hf ?_
  refine wpAny_call (codeAny_mono (F.run X.A X.stack s H ⟨[.ref a, u], []⟩ [.ref a, u] [.ref a, y] _ E hr I.env0 (by
    have := hb s [.ref a, u] I.kIn (by simpa using hl)
    simpa using this) r2 hsp) fun r s' hq => ?_)
  cases r with
  | error e => exact hx pins σ H s e s' I hq
  | ok fl =>
    cases fl with
    | ret w =>
      obtain ⟨z, H', I', rz, bb, ez, q⟩ := I.after hq
      subst ez
      cases rz
      exact ⟨.bl bb, H', I', rfl, q⟩
    | next => exact False.elim hq
    | brk => exact False.elim hq
    | cont => exact False.elim hq
end
end L2
namespace K02
open PySem PySem.Spec PyProof.Rows L2 Evl LamX
theorem sub_of {K : PySem.W.Frag} {D C : Addr} (h : PySem.W.kitOne K (.ref D) (.ref C) = some false) : PySem.W.subIn K (.ref D) (.ref C) = some false := by
  unfold PySem.W.kitOne at h
  split at h
  · cases h
  · unfold PySem.W.kitCls at h
    dsimp only at h
    split at h
    · exact h
    · cases h
section
variable {P : Program} {w : World} {K : PySem.W.Frag} {mg : Str → Option Value} {base : Heap}
theorem TN.sb (T : TN P w K mg base) {x y : Str} (hx : x ∈ onms) (hy : y ∈ onms) : He.ga K x = He.ga K y ∨ PySem.W.subIn K (.ref (He.ga K x)) (.ref (He.ga K y)) = some false := by
  by_cases h : x = y
  · rw [h]; exact .inl rfl
  · exact .inr (sub_of (T.ot x hx y hy h))
theorem NmAt.rt {H : Hp} {o : Addr} {ar pr : List (Str × Nat)} (h : NmAt K H o ar pr) : Rt K (CN K) H (.ref o) := by
  obtain ⟨dx, df, dp, fs, xs, ys, h1, _⟩ := h.ex
  exact .ins h1 (.inl rfl)
/-- == of names -/
theorem rv_ownN {H : Hp} {a b : Addr} {ar pr ar' pr' : List (Str × Nat)} {E : XK} (h1 : NmAt K H a ar pr) (h2 : NmAt K H b ar' pr') (s1 : NmS ar pr) (s2 : NmS ar' pr') : RV (rOwn K (CN K) (spNe K) E) (.ref a) (.ref b) H (.bl (eqPs ar ar' && eqPs pr pr')) := fun H1 e Q q => by
  have h1 := h1.ext e
  have h2 := h2.ext e
  obtain ⟨dx, df, dp, fs, xs, ys, g1, _⟩ := h1.ex
  exact ⟨a, dx, fs, rfl, g1, h2.rt, a, b, ar, pr, ar', pr', rfl, h1, h2, s1, s2, fun H2 e2 => ⟨_, rfl, q H2 e2⟩⟩
end
mutual
/-- data stay where an instance changes -/
theorem OV.insU {H : Hp} {p C dx : Addr} {fs : List (Str × V)} {u : HO} (hp : H p = some (.ins C dx fs)) : ∀ {o : O} {v : V}, OV H v o → OV (upd H p u) v o
  | .non, _, h => h
  | .bl _, _, h => h
  | .int _, _, h => h
  | .str _, _, h => h
  | .dct, _, ⟨a, h1, h2⟩ => ⟨a, h1, by rw [upd_ne (ne_of h2 hp (by intro z; cases z))]; exact h2⟩
  | .lst _, _, ⟨a, vs, h1, h2, h3⟩ => ⟨a, vs, h1, by rw [upd_ne (ne_of h2 hp (by intro z; cases z))]; exact h2, OVs.insU hp h3⟩
  | .tup _, _, ⟨a, vs, h1, h2, h3⟩ => ⟨a, vs, h1, by rw [upd_ne (ne_of h2 hp (by intro z; cases z))]; exact h2, OVs.insU hp h3⟩
theorem OVs.insU {H : Hp} {p C dx : Addr} {fs : List (Str × V)} {u : HO} (hp : H p = some (.ins C dx fs)) : ∀ {os : List O} {vs : List V}, OVs H vs os → OVs (upd H p u) vs os
  | [], _, h => h
  | _ :: _, _, ⟨v, us, h1, h2, h3⟩ => ⟨v, us, h1, OV.insU hp h2, OVs.insU hp h3⟩
end
/-! ### axioms as data -/
def axO (a : Str × O) : O := .tup [.str a.1, a.2]
/-- a theory at o, its names at n -/
structure ThAt (K : PySem.W.Frag) (H : Hp) (o n : Addr) (axs : List (Str × O)) : Prop where
  ex : ∃ dx da fs xs, H o = some (.ins (CT K) dx fs) ∧ fs.lookup ("_names" : Str) = some (.ref n) ∧ fs.lookup ("_axioms" : Str) = some (.ref da) ∧ fs.lookup ("names" : Str) = none ∧ fs.lookup ("axioms" : Str) = none ∧ H da = some (.lst xs) ∧ OVs H xs (axs.map axO)
theorem ThAt.ext {K : PySem.W.Frag} {H G : Hp} {o n : Addr} {axs : List (Str × O)} (h : ThAt K H o n axs) (e : Ex H G) : ThAt K G o n axs := by
  obtain ⟨dx, da, fs, xs, h1, h2, h3, h4, h5, h6, h7⟩ := h.ex
  exact ⟨dx, da, fs, xs, e _ _ h1, h2, h3, h4, h5, e _ _ h6, h7.ext e⟩
theorem ThAt.extN {K : PySem.W.Frag} {H G : Hp} {o n : Addr} {axs : List (Str × O)} (h : ThAt K H o n axs) (e : ExtN H G) : ThAt K G o n axs := by
  obtain ⟨dx, da, fs, xs, h1, h2, h3, h4, h5, h6, h7⟩ := h.ex
  exact ⟨dx, da, fs, xs, e _ _ h1 ins_tbl, h2, h3, h4, h5, e _ _ h6 lst_tbl, h7.extN e⟩
/-- axioms that stand in a theory -/
structure AxS (axs : List (Str × O)) : Prop where
  ss : ∀ a ∈ axs, a.1 ∈ SS
  ed : ∀ a ∈ axs, a.2.ed = true
  pu : ∀ a ∈ axs, a.2.pu = true
  dp : ∀ a ∈ axs, a.2.dp ≤ 62
  noL : ∀ a ∈ axs, a.2.hasL = false
  nod : ∀ a ∈ axs, a.2.nod = true
  len : axs.length ≤ 100
theorem axs_noL : ∀ {axs : List (Str × O)}, (∀ a ∈ axs, a.2.hasL = false) → O.hasLs (axs.map axO) = false
  | [], _ => rfl
  | a :: axs, h => by
    show ((false || (a.2.hasL || false)) || O.hasLs (axs.map axO)) = false
    rw [h a (by simp), axs_noL fun b hb => h b (by simp [hb])]
    rfl
theorem axs_nod : ∀ {axs : List (Str × O)}, (∀ a ∈ axs, a.2.nod = true) → O.nods (axs.map axO) = true
  | [], _ => rfl
  | a :: axs, h => by
    show ((true && (a.2.nod && true)) && O.nods (axs.map axO)) = true
    rw [h a (by simp), axs_nod fun b hb => h b (by simp [hb])]
    rfl
theorem axs_pu : ∀ {axs : List (Str × O)}, (∀ a ∈ axs, a.2.pu = true) → O.pus (axs.map axO) = true
  | [], _ => rfl
  | a :: axs, h => by
    show ((true && (a.2.pu && true)) && O.pus (axs.map axO)) = true
    rw [h a (by simp), axs_pu fun b hb => h b (by simp [hb])]
    rfl
theorem axs_ed : ∀ {axs : List (Str × O)}, (∀ a ∈ axs, a.1 ∈ SS) → (∀ a ∈ axs, a.2.ed = true) → O.eds (axs.map axO) = true
  | [], _, _ => rfl
  | a :: axs, h, k => by
    show ((SS.contains a.1 && (a.2.ed && true)) && O.eds (axs.map axO)) = true
    rw [List.contains_iff_mem.mpr (h a (by simp)), k a (by simp), axs_ed (fun b hb => h b (by simp [hb])) fun b hb => k b (by simp [hb])]
    rfl
theorem axs_dp : ∀ {axs : List (Str × O)}, (∀ a ∈ axs, a.2.dp ≤ 62) → O.dps (axs.map axO) ≤ 63
  | [], _ => Nat.zero_le _
  | a :: axs, h => Nat.max_le.mpr ⟨Nat.succ_le_succ (Nat.max_le.mpr ⟨Nat.zero_le _, Nat.max_le.mpr ⟨h a (by simp), Nat.zero_le _⟩⟩), axs_dp fun b hb => h b (by simp [hb])⟩
def eqAx (as bs : List (Str × O)) : Bool := (O.lst (as.map axO)).eqv (.lst (bs.map axO))
theorem axO_inj {a b : Str × O} (h : axO a = axO b) : a = b := by
  obtain ⟨s, i⟩ := a
  obtain ⟨t, j⟩ := b
  unfold axO at h
  simp only [O.tup.injEq, List.cons.injEq, O.str.injEq, and_true] at h
  rw [h.1, h.2]
theorem eqAx_self {as : List (Str × O)} (A : AxS as) : eqAx as as = true := eqv_self (a := .lst (as.map axO)) (axs_pu A.pu)
theorem eqAx_ne {as bs : List (Str × O)} (A : AxS as) (B : AxS bs) (h : as ≠ bs) : eqAx as bs = false := eqv_ne (a := .lst (as.map axO)) (b := .lst (bs.map axO)) (axs_pu A.pu) (axs_pu B.pu) fun e => h (map_inj (fun _ _ => axO_inj) (O.lst.inj e))
section
variable {K : PySem.W.Frag} {σ : L2.St} {H G : Hp} {te tl : TE} {b : Bool} {a : Addr} {us : List V} {zs : List O} {j : Nat} {vs : List Nat}
/-- [frozen(x) for x in xs] -/
theorem elp_frozen (h : Ev tl σ H (.ref a)) (hs : SqB H b a us) (hov : OVs H us zs) (hz : ∀ z ∈ zs, z.sz ≤ 9000) (hn : O.nods zs = true) (hl : zs.length ≤ 1000) (hw : ∀ x, wipe ((wipe σ vs).set j (some x)) vs = wipe σ vs) (hj : ∀ x : V, ((wipe σ vs).set j (some x))[j]? = some (some x)) :
    EvLP (tLc (iQ K tl) (gName j) tYes (tCall spFz [] E0 (tCons (tVar j) tNil)) vs) σ H (fun xs G => OVs G xs (O.strips zs)) := fun H1 e1 Q q => by
  have hs1 := hs.ext e1
  refine iq_it (h.mono e1) hs1 fun J G0 e0 wk D hD => ?_
  have ho0 := hov.ext (e1.trans e0)
  have hlen := hov.length
  refine lc_it wk (fun i G => Ex G0 G ∧ ∃ acc, G D = some (.lst acc) ∧ acc.length = i ∧ OVs G acc (O.strips (zs.take i))) ⟨Ex.new hD, [], upd_same, rfl, rfl⟩ (fun i G _ q => (hs1.ext e0).ext q.1) ?_ ?_
  · rintro i x G G' hi ⟨q1, acc, q2, q3, q4⟩ ⟨rfl, hx⟩
    obtain ⟨o, ho, hox⟩ := ho0.get hx
    have hom := List.mem_of_getElem? ho
    have hnd := nods_get hn ho
    unfold gName
    dsimp only
    refine ⟨hw _, ?_⟩
    unfold tYes
    dsimp only
    rw [if_pos rfl]
    refine ⟨_, hj _, x, o, rfl, hox.ext q1, hz o hom, hnd, fun u J2 eJ hu => ⟨acc, eJ _ _ q2, sz_lt (by omega), Ex.mut (q1.trans eJ) hD, acc ++ [u], upd_same, by simp; omega, ?_⟩⟩
    have tx := Tx.lst (o := .lst (acc ++ [u])) (eJ _ _ q2)
    have e1 : zs.take (i + 1) = zs.take i ++ [o] := by rw [List.take_succ, ho]; rfl
    rw [e1, strips_app]
    refine OVs.append (OVs.tx ((Tx.of eJ).trans tx) (strips_noL _) (by rw [strips_nod]; exact nods_take _ hn) q4) (.cons (OV.tx tx (strip_noL _) (by rw [strip_nod]; exact hnd) hu) .nil)
  rintro H3 ⟨e3, xs3, hD3, _, ho3⟩
  rw [hlen, List.take_length] at ho3
  exact q D xs3 H3 (fresh_back e0 hD) (e0.trans e3) hD3 ho3
end
section
variable {P : Program} {w : World} {K : PySem.W.Frag} {mg : Str → Option Value} {base : Heap}
/-- v is no names -/
def NoC (K : PySem.W.Frag) (H : Hp) (v : V) (C : Addr) : Prop := (∃ o, OV H v o) ∨ ∃ D, Ins K H v D ∧ PySem.W.kitOne K (.ref D) (.ref C) = some false
def spTi (K : PySem.W.Frag) : Sp := fun vs H Q E => ∃ (p dx : Addr) (vn va : V), vs = [.ref p, vn, va] ∧ H p = some (.ins (CT K) dx []) ∧ Tabs (tabT K) H ∧
  ((NoC K H vn (CN K) ∧ Bad K "BadNames" vn H E) ∨ ∃ (n : Addr) (ar pr : List (Str × Nat)), vn = .ref n ∧ NmAt K H n ar pr ∧ (ar.map (·.1)).Nodup ∧ (pr.map (·.1)).Nodup ∧
    (((∃ C, Ins K H va C) ∧ ∀ G, ExtN H G → Tabs (tabT K) G → BadZ K "BadAxioms" "index" (.int 0) G E) ∨
    ∃ o, OV H va o ∧ AxOk o ∧ ((∃ i : Nat, badAx ar pr o = some i ∧ ∀ G, ExtN H G → Tabs (tabT K) G → BadZ K "BadAxioms" "index" (.int (i : Nat)) G E) ∨
      (badAx ar pr o = none ∧ ∃ axs, o.strip = .tup (axs.map axO) ∧ AxS axs ∧ O.szs o.items ≤ 9000 ∧
      ∀ H', ThAt K (Hx (Old H) H') p n axs → (∀ b u, H b = some u → (∀ ps, u ≠ .tbl ps) → b ≠ p → H' b = some u) → Tabs (tabT K) H' → Q .non H'))))
abbrev nTi : List Str := ["self", "names", "axioms", "index", "axiom"]
theorem sc_ti : FnScope nTi ["self", "names", "axioms"] (defScope s_Theory_init) := ⟨rfl, rfl, rfl, by decide +kernel, rfl, by decide +kernel, by decide +kernel⟩
theorem ok_tinit {f : Addr} {fd : FuncData} (T : TN P w K mg base) (t2 : TabF K mg base) (F : FunD K "__init__" "Theory.__init__" (defArgs s_Theory_init) (defBody s_Theory_init) (defScope s_Theory_init) [] [] f fd) : FnOk P w K mg base (L2.CX P w) 14 f fd ["self", "names", "axioms"] (spTi K) := by
  obtain ⟨fC, dC, GC, bC, kC, mC⟩ := (ok_check_names T).ex
  obtain ⟨fB, dB, GB, bB, kB, mB⟩ := (ok_bad_axiom T t2).ex
  obtain ⟨fZ, dZ, GZ, bZ, kZ, mZ⟩ := (ok_frozen T.toT02).ex
  refine F.ok sc_ti (fun vs H Q E h => by obtain ⟨p, dx, vn, va, rfl, _⟩ := h; rfl) (fun cdv A outer s H vs Q E hr h => ?_)
  obtain ⟨p, dx, vn, va, rfl, hp, hT, h⟩ := h
  refine ⟨_, pss_cons (ps_expr (pe_callS GC (hr.mono (by decide)) (by rfl) mC kC bC (fun σ => passAt (takes_of rfl rfl rfl rfl) σ) (pa_cons (pv 1) pa_nil)))
    (pss_cons (ps_set (i := 3) sc_ti.nd rfl (Or.inl rfl) (pe_call GB (hr.mono (by decide)) (by rfl) mB kB bB .nil pass0 (pa_cons (pv 1) (pa_cons (pv 2) pa_nil))))
    (pss_cons (ps_if (pt_cmp (pc_notN (pv 3))) (pss_one (ps_raiseE rfl T.toT02.bax (takes_of rfl rfl rfl rfl) (hr.mono (by decide)) (pv 3))) pss_nil)
    (pss_cons (ps_fld (pv 0) (pv 1) rfl)
    (pss_one (ps_fld (pv 0) (pe_lc (own := [("axiom", 4)]) (g := gName 4) (tt := tYes) (te := tCall spFz [] E0 (tCons (tVar 4) tNil)) rfl sc_ti.nd (pi_seq (pv 2)) (blkOk_by (N := nTi) (sc := defScope s_Theory_init) (by decide +kernel))
        (fun _ _ _ _ _ => pg_name (i := 4) sc_ti.nd rfl (Or.inl rfl)) (fun _ _ _ _ _ => pts_nil) (fun _ _ _ _ _ => pe_call GZ (hr.mono (by decide)) (by rfl) mZ kZ bZ .nil pass0 (pa_cons (pv 4) pa_nil))) rfl))))), ?_⟩
  rcases h with ⟨hno, k⟩ | ⟨n, ar, pr, rfl, hn, na, np, h⟩
  · exact ⟨_, rfl, vn, rfl, .inr ⟨hno, k⟩⟩
  refine ⟨_, rfl, _, rfl, .inl ⟨hn.ins T, fun H1 e1 => ?_⟩⟩
  have hn1 := hn.ext e1
  have hT1 := hT.ext e1
  rcases h with ⟨hi, k⟩ | ⟨o, ho, A0, ⟨i, hbad, k⟩ | ⟨hbad, axs, hst, S, hz, k⟩⟩
  · refine ⟨_, rfl, _, rfl, n, va, ar, pr, rfl, hn1, na, np, hT1, .inr ⟨let ⟨C, hC⟩ := hi; ⟨C, hC.ext e1⟩, fun G eG TG => ?_⟩⟩
    unfold gName
    dsimp only
    refine q_when (b := true) (et_B (ev_notN (v := .int 0) (ev_var rfl) rfl)) (fun _ H2 e2 => ?_) fun z => nomatch z
    exact s_raise T.toT02.bax (ev_var rfl) fun d G2 e hd => k G ((ExtN.of e1).trans eG) TG d G2 (e2.trans e) hd
  · refine ⟨_, rfl, _, rfl, n, va, ar, pr, rfl, hn1, na, np, hT1, .inl ⟨o, ho.ext e1, A0, fun G eG TG => ?_⟩⟩
    unfold gName
    dsimp only
    rw [hbad]
    refine q_when (b := true) (et_B (ev_notN (v := .int (i : Nat)) (ev_var rfl) rfl)) (fun _ H2 e2 => ?_) fun z => nomatch z
    exact s_raise T.toT02.bax (ev_var rfl) fun d G2 e hd => k G ((ExtN.of e1).trans eG) TG d G2 (e2.trans e) hd
  refine ⟨_, rfl, _, rfl, n, va, ar, pr, rfl, hn1, na, np, hT1, .inl ⟨o, ho.ext e1, A0, fun G eG TG => ?_⟩⟩
  unfold gName
  dsimp only
  rw [hbad]
  refine q_when (b := false) (et_B (ev_notN (v := .non) (ev_var rfl) rfl)) (fun z => nomatch z) fun _ H2 e2 => ?_
  have e02 : ExtN H H2 := ((ExtN.of e1).trans eG).trans (ExtN.of e2)
  have hp2 := e02 _ _ hp ins_tbl
  refine ⟨_, rfl, _, rfl, p, CT K, dx, [], rfl, hp2, T.iT.cl, T.nNm, by show 0 < 1000; decide, ?_⟩
  obtain ⟨b, zs, rfl, hzs⟩ := strip_tup hst
  obtain ⟨a, us, rfl, ha, hov⟩ := (ho.extN e02).seq
  rw [O.items_seq] at hz
  have hlz : zs.length = axs.length := by rw [strips_len' hzs, List.length_map]
  have hsq : SqB (upd H2 p (.ins (CT K) dx (putF "_names" (.ref n) []))) b a us := sqb_ins ha hp2
  have txp : ∀ {J : Hp} {fs : List (Str × V)} {u : HO}, J p = some (.ins (CT K) dx fs) → ∀ c w, J c = some w → (∀ fs', w ≠ .ins (CT K) dx fs') → (upd J p u) c = some w := fun {J fs u} hJ c w hc n => by rw [upd_ne (ne_of hc hJ (n _))]; exact hc
  have hov3 : OVs (upd H2 p (.ins (CT K) dx (putF "_names" (.ref n) []))) us zs := OVs.insU hp2 hov
  have hp3 : (upd H2 p (.ins (CT K) dx (putF "_names" (.ref n) []))) p = some (.ins (CT K) dx (putF "_names" (.ref n) [])) := upd_same
  have far3 : ∀ c u, H c = some u → (∀ ps, u ≠ .tbl ps) → c ≠ p → (upd H2 p (.ins (CT K) dx (putF "_names" (.ref n) []))) c = some u := fun c u hc nt n => by rw [upd_ne n]; exact e02 _ _ hc nt
  have T3 : Tabs (tabT K) (upd H2 p (.ins (CT K) dx (putF "_names" (.ref n) []))) := tabs_keep (TG.ext e2) fun c u hc _ ni => by rw [upd_ne (ne_of hc hp2 (ni _ _ _))]; exact hc
  have nLH : ∀ q, H2 q = none → ∀ xs, H q ≠ some (.lst xs) := fun q hq xs z => by rw [e02 _ _ z lst_tbl] at hq; cases hq
  have nm3 : ∀ c, (upd H2 p (.ins (CT K) dx (putF "_names" (.ref n) []))) c = none → H2 c = none := fun c hc => NdefX.upd_none hc
  generalize upd H2 p (.ins (CT K) dx (putF "_names" (.ref n) [])) = J at hsq hov3 hp3 far3 T3 nm3 ⊢
  have hzn : O.nods zs = true := by rw [← strips_nod, hzs]; exact axs_nod S.nod
  have hsz : ∀ z ∈ zs, z.sz ≤ 9000 := fun z hz' => by
    obtain ⟨i, hi⟩ := List.getElem?_of_mem hz'
    have := szs_le hi
    omega
  have hal := S.len
  dsimp only
  refine elp_frozen (σ := [some (.ref p), some (.ref n), some (.ref a), some .non, none]) (j := 4) (vs := [4]) (zs := zs) (ev_var (i := 2) rfl) hsq hov3 hsz hzn (by omega) (fun x => rfl) (fun x => rfl) J (Ex.refl _) _ fun D xs G3 nD eD hD hxs => ?_
  rw [hzs] at hxs
  have hp4 := eD _ _ hp3
  refine ⟨_, rfl, p, CT K, dx, _, rfl, hp4, T.iT.cl, T.nAx, by show 1 < 1000; decide, ?_⟩
  have keep : ∀ c u, G3 c = some u → c ≠ p → (upd G3 p (.ins (CT K) dx (putF "_axioms" (.ref D) (putF "_names" (.ref n) [])))) c = some u := fun c u hc n => by rw [upd_ne n]; exact hc
  have far : ∀ c u, H c = some u → (∀ ps, u ≠ .tbl ps) → c ≠ p → (upd G3 p (.ins (CT K) dx (putF "_axioms" (.ref D) (putF "_names" (.ref n) [])))) c = some u := fun c u hc nt n => keep c u (eD _ _ (far3 c u hc nt n)) n
  have hpE : (upd G3 p (.ins (CT K) dx (putF "_axioms" (.ref D) (putF "_names" (.ref n) [])))) p = some (.ins (CT K) dx (putF "_axioms" (.ref D) (putF "_names" (.ref n) []))) := upd_same
  have hDE := keep _ _ hD (ne_of hD hp4 (by intro z; cases z))
  have oE := OVs.insU (u := .ins (CT K) dx (putF "_axioms" (.ref D) (putF "_names" (.ref n) []))) hp4 hxs
  have TE : Tabs (tabT K) (upd G3 p (.ins (CT K) dx (putF "_axioms" (.ref D) (putF "_names" (.ref n) [])))) := tabs_keep (T3.ext eD) fun c u hc _ ni => by rw [upd_ne (ne_of hc hp4 (ni _ _ _))]; exact hc
  have hpo : ¬ Old H p := fun ⟨zs, hz⟩ => by rw [hp] at hz; cases hz
  have nDo : ¬ Old H D := fun ⟨ws, hw⟩ => nLH D (nm3 D nD) ws hw
  generalize upd G3 p (.ins (CT K) dx (putF "_axioms" (.ref D) (putF "_names" (.ref n) []))) = L at far hpE hDE oE TE ⊢
  have txH : Tx L (Hx (Old H) L) := ovs_tx fun c zs hc ⟨ws, hw⟩ => by
    have ne : c ≠ p := fun z => by rw [z, hpE] at hc; cases hc
    rw [far _ _ hw lst_tbl ne] at hc
    cases hc
  refine k L ⟨dx, D, _, xs, hx_of hpo (fun _ z => nomatch z) hpE, ?_, ?_, ?_, ?_, hx_of nDo lst_tbl hDE, OVs.tx txH (axs_noL S.noL) (axs_nod S.nod) oE⟩ far TE
  · rw [lookup_putF, if_neg (by decide +kernel), lookup_putF, if_pos rfl]
  · rw [lookup_putF, if_pos rfl]
  · rw [lookup_putF, if_neg (by decide +kernel), lookup_putF, if_neg (by decide +kernel)]
    rfl
  · rw [lookup_putF, if_neg (by decide +kernel), lookup_putF, if_neg (by decide +kernel)]
    rfl
end
end K02

set_option Elab.async false
set_option linter.all false
set_option maxRecDepth 100000
set_option maxHeartbeats 4000000
/-! != by an own ==. -/
namespace K02
open PySem PySem.Spec PyProof.Rows PySem.W
section
variable {prog : Program} {w : World} {A : Around} {E : Value → Shared → Prop} {s : Shared} {K : Frag} {x C L f : Addr} {h₀ : Heap} {m : Str → Option Value} {ox : Obj} {od : Option Obj} {b tb : Value}
theorem ifBound_ne {M : Model} {args : List Value} {Q : Option Value → Shared → Prop} (X : K.In s.heap) (I : InstAt s.heap x ox C od) (hs : findIn K (.ref C) "__ne__" = some (some (.builtin "object.__ne__")))
    (h : wpAny M A (call (.builtin "object.__ne__") (.ref x :: args)) (fun v => Q (some v)) E s) : wpAny M A (callSpecialIfBound? (.ref x) "__ne__" args) Q E s := by
  simp only [callSpecialIfBound?, bindSpecialIfBound?]
  refine wpAny_holding (wpAny_bind (wpAny_bind (wpAny_bind (I.type.here ((looks_findIn X hs).here ?_)))))
  simp only [PySem.F.cmp_object.ne.bind]
  refine wpAny_bind (wpAny_askSetting (wpAny_ite ?_))
  have fin : wpAny M A (call (.builtin "object.__ne__") ([.ref x] ++ args) >>= fun v => pure (some v)) Q E s := wpAny_bind (wpAny_mono h (fun v s' h' => wpAny_pure h') fun _ _ h' => h')
  split
  · exact wpAny_bind (wpAny_pure (wpAny_pure fin))
  · exact wpAny_tryCatch (wpAny_bind (wpAny_pure (wpAny_pure fin)))
theorem ne_entry {Q : Fin → Shared → Prop} {v : Bool → Shared → Prop} (hu : A.units < cLine) (X : K.In s.heap) (I : InstAt s.heap x ox C od) (hs : findIn K (.ref C) "__eq__" = some (some (.ref f))) (hf : isFn K (.ref f) = true)
    (h : wpAny (model prog w) A (call (.ref f) [.ref x, b]) (fun v s' => ∃ r, v = .bool r ∧ Q (.done (.ret (.bool (!r)))) s') E s) : wpAny (model prog w) A (Builtin.«object.__ne__» ⟨[.ref x, b], []⟩) Q E s := by
  have sp : ∀ {Q' : Option Value → Shared → Prop}, (∀ r s', Q (.done (.ret (.bool (!r)))) s' → Q' (some (.bool r)) s') → wpAny (model prog w) A (callSpecialIfBound? (.ref x) "__eq__" [b]) Q' E s := fun {Q'} k =>
    ifBound_K X I hs hf (wpAny_mono h (fun v s' ⟨r, e, q⟩ => by subst e; exact k r s' q) fun _ _ e => e)
  obtain ⟨hp, g, d, tk, os⟩ := s
  unfold Builtin.«object.__ne__»
  repeat (first | with_reducible refine wpAny_cRoomFor hu ?_ | (with_reducible refine sp (fun r s' q => ?_); obtain ⟨hp', g', d', tk', os'⟩ := s') | wp_step)
  assumption
theorem cmpNe_K {Q : Value → Shared → Prop} (hu : A.units + 1 < cLine) (F : PyProof.Rows.Fr h₀ L s.heap m) (X₀ : K.In h₀) (I : InstAt s.heap x ox C od) (hb : Looks (model prog w) s.heap (typeOf b) tb) (hn : notFirst K C tb = true)
    (hne : findIn K (.ref C) "__ne__" = some (some (.builtin "object.__ne__"))) (hob : subIn K (.ref C) (.type "object") = some true) (hs : findIn K (.ref C) "__eq__" = some (some (.ref f))) (hf : isFn K (.ref f) = true)
    (h : wpAny (model prog w) A.in1 (call (.ref f) [.ref x, b]) (fun v s' => ∃ r, v = .bool r ∧ Q (.bool (!r)) s') E s) : wpAny (model prog w) A (richCompare .NotEq (.ref x) b) Q E s := by
  have X := X₀.keeps F.keep
  have sub : Looks (model prog w) s.heap (isInstance (.ref x) (.type "object")) true := I.type.andThen (looks_subIn X hob)
  have one : wpAny (model prog w) A (tryCompare (.ref x) "__ne__" b) (fun r s' => ∃ v, r = some v ∧ Q v s') E s := by
    unfold tryCompare
    refine wpAny_bind (ifBound_ne X I hne (wpAny_call (codeAny_call_builtin PySem.F.cmp_object.ne.plain PySem.F.cmpEntry_ne (@check_slot (model prog w) _ _ s "object.__ne__" "object" "__ne__" (.ref x) [b] [] _ PySem.F.cmpKind_ne PySem.F.cmpSplit_ne sub (PySem.F.cmpArgs_ne _ _) ?_))))
    refine ne_entry (A := A.in1) (v := fun _ _ => True) hu X I hs hf (wpAny_mono h (fun v s' ⟨r, e, q⟩ => ⟨r, e, ?_⟩) fun _ _ e => e)
    exact wpAny_pure ⟨_, rfl, q⟩
  unfold richCompare
  simp only [oneThing_ref]
  refine wpAny_holding (wpAny_bind (wpAny_cRoomFor (Nat.lt_of_succ_lt hu) ?_))
  refine wpAny_bind (I.type.here (wpAny_bind (hb.here ?_)))
  split
  · rename_i q
    have e : subIn K tb (.ref C) = some false := by
      rcases Bool.or_eq_true_iff.mp hn with e | e
      · rw [beq_iff_eq.mp e] at q; simp at q
      · exact beq_iff_eq.mp e
    refine wpAny_bind ((looks_subIn X e).here ?_)
    simp only [Bool.false_eq_true, if_false]
    refine wpAny_bind (wpAny_mono one (fun r s' z => ?_) fun _ _ e => e)
    obtain ⟨v, rfl, hq⟩ := z
    exact wpAny_pure hq
  · refine wpAny_bind (wpAny_pure ?_)
    simp only [Bool.false_eq_true, if_false]
    refine wpAny_bind (wpAny_mono one (fun r s' z => ?_) fun _ _ e => e)
    obtain ⟨v, rfl, hq⟩ := z
    exact wpAny_pure hq
end
end K02
namespace L2
open PySem PySem.Spec PyProof.Rows
section
variable {X : Cx} {CX : CXT} {n : Nat} {C f : Addr} {fd : FuncData} {ps : List Str} {sp : Sp} {E : XK}
def rOwnNe (K : PySem.W.Frag) (C : Addr) (sp : Sp) (E : XK) : R2 := fun x y H Q => ∃ a dx fs, x = .ref a ∧ H a = some (.ins C dx fs) ∧ Rt K C H y ∧ sp [x, y] H (fun v H' => ∃ b, v = .bl b ∧ Q (.bl (!b)) H') E
theorem op_ownNe (F : FnOk X.prog X.w X.K X.mg X.base CX n f fd ps sp) (hr : Room (n + 1) X.A) (hne : PySem.W.findIn X.K (.ref C) "__ne__" = some (some (.builtin "object.__ne__"))) (hob : PySem.W.subIn X.K (.ref C) (.type "object") = some true)
    (hs : PySem.W.findIn X.K (.ref C) "__eq__" = some (some (.ref f))) (hf : PySem.W.isFn X.K (.ref f) = true) (hb : Binds X.K fd ps []) (hx : Passes CX X E) : OpR X (compareOp .NotEq) (rOwnNe X.K C sp E) := by
  intro pins s σ H x y v u Q I rx ry hq
  obtain ⟨a, dx, fs, rfl, ha, hy, hsp⟩ := hq
  cases rx
  obtain ⟨mA, J, _⟩ := ins_get I.hok ha
  obtain ⟨od, J, _⟩ := J.look
  obtain ⟨m, hF⟩ := I.fr
  obtain ⟨tb, ht, hn⟩ := hy.looks I ry
  have hl := F.len _ _ _ _ hsp
  have r2 : Vals [V.ref a, y] [Value.ref a, u] := .cons rfl (.cons ry .nil)
  have e0 : compareOp .NotEq (.ref a) u = richCompare .NotEq (.ref a) u := rfl
  rw [e0]
  have e1 : Env0 X.prog X.w X.K X.mg X.base X.A.in1 X.stack s H := by
    have e := I.env0
    exact ⟨e.frames, e.mod, e.bs, e.bsz, e.funs, e.frf, e.hok, e.bare⟩
  refine K02.cmpNe_K (tb := tb) hr.in1.units0 hF I.ok.mod.kin J ht hn hne hob hs hf ?_
  refine wpAny_call (codeAny_mono (F.run X.A.in1 X.stack s H ⟨[.ref a, u], []⟩ [.ref a, u] [.ref a, y] _ E hr.in1 e1 (by
    have := hb s [.ref a, u] I.kIn (by simpa using hl)
    simpa using this) r2 hsp) fun r s' hq => ?_)
  cases r with
  | error e => exact hx pins σ H s e s' I hq
  | ok fl =>
    cases fl with
    | ret w =>
      obtain ⟨z, H', I', rz, bb, ez, q⟩ := I.after hq
      subst ez
      cases rz
      exact ⟨bb, rfl, .bl (!bb), H', I', rfl, q⟩
    | next => exact False.elim hq
    | brk => exact False.elim hq
    | cont => exact False.elim hq
end
end L2

set_option Elab.async false
set_option linter.all false
set_option maxRecDepth 100000
set_option maxHeartbeats 4000000
/-! Theories and problems asked, problems made. -/
namespace K02
open PySem PySem.Spec PyProof.Rows L2 Evl LamX
/-- a problem at o, its theory at t -/
structure PbAt (K : PySem.W.Frag) (H : Hp) (o t : Addr) (g : O) : Prop where
  ex : ∃ dx fs v, H o = some (.ins (CP K) dx fs) ∧ fs.lookup ("_theory" : Str) = some (.ref t) ∧ fs.lookup ("_goal" : Str) = some v ∧ fs.lookup ("theory" : Str) = none ∧ fs.lookup ("goal" : Str) = none ∧ OV H v g
theorem PbAt.ext {K : PySem.W.Frag} {H G : Hp} {o t : Addr} {g : O} (h : PbAt K H o t g) (e : Ex H G) : PbAt K G o t g := by
  obtain ⟨dx, fs, v, h1, h2, h3, h4, h5, h6⟩ := h.ex
  exact ⟨dx, fs, v, e _ _ h1, h2, h3, h4, h5, h6.ext e⟩
theorem PbAt.extN {K : PySem.W.Frag} {H G : Hp} {o t : Addr} {g : O} (h : PbAt K H o t g) (e : ExtN H G) : PbAt K G o t g := by
  obtain ⟨dx, fs, v, h1, h2, h3, h4, h5, h6⟩ := h.ex
  exact ⟨dx, fs, v, e _ _ h1 ins_tbl, h2, h3, h4, h5, h6.extN e⟩
/-- a theory with its names -/
structure Th (K : PySem.W.Frag) (H : Hp) (o n : Addr) (ar pr : List (Str × Nat)) (axs : List (Str × O)) : Prop where
  th : ThAt K H o n axs
  nm : NmAt K H n ar pr
theorem Th.ext {K : PySem.W.Frag} {H G : Hp} {o n : Addr} {ar pr : List (Str × Nat)} {axs : List (Str × O)} (h : Th K H o n ar pr axs) (e : Ex H G) : Th K G o n ar pr axs := ⟨h.th.ext e, h.nm.ext e⟩
theorem Th.extN {K : PySem.W.Frag} {H G : Hp} {o n : Addr} {ar pr : List (Str × Nat)} {axs : List (Str × O)} (h : Th K H o n ar pr axs) (e : ExtN H G) : Th K G o n ar pr axs := ⟨h.th.extN e, h.nm.extN e⟩
section
variable {P : Program} {w : World} {K : PySem.W.Frag} {mg : Str → Option Value} {base : Heap}
theorem ThAt.ins {H : Hp} {o n : Addr} {axs : List (Str × O)} (h : ThAt K H o n axs) (T : TN P w K mg base) : Ins K H (.ref o) (CT K) := by
  obtain ⟨dx, da, fs, xs, h1, _⟩ := h.ex
  exact ⟨T.iT, o, dx, fs, rfl, h1⟩
theorem PbAt.ins {H : Hp} {o t : Addr} {g : O} (h : PbAt K H o t g) (T : TN P w K mg base) : Ins K H (.ref o) (CP K) := by
  obtain ⟨dx, fs, v, h1, _⟩ := h.ex
  exact ⟨T.iP, o, dx, fs, rfl, h1⟩
/-! ### what a theory tells -/
def spTn (K : PySem.W.Frag) : Sp := fun vs H Q _ => ∃ o n axs, vs = [.ref o] ∧ ThAt K H o n axs ∧ RetV (.ref n) H Q
theorem sc_tn : FnScope ["self"] ["self"] (defScope s_Theory_names) := ⟨rfl, rfl, rfl, by decide +kernel, rfl, by decide +kernel, by decide +kernel⟩
theorem ok_tnames {f : Addr} {fd : FuncData} (T : TN P w K mg base) (F : FunD K "names" "Theory.names" (defArgs s_Theory_names) (defBody s_Theory_names) (defScope s_Theory_names) [] [] f fd) : FnOk P w K mg base CX0 1 f fd ["self"] (spTn K) := by
  refine F.ok sc_tn (fun vs H Q E h => by obtain ⟨o, n, axs, rfl, _⟩ := h; rfl) (fun cdv A outer s H vs Q E hr h => ?_)
  obtain ⟨o, n, axs, rfl, ht, k⟩ := h
  obtain ⟨dx, da, fs, xs, h1, h2, h3, h4, h5, h6, h7⟩ := ht.ex
  exact ⟨_, pss_one (ps_ret (pe_fld (pv 0) rfl)), s_ret (ev_fld (ev_var rfl) h1 T.iT.cl T.nNm h2) k⟩
def spTa (K : PySem.W.Frag) : Sp := fun vs H Q _ => ∃ o n axs, vs = [.ref o] ∧ ThAt K H o n axs ∧ ∀ p xs G, H p = none → Ex H G → G p = some (.lst xs) → OVs G xs (axs.map axO) → Q (.ref p) G
theorem sc_ta : FnScope ["self"] ["self"] (defScope s_Theory_axioms) := ⟨rfl, rfl, rfl, by decide +kernel, rfl, by decide +kernel, by decide +kernel⟩
theorem ok_taxioms {f : Addr} {fd : FuncData} (T : TN P w K mg base) (F : FunD K "axioms" "Theory.axioms" (defArgs s_Theory_axioms) (defBody s_Theory_axioms) (defScope s_Theory_axioms) [] [] f fd) : FnOk P w K mg base CX0 2 f fd ["self"] (spTa K) := by
  refine F.ok sc_ta (fun vs H Q E h => by obtain ⟨o, n, axs, rfl, _⟩ := h; rfl) (fun cdv A outer s H vs Q E hr h => ?_)
  obtain ⟨o, n, axs, rfl, ht, k⟩ := h
  obtain ⟨dx, da, fs, xs, h1, h2, h3, h4, h5, h6, h7⟩ := ht.ex
  refine ⟨_, pss_one (ps_ret (pe_callTy call_list_of (by rfl) T.list PyProof.Rows.boot_list (pa_cons (pe_fld (pv 0) rfl) pa_nil))), ?_⟩
  exact ev_fld (te := tVar 0) (ev_var rfl) h1 T.iT.cl T.nAx h3 H (Ex.refl H) _ fun H1 e1 => ⟨da, xs, rfl, .inl (sq_of (e1 _ _ h6)), fun l hl => k l xs _ (fresh_back e1 hl) (e1.trans (Ex.new hl)) upd_same ((h7.ext e1).ext (Ex.new hl))⟩
/-! ### theories compared -/
theorem ThAt.rt {H : Hp} {o n : Addr} {axs : List (Str × O)} (h : ThAt K H o n axs) : Rt K (CT K) H (.ref o) := by
  obtain ⟨dx, da, fs, xs, h1, _⟩ := h.ex
  exact .ins h1 (.inl rfl)
def spTe (K : PySem.W.Frag) : Sp := fun vs H Q _ => ∃ a n ar pr axs y, vs = [.ref a, y] ∧ Th K H a n ar pr axs ∧ NmS ar pr ∧ AxS axs ∧
  ((∃ b m ar' pr' bxs, y = .ref b ∧ Th K H b m ar' pr' bxs ∧ NmS ar' pr' ∧ AxS bxs ∧ RetV (.bl ((eqPs ar ar' && eqPs pr pr') && eqAx axs bxs)) H Q) ∨ (NoC K H y (CT K) ∧ RetV (.bl false) H Q))
theorem sc_te : FnScope ["self", "other"] ["self", "other"] (defScope s_Theory_eq) := ⟨rfl, rfl, rfl, by decide +kernel, rfl, by decide +kernel, by decide +kernel⟩
theorem ev_isNo {σ : L2.St} {H : Hp} {te : TE} {y : V} {C : Addr} (i : InsC K C) (h : Ev te σ H y) (n : NoC K H y C) : Ev (tIsO K te C) σ H (.bl false) := by
  rcases n with ⟨o, ho⟩ | ⟨D, hD, e⟩
  · exact ev_isiD h ho i
  · exact ev_isiO h hD e
theorem ok_teq {f : Addr} {fd : FuncData} (T : TN P w K mg base) (F : FunD K "__eq__" "Theory.__eq__" (defArgs s_Theory_eq) (defBody s_Theory_eq) (defScope s_Theory_eq) [] [] f fd) : FnOk P w K mg base CX0 4 f fd ["self", "other"] (spTe K) := by
  obtain ⟨fN, fdN, MN, FN⟩ := T.mNe
  have GN := ok_neq T FN
  have bN := FN.bindsN (ps := ["self", "other"]) (fun kV doc pm an cdv ct us hl => match us, hl with | [_, _], _ => rfl)
  refine F.ok sc_te (fun vs H Q E h => by obtain ⟨a, n, ar, pr, axs, y, rfl, _⟩ := h; rfl) (fun cdv A outer s H vs Q E hr h => ?_)
  obtain ⟨a, n, ar, pr, axs, y, rfl, ha, s1, S1, h⟩ := h
  obtain ⟨dx, da, fs, xs, h1, h2, h3, h4, h5, h6, h7⟩ := ha.th.ex
  refine ⟨_, pss_one (ps_ret (pe_and (pe_callB call_isi (by rfl) T.isi PyProof.Rows.boot_isinstance (pa_cons (pv 1) (pa_cons (pe_glob (v := .ref (CT K)) rfl T.gT rfl) pa_nil)))
      (pe_and (pe_cmpR (op_own GN (hr.mono (by decide)) MN.at_ MN.fn bN pass0) (pe_fld (pv 0) rfl) (pe_fld (pv 1) rfl) (nomark _)) (pe_one (pe_cmpR (op_eqD hr.units) (pe_fld (pv 0) rfl) (pe_fld (pv 1) rfl) (nomark _)))))), ?_⟩
  rcases h with ⟨b, m, ar', pr', bxs, rfl, hb, s2, S2, k⟩ | ⟨hn, k⟩
  · obtain ⟨ex, ea, gs, ys, g1, g2, g3, g4, g5, g6, g7⟩ := hb.th.ex
    refine s_ret (ev_is (ev_andV (a := true) (ev_isiS (ev_var rfl) (hb.th.ins T)) fun _ => ev_andV (ev_op (ev_fld (ev_var rfl) h1 T.iT.cl T.nNm h2) (ev_fld (ev_var rfl) g1 T.iT.cl T.nNm g2) (rv_ownN ha.nm hb.nm s1 s2))
      fun _ => ev_op (ev_fld (ev_var rfl) h1 T.iT.cl T.nAx h3) (ev_fld (ev_var rfl) g1 T.iT.cl T.nAx g3) (rv_eqD (a := .lst (axs.map axO)) (b := .lst (bxs.map axO)) ⟨_, _, rfl, h6, h7⟩ ⟨_, _, rfl, g6, g7⟩ (axs_ed S1.ss S1.ed) (axs_ed S2.ss S2.ed) (Nat.succ_le_succ (axs_dp S1.dp)) (Nat.succ_le_succ (axs_dp S2.dp)))) rfl) k
  · exact s_ret (ev_andV (a := false) (b := false) (ev_isNo T.iT (ev_var rfl) hn) fun z => nomatch z) k
theorem rv_ownT {H : Hp} {a b n m : Addr} {ar pr ar' pr' : List (Str × Nat)} {axs bxs : List (Str × O)} {E : XK} (h1 : Th K H a n ar pr axs) (h2 : Th K H b m ar' pr' bxs) (s1 : NmS ar pr) (s2 : NmS ar' pr') (S1 : AxS axs) (S2 : AxS bxs) :
    RV (rOwn K (CT K) (spTe K) E) (.ref a) (.ref b) H (.bl ((eqPs ar ar' && eqPs pr pr') && eqAx axs bxs)) := fun H1 e Q q => by
  have h1 := h1.ext e
  have h2 := h2.ext e
  obtain ⟨dx, da, fs, xs, g1, _⟩ := h1.th.ex
  exact ⟨a, dx, fs, rfl, g1, h2.th.rt, a, n, ar, pr, axs, _, rfl, h1, s1, S1, .inl ⟨b, m, ar', pr', bxs, rfl, h2, s2, S2, fun H2 e2 => ⟨_, rfl, q H2 e2⟩⟩⟩
/-! ### check_theory -/
theorem sc_ct : FnScope ["theory"] ["theory"] (defScope s_check_theory) := ⟨rfl, rfl, rfl, by decide +kernel, rfl, by decide +kernel, by decide +kernel⟩
theorem ok_check_theory (T : TN P w K mg base) : Ok P w K mg base (L2.CX P w) "check_theory" ["theory"] 4 (spCk K "BadTheory" (CT K)) := by
  refine T.toT02.okX 20 rfl sc_ct (fun vs H Q E h => by obtain ⟨v, rfl, _⟩ := h; rfl) (fun kV doc pm an cdv ct us hl => match us, hl with | [_], _ => rfl) (fun f cdv A outer s H vs Q E hr h => ?_)
  obtain ⟨v, rfl, h⟩ := h
  refine ⟨_, pss_one (ps_if (pt_not (pt_val (pe_callB call_isi (by rfl) T.isi PyProof.Rows.boot_isinstance (pa_cons (pv 0) (pa_cons (pe_glob (v := .ref (CT K)) rfl T.gT rfl) pa_nil))))) (pss_one (ps_raiseE rfl T.toT02.bth (takes_of rfl rfl rfl rfl) (hr.mono (by decide)) (pv 0))) pss_nil), ?_⟩
  rcases h with ⟨i, k⟩ | ⟨hn, k⟩
  · exact s_when (b := false) (et_not (a := true) (et_B (ev_isiS (ev_var rfl) i))) (fun z => nomatch z) fun _ H1 e1 => k H1 e1
  · exact s_when (b := true) (et_not (a := false) (et_B (ev_isNo T.iT (ev_var rfl) hn))) (fun _ H1 e1 => s_raise T.toT02.bth (ev_var rfl) fun d G e hd => k d G (e1.trans e) hd) (fun z => nomatch z)
/-! ### problems -/
def spPbi (K : PySem.W.Frag) : Sp := fun vs H Q E => ∃ (p dx : Addr) (vt vg : V), vs = [.ref p, vt, vg] ∧ H p = some (.ins (CP K) dx []) ∧
  ((NoC K H vt (CT K) ∧ Bad K "BadTheory" vt H E) ∨ ∃ (t n : Addr) (ar pr : List (Str × Nat)) (axs : List (Str × O)), vt = .ref t ∧ Th K H t n ar pr axs ∧ (ar.map (·.1)).Nodup ∧ (pr.map (·.1)).Nodup ∧
    (((∃ C, Ins K H vg C) ∧ Bad K "BadGoal" vg H E) ∨ ∃ o, OV H vg o ∧ SOk o ∧ ((o.fitS ar pr [] = false ∧ Bad K "BadGoal" vg H E) ∨ (o.fitS ar pr [] = true ∧ o.nod = true ∧
      ∀ H', PbAt K (Hx (Old H) H') p t o.strip → (∀ b u, H b = some u → b ≠ p → H' b = some u) → Q .non H'))))
theorem sc_pi : FnScope ["self", "theory", "goal"] ["self", "theory", "goal"] (defScope s_Problem_init) := ⟨rfl, rfl, rfl, by decide +kernel, rfl, by decide +kernel, by decide +kernel⟩
theorem ok_pinit {f : Addr} {fd : FuncData} (T : TN P w K mg base) (F : FunD K "__init__" "Problem.__init__" (defArgs s_Problem_init) (defBody s_Problem_init) (defScope s_Problem_init) [] [] f fd) : FnOk P w K mg base (L2.CX P w) 8 f fd ["self", "theory", "goal"] (spPbi K) := by
  obtain ⟨fC, dC, GC, bC, kC, mC⟩ := (ok_check_theory T).ex
  obtain ⟨fI, dI, GI, bI, kI, mI⟩ := (ok_is_closed T).ex
  obtain ⟨fZ, dZ, GZ, bZ, kZ, mZ⟩ := (ok_frozen T.toT02).ex
  obtain ⟨fN, fdN, MN, FN⟩ := T.mNm
  have GN := ok_tnames T FN
  have bN := FN.bindsN (ps := ["self"]) (fun kV doc pm an cdv ct us hl => match us, hl with | [_], _ => rfl)
  refine F.ok sc_pi (fun vs H Q E h => by obtain ⟨p, dx, vt, vg, rfl, _⟩ := h; rfl) (fun cdv A outer s H vs Q E hr h => ?_)
  obtain ⟨p, dx, vt, vg, rfl, hp, h⟩ := h
  refine ⟨_, pss_cons (ps_expr (pe_callS GC (hr.mono (by decide)) (by rfl) mC kC bC (fun σ => passAt (takes_of rfl rfl rfl rfl) σ) (pa_cons (pv 1) pa_nil)))
    (pss_cons (ps_if (pt_not (pt_val (pe_call GI (hr.mono (by decide)) (by rfl) mI kI bI .nil pass0 (pa_cons (pe_meth0 (pv 1) T.iT.cl MN GN (hr.mono (by decide)) bN .nil pass0) (pa_cons (pv 2) pa_nil))))) (pss_one (ps_raiseE rfl T.toT02.bgo (takes_of rfl rfl rfl rfl) (hr.mono (by decide)) (pv 2))) pss_nil)
    (pss_cons (ps_fld (pv 0) (pv 1) rfl)
    (pss_one (ps_fld (pv 0) (pe_call GZ (hr.mono (by decide)) (by rfl) mZ kZ bZ .nil pass0 (pa_cons (pv 2) pa_nil)) rfl)))), ?_⟩
  rcases h with ⟨hno, k⟩ | ⟨t, n, ar, pr, axs, rfl, ht, na, np, h⟩
  · exact ⟨_, rfl, vt, rfl, .inr ⟨hno, k⟩⟩
  refine ⟨_, rfl, _, rfl, .inl ⟨ht.th.ins T, fun H1 e1 => ?_⟩⟩
  have ht1 := ht.ext e1
  have evm : ∀ {G : Hp} {σ : L2.St}, Th K G t n ar pr axs → σ[1]? = some (some (.ref t)) → Ev (tMeth (CT K) "names" (spTn K) [] E0 (tVar 1) tNil) σ G (.ref n) := fun {G σ} hG h1 G1 e Q q => by
    have hG1 := hG.ext e
    obtain ⟨dx, da, fs, xs, g1, g2, g3, g4, _⟩ := hG1.th.ex
    exact ⟨.ref t, h1, t, dx, fs, rfl, g1, g4, t, n, axs, rfl, hG1.th, fun H2 e2 => q H2 e2⟩
  have evc : ∀ b : Bool, (∀ J, Ex H1 J → ∀ Q' E', RetV (.bl b) J Q' → spIc K [.ref n, vg] J Q' E') → EvT (tB (tCall (spIc K) [] E0 (tCons (tMeth (CT K) "names" (spTn K) [] E0 (tVar 1) tNil) (tCons (tVar 2) tNil)))) (L2.start ["self", "theory", "goal"] [.ref p, .ref t, vg]) H1 b := fun b hc =>
    et_B (ev_call (ea_cons (evm ht1 rfl) (ea_cons (ev_var rfl) ea_nil)) fun J eJ Q' q' E' => hc J eJ Q' E' q')
  rcases h with ⟨hi, k⟩ | ⟨o, ho, S, ⟨hf, k⟩ | ⟨hf, hnd, k⟩⟩
  · refine q_when (b := true) (et_not (a := false) (evc false fun J eJ Q' E' q' => ⟨n, vg, ar, pr, rfl, (ht1.ext eJ).nm, na, np, .inr ⟨let ⟨C, hC⟩ := hi; ⟨C, hC.ext (e1.trans eJ)⟩, q'⟩⟩)) (fun _ H2 e2 => ?_) fun z => nomatch z
    exact s_raise T.toT02.bgo (ev_var rfl) fun d G e hd => k d G ((e1.trans e2).trans e) hd
  · refine q_when (b := true) (et_not (a := false) (evc false fun J eJ Q' E' q' => ⟨n, vg, ar, pr, rfl, (ht1.ext eJ).nm, na, np, .inl ⟨o, ho.ext (e1.trans eJ), S, by rw [hf]; exact q'⟩⟩)) (fun _ H2 e2 => ?_) fun z => nomatch z
    exact s_raise T.toT02.bgo (ev_var rfl) fun d G e hd => k d G ((e1.trans e2).trans e) hd
  refine q_when (b := false) (et_not (a := true) (evc true fun J eJ Q' E' q' => ⟨n, vg, ar, pr, rfl, (ht1.ext eJ).nm, na, np, .inl ⟨o, ho.ext (e1.trans eJ), S, by rw [hf]; exact q'⟩⟩)) (fun z => nomatch z) fun _ H2 e2 => ?_
  have e12 := e1.trans e2
  have hp2 := e12 _ _ hp
  refine ⟨_, rfl, _, rfl, p, CP K, dx, [], rfl, hp2, T.iP.cl, T.nTh, by show 0 < 1000; decide, ?_⟩
  have ho3 : OV (upd H2 p (.ins (CP K) dx (putF "_theory" (.ref t) []))) vg o := OV.insU hp2 (ho.ext e12)
  have hp3 : (upd H2 p (.ins (CP K) dx (putF "_theory" (.ref t) []))) p = some (.ins (CP K) dx (putF "_theory" (.ref t) [])) := upd_same
  have far3 : ∀ c u, H c = some u → c ≠ p → (upd H2 p (.ins (CP K) dx (putF "_theory" (.ref t) []))) c = some u := fun c u hc n => by rw [upd_ne n]; exact e12 _ _ hc
  generalize upd H2 p (.ins (CP K) dx (putF "_theory" (.ref t) [])) = J at ho3 hp3 far3 ⊢
  dsimp only
  refine ⟨vg, rfl, vg, o, rfl, ho3, by have := S.sz; omega, hnd, fun g G eG hg => ?_⟩
  have hp4 := eG _ _ hp3
  refine ⟨_, rfl, p, CP K, dx, _, rfl, hp4, T.iP.cl, T.nGo, by show 1 < 1000; decide, ?_⟩
  have far : ∀ c u, H c = some u → c ≠ p → (upd G p (.ins (CP K) dx (putF "_goal" g (putF "_theory" (.ref t) [])))) c = some u := fun c u hc n => by rw [upd_ne n]; exact eG _ _ (far3 c u hc n)
  have hpE : (upd G p (.ins (CP K) dx (putF "_goal" g (putF "_theory" (.ref t) [])))) p = some (.ins (CP K) dx (putF "_goal" g (putF "_theory" (.ref t) []))) := upd_same
  have hgE : OV (upd G p (.ins (CP K) dx (putF "_goal" g (putF "_theory" (.ref t) [])))) g o.strip := OV.insU hp4 hg
  have hpo : ¬ Old H p := fun ⟨zs, hz⟩ => by rw [hp] at hz; cases hz
  generalize upd G p (.ins (CP K) dx (putF "_goal" g (putF "_theory" (.ref t) []))) = L at far hpE hgE ⊢
  have txH : Tx L (Hx (Old H) L) := ovs_tx fun c zs hc ⟨ws, hw⟩ => by
    have ne : c ≠ p := fun z => by rw [z, hpE] at hc; cases hc
    rw [far _ _ hw ne] at hc
    cases hc
  refine k L ⟨dx, _, g, hx_of hpo (fun _ z => nomatch z) hpE, ?_, ?_, ?_, ?_, OV.tx txH (strip_noL o) (by rw [strip_nod]; exact hnd) hgE⟩ far
  · rw [lookup_putF, if_neg (by decide +kernel), lookup_putF, if_pos rfl]
  · rw [lookup_putF, if_pos rfl]
  · rw [lookup_putF, if_neg (by decide +kernel), lookup_putF, if_neg (by decide +kernel)]
    rfl
  · rw [lookup_putF, if_neg (by decide +kernel), lookup_putF, if_neg (by decide +kernel)]
    rfl
def spPbt (K : PySem.W.Frag) : Sp := fun vs H Q _ => ∃ o t g, vs = [.ref o] ∧ PbAt K H o t g ∧ RetV (.ref t) H Q
theorem sc_pt : FnScope ["self"] ["self"] (defScope s_Problem_theory) := ⟨rfl, rfl, rfl, by decide +kernel, rfl, by decide +kernel, by decide +kernel⟩
theorem ok_ptheory {f : Addr} {fd : FuncData} (T : TN P w K mg base) (F : FunD K "theory" "Problem.theory" (defArgs s_Problem_theory) (defBody s_Problem_theory) (defScope s_Problem_theory) [] [] f fd) : FnOk P w K mg base CX0 1 f fd ["self"] (spPbt K) := by
  refine F.ok sc_pt (fun vs H Q E h => by obtain ⟨o, t, g, rfl, _⟩ := h; rfl) (fun cdv A outer s H vs Q E hr h => ?_)
  obtain ⟨o, t, g, rfl, hp, k⟩ := h
  obtain ⟨dx, fs, v, h1, h2, h3, h4, h5, h6⟩ := hp.ex
  exact ⟨_, pss_one (ps_ret (pe_fld (pv 0) rfl)), s_ret (ev_fld (ev_var rfl) h1 T.iP.cl T.nTh h2) k⟩
def spPbg (K : PySem.W.Frag) : Sp := fun vs H Q _ => ∃ o t g, vs = [.ref o] ∧ PbAt K H o t g ∧ ∀ v G, Ex H G → OV H v g → Q v G
theorem sc_pg : FnScope ["self"] ["self"] (defScope s_Problem_goal) := ⟨rfl, rfl, rfl, by decide +kernel, rfl, by decide +kernel, by decide +kernel⟩
theorem ok_pgoal {f : Addr} {fd : FuncData} (T : TN P w K mg base) (F : FunD K "goal" "Problem.goal" (defArgs s_Problem_goal) (defBody s_Problem_goal) (defScope s_Problem_goal) [] [] f fd) : FnOk P w K mg base CX0 1 f fd ["self"] (spPbg K) := by
  refine F.ok sc_pg (fun vs H Q E h => by obtain ⟨o, t, g, rfl, _⟩ := h; rfl) (fun cdv A outer s H vs Q E hr h => ?_)
  obtain ⟨o, t, g, rfl, hp, k⟩ := h
  obtain ⟨dx, fs, v, h1, h2, h3, h4, h5, h6⟩ := hp.ex
  exact ⟨_, pss_one (ps_ret (pe_fld (pv 0) rfl)), s_ret (ev_fld (ev_var rfl) h1 T.iP.cl T.nGo h3) fun G e => k v G e h6⟩
/-- a sentence that may be compared -/
structure GoS (o : O) : Prop where
  ed : o.ed = true
  pu : o.pu = true
  dp : o.dp ≤ 62
def spPbe (K : PySem.W.Frag) : Sp := fun vs H Q _ => ∃ a t n ar pr axs g y, vs = [.ref a, y] ∧ PbAt K H a t g ∧ Th K H t n ar pr axs ∧ NmS ar pr ∧ AxS axs ∧ GoS g ∧
  ((∃ b u m ar' pr' bxs g', y = .ref b ∧ PbAt K H b u g' ∧ Th K H u m ar' pr' bxs ∧ NmS ar' pr' ∧ AxS bxs ∧ GoS g' ∧ RetV (.bl (((eqPs ar ar' && eqPs pr pr') && eqAx axs bxs) && g.eqv g')) H Q) ∨ (NoC K H y (CP K) ∧ RetV (.bl false) H Q))
theorem sc_pe : FnScope ["self", "other"] ["self", "other"] (defScope s_Problem_eq) := ⟨rfl, rfl, rfl, by decide +kernel, rfl, by decide +kernel, by decide +kernel⟩
theorem ok_peq {f : Addr} {fd : FuncData} (T : TN P w K mg base) (F : FunD K "__eq__" "Problem.__eq__" (defArgs s_Problem_eq) (defBody s_Problem_eq) (defScope s_Problem_eq) [] [] f fd) : FnOk P w K mg base CX0 5 f fd ["self", "other"] (spPbe K) := by
  obtain ⟨fN, fdN, MN, FN⟩ := T.mTe
  have GN := ok_teq T FN
  have bN := FN.bindsN (ps := ["self", "other"]) (fun kV doc pm an cdv ct us hl => match us, hl with | [_, _], _ => rfl)
  refine F.ok sc_pe (fun vs H Q E h => by obtain ⟨a, t, n, ar, pr, axs, g, y, rfl, _⟩ := h; rfl) (fun cdv A outer s H vs Q E hr h => ?_)
  obtain ⟨a, t, n, ar, pr, axs, g, y, rfl, hp, ha, s1, S1, G1, h⟩ := h
  obtain ⟨dx, fs, v, h1, h2, h3, h4, h5, h6⟩ := hp.ex
  refine ⟨_, pss_one (ps_ret (pe_and (pe_callB call_isi (by rfl) T.isi PyProof.Rows.boot_isinstance (pa_cons (pv 1) (pa_cons (pe_glob (v := .ref (CP K)) rfl T.gP rfl) pa_nil)))
      (pe_and (pe_cmpR (op_own GN (hr.mono (by decide)) MN.at_ MN.fn bN pass0) (pe_fld (pv 0) rfl) (pe_fld (pv 1) rfl) (nomark _)) (pe_one (pe_cmpR (op_eqD hr.units) (pe_fld (pv 0) rfl) (pe_fld (pv 1) rfl) (nomark _)))))), ?_⟩
  rcases h with ⟨b, u, m, ar', pr', bxs, g', rfl, hq, hb, s2, S2, G2, k⟩ | ⟨hn, k⟩
  · obtain ⟨ex, gs, v', g1, g2, g3, g4, g5, g6⟩ := hq.ex
    refine s_ret (ev_is (ev_andV (a := true) (ev_isiS (ev_var rfl) (hq.ins T)) fun _ => ev_andV (ev_op (ev_fld (ev_var rfl) h1 T.iP.cl T.nTh h2) (ev_fld (ev_var rfl) g1 T.iP.cl T.nTh g2) (rv_ownT ha hb s1 s2 S1 S2))
      fun _ => ev_op (ev_fld (ev_var rfl) h1 T.iP.cl T.nGo h3) (ev_fld (ev_var rfl) g1 T.iP.cl T.nGo g3) (rv_eqD h6 g6 G1.ed G2.ed (Nat.le_trans G1.dp (by decide)) (Nat.le_trans G2.dp (by decide)))) rfl) k
  · exact s_ret (ev_andV (a := false) (b := false) (ev_isNo T.iP (ev_var rfl) hn) fun z => nomatch z) k
end
end K02

set_option Elab.async false
set_option linter.all false
set_option maxRecDepth 100000
set_option maxHeartbeats 4000000
/-! What is drawn: names with places; data without lists. -/
namespace K02
open PySem PySem.Spec PyProof.Rows L2 Evl LamX
/-- drawn data: texts and tuples -/
structure Dr (o : O) (d z : Nat) : Prop where
  noL : o.hasL = false
  nod : o.nod = true
  wd : o.wd = true
  pu : o.pu = true
  ss : o.ss = true
  hok : o.hok = true
  dp : o.dp ≤ d
  sz : o.sz ≤ z
theorem Dr.mono {o : O} {d z d' z' : Nat} (h : Dr o d z) (hd : d ≤ d') (hz : z ≤ z') : Dr o d' z' := ⟨h.noL, h.nod, h.wd, h.pu, h.ss, h.hok, Nat.le_trans h.dp hd, Nat.le_trans h.sz hz⟩
theorem Dr.str {s : Str} (h : s ∈ SS) : Dr (.str s) 0 1 := ⟨rfl, rfl, List.contains_iff_mem.mpr h, rfl, List.contains_iff_mem.mpr h, rfl, Nat.le_refl _, Nat.le_refl _⟩
/-- a tuple of a text and drawn data -/
theorem Dr.tup {s : Str} {os : List O} {d z : Nat} (hs : s ∈ SS) (h : ∀ o ∈ os, Dr o d z) : Dr (.tup (.str s :: os)) (d + 1) (os.length * z + 2) := by
  have h1 := (Dr.str hs)
  have key : ∀ os : List O, (∀ o ∈ os, Dr o d z) → O.hasLs os = false ∧ O.nods os = true ∧ O.wds os = true ∧ O.pus os = true ∧ O.sss os = true ∧ O.hoks os = true ∧ O.dps os ≤ d ∧ O.szs os ≤ os.length * z := by
    intro os
    induction os with
    | nil => intro _; exact ⟨rfl, rfl, rfl, rfl, rfl, rfl, Nat.zero_le _, Nat.zero_le _⟩
    | cons o os ih =>
      intro h
      have a := h o (by simp)
      obtain ⟨b1, b2, b3, b4, b5, b6, b7, b8⟩ := ih fun x hx => h x (by simp [hx])
      refine ⟨?_, ?_, ?_, ?_, ?_, ?_, Nat.max_le.mpr ⟨a.dp, b7⟩, ?_⟩
      · show (o.hasL || O.hasLs os) = false; rw [a.noL, b1]; rfl
      · show (o.nod && O.nods os) = true; rw [a.nod, b2]; rfl
      · show (o.wd && O.wds os) = true; rw [a.wd, b3]; rfl
      · show (o.pu && O.pus os) = true; rw [a.pu, b4]; rfl
      · show (o.ss && O.sss os) = true; rw [a.ss, b5]; rfl
      · show (o.hok && O.hoks os) = true; rw [a.hok, b6]; rfl
      · show o.sz + O.szs os ≤ _
        have := a.sz
        rw [List.length_cons, Nat.succ_mul]
        omega
  obtain ⟨b1, b2, b3, b4, b5, b6, b7, b8⟩ := key os h
  refine ⟨?_, ?_, ?_, ?_, ?_, ?_, Nat.succ_le_succ (Nat.max_le.mpr ⟨Nat.zero_le _, b7⟩), ?_⟩
  · show (false || O.hasLs os) = false; rw [b1]; rfl
  · show (true && O.nods os) = true; rw [b2]; rfl
  · show (SS.contains s && O.wds os) = true; rw [List.contains_iff_mem.mpr hs, b3]; rfl
  · show (true && O.pus os) = true; rw [b4]; rfl
  · show (SS.contains s && O.sss os) = true; rw [List.contains_iff_mem.mpr hs, b5]; rfl
  · show (hdL (.str s :: os) && (true && O.hoks os)) = true
    have : hdL (.str s :: os) = true := by cases os <;> rfl
    rw [this, b6]; rfl
  · show (1 + O.szs os) + 1 ≤ _
    omega
def pool1 : List Str := ["c", "d", "a", "b", "f", "g", "h", "next", "plus", "c1", "zero", "eightsgn"]
def pool2 : List Str := ["p", "q", "r", "s", "less", "even", "odd9", "man", "p1"]
theorem pool_ok : (pool1 ++ pool2).all (fun s => nameB s && SS.contains s) = true := by decide +kernel
theorem pool_dj : ∀ s ∈ pool1, s ∉ pool2 := by decide +kernel
/-- drawn names -/
structure Raw (ar pr : List (Str × Nat)) : Prop where
  n1 : ∀ r ∈ ar, r.1 ∈ pool1 ∧ r.2 ≤ 2
  n2 : ∀ r ∈ pr, r.1 ∈ pool2 ∧ r.2 ≤ 2
  d1 : (ar.map (·.1)).Nodup
  d2 : (pr.map (·.1)).Nodup
  s1 : Sd ar
  s2 : Sd pr
  l1 : ar.length ≤ 12
  l2 : pr.length ≤ 12
theorem Raw.ns {ar pr : List (Str × Nat)} (R : Raw ar pr) {s : Str} {n : Nat} (h : (s, n) ∈ ar ++ pr) : nameB s = true ∧ s ∈ SS ∧ n ≤ 2 := by
  have hs : s ∈ pool1 ++ pool2 ∧ n ≤ 2 := by
    rcases List.mem_append.mp h with h | h
    · exact ⟨List.mem_append_left _ (R.n1 _ h).1, (R.n1 _ h).2⟩
    · exact ⟨List.mem_append_right _ (R.n2 _ h).1, (R.n2 _ h).2⟩
  have := List.all_eq_true.mp pool_ok s hs.1
  rw [Bool.and_eq_true] at this
  exact ⟨this.1, List.contains_iff_mem.mp this.2, hs.2⟩
theorem Raw.nms {ar pr : List (Str × Nat)} (R : Raw ar pr) : NmS ar pr := fun r hr => (R.ns (s := r.1) (n := r.2) hr).2.1
theorem Raw.nd {ar pr : List (Str × Nat)} (R : Raw ar pr) : ((ar ++ pr).map (·.1)).Nodup := by
  rw [List.map_append, List.nodup_append]
  refine ⟨R.d1, R.d2, fun a ha b hb e => ?_⟩
  obtain ⟨r, hr, rfl⟩ := List.mem_map.mp ha
  obtain ⟨q, hq, rfl⟩ := List.mem_map.mp hb
  exact pool_dj _ (R.n1 r hr).1 (e ▸ (R.n2 q hq).1)
theorem Raw.ok {ar pr ps qs : List (Str × Nat)} (R : Raw ar pr) (h1 : ps.Perm ar) (h2 : qs.Perm pr) : NsOk ps qs := by
  refine ⟨fun r hr => ?_, ?_, by rw [h1.length_eq]; exact Nat.le_trans R.l1 (by decide), by rw [h2.length_eq]; exact Nat.le_trans R.l2 (by decide)⟩
  · have := R.ns (s := r.1) (n := r.2) ((h1.append h2).mem_iff.mp hr)
    exact ⟨this.1, this.2.1, by omega⟩
  · exact ((h1.append h2).map (·.1)).nodup_iff.mpr R.nd
theorem arl_mem : ∀ {ar : List (Str × Nat)} {s : Str} {n : Nat}, (ar.map (·.1)).Nodup → (s, n) ∈ ar → arl ar s = some n
  | [], _, _, _, h => by cases h
  | r :: ar, s, n, nd, h => by
    have nd := List.nodup_cons.mp nd
    unfold arl
    rw [List.find?_cons]
    rcases List.mem_cons.mp h with rfl | h
    · rw [decide_eq_true (by rfl)]
      rfl
    · have ne : r.1 ≠ s := fun e => nd.1 (List.mem_map.mpr ⟨(s, n), h, e.symm⟩)
      rw [decide_eq_false ne]
      exact arl_mem nd.2 h
theorem arl_none {ar : List (Str × Nat)} {s : Str} (h : ∀ r ∈ ar, r.1 ≠ s) : arl ar s = none := by
  unfold arl
  rw [List.find?_eq_none.mpr fun r hr => by simp [h r hr]]
  rfl
theorem arl_some {ar : List (Str × Nat)} {s : Str} {n : Nat} (h : arl ar s = some n) : (s, n) ∈ ar := by
  unfold arl at h
  obtain ⟨r, h1, h2⟩ := Option.map_eq_some_iff.mp h
  have h3 : r.1 = s := by simpa using List.find?_some h1
  have h4 := List.mem_of_find?_eq_some h1
  obtain ⟨a, b⟩ := r
  obtain rfl : a = s := h3
  obtain rfl : b = n := h2
  exact h4
/-- the drawn names in the heap -/
structure RwV (H : Hp) (p q rt : Addr) (ar pr : List (Str × Nat)) : Prop where
  ex : ∃ a b xs ys, H rt = some (.tup [.ref a, .ref b]) ∧ a ≠ p ∧ a ≠ q ∧ b ≠ p ∧ b ≠ q ∧ H a = some (.lst xs) ∧ H b = some (.lst ys) ∧ OVs H xs (ar.map prO) ∧ OVs H ys (pr.map prO)
theorem RwV.ext {H G : Hp} {p q rt : Addr} {ar pr : List (Str × Nat)} (h : RwV H p q rt ar pr) (e : Ex H G) : RwV G p q rt ar pr := by
  obtain ⟨a, b, xs, ys, h1, n1, n2, n3, n4, h2, h3, h4, h5⟩ := h.ex
  exact ⟨a, b, xs, ys, e _ _ h1, n1, n2, n3, n4, e _ _ h2, e _ _ h3, h4.ext e, h5.ext e⟩
theorem RwV.but {H G : Hp} {p q rt : Addr} {ar pr : List (Str × Nat)} {n : Int} (h : RwV H p q rt ar pr) (S : Spr H p q n) (B : But p q H G) : RwV G p q rt ar pr := by
  obtain ⟨a, b, xs, ys, h1, n1, n2, n3, n4, h2, h3, h4, h5⟩ := h.ex
  have tx := S.tx B
  exact ⟨a, b, xs, ys, tx _ _ h1, n1, n2, n3, n4, B _ _ n1 n2 h2, B _ _ n3 n4 h3, OVs.tx tx (prs_noL _) (prs_nod _) h4, OVs.tx tx (prs_noL _) (prs_nod _) h5⟩
section
variable {K : PySem.W.Frag} {σ : L2.St} {H G : Hp} {te tl : TE} {tt : TT} {a : Addr} {xs : List V} {ar : List (Str × Nat)} {j1 j2 : Nat} {vs : List Nat}
/-- [(..) for x, y in xs if ..], pairs filtered, told in new tuples -/
theorem elp_flt {f : Str × Nat → Bool} {ys : Str × Nat → List V} {os : Str × Nat → List O} (h : Ev tl σ H (.ref a)) (ha : H a = some (.lst xs)) (hx : OVs H xs (ar.map prO)) (hl : ar.length ≤ 1000) (hy : ∀ r J, OVs J (ys r) (os r)) (hn : ∀ r, O.hasLs (os r) = false ∧ O.nods (os r) = true)
    (hw : ∀ x y, wipe (((wipe σ vs).set j1 (some x)).set j2 (some y)) vs = wipe σ vs)
    (ht : ∀ r J, EvT tt (((wipe σ vs).set j1 (some (.str r.1))).set j2 (some (.int (r.2 : Nat)))) J (f r)) (he : ∀ r J, EvU te (((wipe σ vs).set j1 (some (.str r.1))).set j2 (some (.int (r.2 : Nat)))) J (ys r)) :
    EvLP (tLc (iList K tl) (gPair K j1 j2) tt te vs) σ H (fun zs G => OVs G zs ((ar.filter f).map fun r => .tup (os r))) := fun H1 e1 Q q => by
  have ha1 := e1 _ _ ha
  have hx1 := hx.ext e1
  have hlen : xs.length = ar.length := by rw [hx.length, List.length_map]
  have noL : ∀ l : List (Str × Nat), O.hasLs (l.map fun r => .tup (os r)) = false := fun l => by
    induction l with
    | nil => rfl
    | cons r l ih => show (O.hasLs (os r) || O.hasLs (l.map fun r => .tup (os r))) = false; rw [(hn r).1, ih]; rfl
  have nod : ∀ l : List (Str × Nat), O.nods (l.map fun r => .tup (os r)) = true := fun l => by
    induction l with
    | nil => rfl
    | cons r l ih => show (O.nods (os r) && O.nods (l.map fun r => .tup (os r))) = true; rw [(hn r).2, ih]; rfl
  refine h H1 e1 _ fun G0 e0 => ⟨a, rfl, ⟨xs, sq_of (e0 _ _ ha1)⟩, fun D hD => ?_⟩
  have hx0 := hx1.ext e0
  refine lc_it (walk_list (K := K) (a := a) (xs := xs)) (fun i G => Ex G0 G ∧ ∃ acc, G D = some (.lst acc) ∧ acc.length ≤ i ∧ OVs G acc (((ar.take i).filter f).map fun r => .tup (os r))) ⟨Ex.new hD, [], upd_same, Nat.le_refl _, rfl⟩ (fun i G _ q => sq_of (q.1 _ _ (e0 _ _ ha1))) ?_ ?_
  · rintro i x G G' hi ⟨q1, acc, q2, q3, q4⟩ ⟨rfl, hxi⟩
    obtain ⟨o, ho, hox⟩ := (hx0.ext q1).get hxi
    rw [List.getElem?_map] at ho
    obtain ⟨r, hr, rfl⟩ := Option.map_eq_some_iff.mp ho
    obtain ⟨c, ws, rfl, hc, w1, ws1, rfl, o1, w2, ws2, rfl, o2, h0⟩ := hox
    obtain rfl : ws2 = [] := h0
    obtain rfl : w1 = .str r.1 := o1
    obtain rfl : w2 = .int (r.2 : Nat) := o2
    refine ⟨c, _, rfl, st_of hc, rfl, _, _, rfl, _, _, rfl, rfl, hw _ _, ?_⟩
    refine ht r _ _ (Ex.refl _) _ fun H3 e3 => ?_
    have e1 : ar.take (i + 1) = ar.take i ++ [r] := by rw [List.take_succ, hr]; rfl
    cases hf : f r with
    | false =>
      rw [if_neg (by decide)]
      refine ⟨q1.trans e3, acc, e3 _ _ q2, by omega, ?_⟩
      rw [e1, List.filter_append, List.filter_cons_of_neg (by rw [hf]; decide), List.filter_nil, List.append_nil]
      exact q4.ext e3
    | true =>
      rw [if_pos rfl]
      refine he r _ _ (Ex.refl _) _ fun t H4 nt e4 h4 => ⟨acc, e4 _ _ (e3 _ _ q2), sz_lt (by omega), Ex.mut ((q1.trans e3).trans e4) hD, acc ++ [.ref t], upd_same, by simp; omega, ?_⟩
      have tx := Tx.lst (o := .lst (acc ++ [.ref t])) (e4 _ _ (e3 _ _ q2))
      rw [e1, List.filter_append, List.filter_cons_of_pos (by rw [hf]), List.filter_nil, List.map_append]
      exact OVs.append (OVs.tx ((Tx.of (e3.trans e4)).trans tx) (noL _) (nod _) q4) (.cons ⟨t, ys r, rfl, tx _ _ h4, hy r _⟩ .nil)
  rintro H3 ⟨e3, acc, hD3, _, ho3⟩
  rw [hlen, List.take_length] at ho3
  exact q D acc H3 (fresh_back e0 hD) (e0.trans e3) hD3 ho3
end
end K02

set_option Elab.async false
set_option linter.all false
set_option maxRecDepth 100000
set_option maxHeartbeats 4000000
/-! Drawn words. -/
namespace K02
open PySem PySem.Spec PyProof.Rows L2 Evl LamX
section
variable {K : PySem.W.Frag} {H G : Hp} {σ : L2.St} {te tl ta' tb : TE} {ta : TA} {tt : TT} {v : V} {vs : List Nat} {D : Ends} {tz tu : TS}
theorem eds_all : ∀ {os : List O}, O.eds os = true ↔ ∀ o ∈ os, o.ed = true
  | [] => ⟨fun _ o h => (nomatch h), fun _ => rfl⟩
  | x :: xs => by
    have ih := eds_all (os := xs)
    show (x.ed && O.eds xs) = true ↔ _
    rw [Bool.and_eq_true, ih]
    simp
theorem dps_all {n : Nat} : ∀ {os : List O}, O.dps os ≤ n ↔ ∀ o ∈ os, o.dp ≤ n
  | [] => ⟨fun _ o h => (nomatch h), fun _ => Nat.zero_le _⟩
  | x :: xs => by
    have ih := dps_all (n := n) (os := xs)
    show max x.dp (O.dps xs) ≤ n ↔ _
    rw [Nat.max_le, ih]
    simp
theorem hasLs_all : ∀ {os : List O}, O.hasLs os = false ↔ ∀ o ∈ os, o.hasL = false
  | [] => ⟨fun _ o h => (nomatch h), fun _ => rfl⟩
  | x :: xs => by
    have ih := hasLs_all (os := xs)
    show (x.hasL || O.hasLs xs) = false ↔ _
    rw [Bool.or_eq_false_iff, ih]
    simp
theorem nods_all : ∀ {os : List O}, O.nods os = true ↔ ∀ o ∈ os, o.nod = true
  | [] => ⟨fun _ o h => (nomatch h), fun _ => rfl⟩
  | x :: xs => by
    have ih := nods_all (os := xs)
    show (x.nod && O.nods xs) = true ↔ _
    rw [Bool.and_eq_true, ih]
    simp
def EvO (te : TE) (σ : L2.St) (H : Hp) (o : O) : Prop := ∀ H1, Ex H H1 → ∀ Q : VK, (∀ v H2, Ex H1 H2 → OV H2 v o → Q v H2) → te σ H1 Q
def EvAO (ta : TA) (σ : L2.St) (H : Hp) (os : List O) : Prop := ∀ H1, Ex H H1 → ∀ Q : List V → Hp → Prop, (∀ vs H2, Ex H1 H2 → OVs H2 vs os → Q vs H2) → ta σ H1 Q
theorem eo_str {i : Str} : EvO (tC (.str i)) σ H (.str i) := fun H1 e Q q => q _ _ (Ex.refl _) rfl
theorem eo_bl {i : Bool} : EvO (tC (.bl i)) σ H (.bl i) := fun H1 e Q q => q _ _ (Ex.refl _) rfl
theorem eo_of {o : O} (h : Ev te σ H v) (k : OV H v o) : EvO te σ H o := fun H1 e Q q => h H1 e _ fun H2 e2 => q v H2 e2 (k.ext (e.trans e2))
theorem eo_var {i : Nat} {v : V} {o : O} (h : σ[i]? = some (some v)) (k : OV H v o) : EvO (tVar i) σ H o := fun H1 e Q q => ⟨v, h, q _ _ (Ex.refl _) (k.ext e)⟩
theorem eao_nil : EvAO tNil σ H [] := fun H1 e Q q => q _ _ (Ex.refl _) rfl
theorem eao_cons {o : O} {os : List O} (h : EvO te σ H o) (k : EvAO ta σ H os) : EvAO (tCons te ta) σ H (o :: os) := fun H1 e Q q =>
  h H1 e _ fun v H2 e2 hv => k H2 (e.trans e2) _ fun vs H3 e3 hvs => q (v :: vs) H3 (e2.trans e3) (.cons (hv.ext e3) hvs)
theorem eo_tup {os : List O} (h : EvAO ta σ H os) (n : os.length ≤ 1000) : EvO (tTup ta) σ H (.tup os) := fun H1 e Q q =>
  h H1 e _ fun vs H2 e2 hvs => ⟨sz_of (by rw [hvs.length]; omega), fun p hp => q (.ref p) _ (e2.trans (Ex.new hp)) ⟨p, vs, rfl, upd_same, hvs.ext (Ex.new hp)⟩⟩
theorem eo_lst {os : List O} (h : EvAO ta σ H os) (n : os.length ≤ 1000) : EvO (tLst ta) σ H (.lst os) := fun H1 e Q q =>
  h H1 e _ fun vs H2 e2 hvs => ⟨sz_of (by rw [hvs.length]; omega), fun p hp => q (.ref p) _ (e2.trans (Ex.new hp)) ⟨p, vs, rfl, upd_same, hvs.ext (Ex.new hp)⟩⟩
theorem ev_opO {r : R2} {a b : O} {z : V} (h1 : EvO ta' σ H a) (h2 : EvO tb σ H b) (k : ∀ u w G, Ex H G → OV G u a → OV G w b → RV r u w G z) : Ev (tOp r ta' tb) σ H z := fun H1 e Q q =>
  h1 H1 e _ fun u H2 e2 hu => h2 H2 (e.trans e2) _ fun w H3 e3 hw => k u w H3 ((e.trans e2).trans e3) (hu.ext e3) hw H3 (Ex.refl _) _ fun H4 e4 => q H4 ((e2.trans e3).trans e4)
theorem upd_ov {H0 : Hp} {Dl : Addr} {v : V} {o : O} (h1 : o.hasL = false) (h2 : o.nod = true) : UpD H0 Dl (fun G => OV G v o) := fun A B xs hA eA eB kp ov => OV.tx (fun b ys hb => kp b _ (by rintro rfl; rw [hA] at hb; cases hb) hb) h1 h2 ov
theorem q_asgLP {D : Ends} {tz : TS} {i : Nat} {P : List V → Hp → Prop} (h : EvLP te σ H P) (k : ∀ p xs H1, H p = none → Ex H H1 → H1 p = some (.lst xs) → P xs H1 → tz D (σ.set i (some (.ref p))) H1) : tSeq (tAsg te (gName i)) tz D σ H := h H (Ex.refl H) _ k
theorem up_ovs {xs : List V} {os : List O} : Up (fun G => OVs G xs os) := fun A B e h => h.ext e
theorem ovs_mem {J : Hp} : ∀ {xs : List V} {os : List O} {y : V}, OVs J xs os → y ∈ xs → ∃ o ∈ os, OV J y o
  | xs, [], y, h, hy => by
    obtain rfl : xs = [] := h
    cases hy
  | xs, o :: os, y, ⟨x, us, e, h1, h2⟩, hy => by
    subst e
    rcases List.mem_cons.mp hy with rfl | hy
    · exact ⟨o, List.mem_cons_self, h1⟩
    · obtain ⟨o', h, k⟩ := ovs_mem h2 hy
      exact ⟨o', List.mem_cons_of_mem _ h, k⟩
theorem elp_listOf {a : Addr} {us : List V} (h : Ev te σ H (.ref a)) (ha : H a = some (.lst us)) : EvLP (tCB (fun xs H Q => ∃ p ys, xs = [V.ref p] ∧ (SqL K H p ys ∨ SqT K H p ys) ∧ ∀ l, H l = none → Q (V.ref l) (upd H l (HO.lst ys))) (tCons te tNil)) σ H (fun xs _ => xs = us) := fun H1 e Q q =>
  h H1 e _ fun H2 e2 => ⟨a, us, rfl, .inl (sq_of (e2 _ _ (e _ _ ha))), fun l hl => q l us _ (fresh_back e2 hl) (e2.trans (Ex.new hl)) upd_same rfl⟩
theorem q_whenP {t : TT} (h : t σ H fun b H1 => if b = true then tu { D with nx := tz D } σ H1 else tz D σ H1) : tSeq (tIfS t tu tNext) tz D σ H := h
theorem strs_ov {G : Hp} : ∀ ss : List Str, OVs G (sVs ss) (ss.map O.str)
  | [] => .nil
  | s :: ss => .cons rfl (strs_ov ss)
theorem strs_of {G : Hp} : ∀ {ss : List Str} {xs : List V}, OVs G xs (ss.map O.str) → xs = sVs ss
  | [], xs, h => h
  | s :: ss, xs, ⟨x, us, e, h1, h2⟩ => by
    rw [e, strs_of h2, show x = V.str s from h1]
    rfl
theorem and_yes {t u : TT} {Q : Bool → Hp → Prop} (h : EvT t σ H true) (k : ∀ G, Ex H G → u σ G Q) : tAnd t u σ H Q := h H (Ex.refl _) _ fun G e => k G e
theorem or_no {t u : TT} {Q : Bool → Hp → Prop} (h : EvT t σ H false) (k : ∀ G, Ex H G → u σ G Q) : tOr t u σ H Q := h H (Ex.refl _) _ fun G e => k G e
theorem and_no {t u : TT} {Q : Bool → Hp → Prop} (h : EvT t σ H false) (k : ∀ G, Ex H G → Q false G) : tAnd t u σ H Q := h H (Ex.refl _) _ fun G e => k G e
theorem eqv_nilL (os : List O) : (O.lst os).eqv (.lst []) = os.isEmpty := by
  cases os with
  | nil => simp [O.eqv, O.py, O.pys, PyData.eqv, PyData.eqvAll]
  | cons o os => simp [O.eqv, O.py, O.pys, PyData.eqv, PyData.eqvAll]
theorem et_em {i : Nat} {c : Addr} {xs : List V} {os : List O} (hs : σ[i]? = some (some (.ref c))) (hc : H c = some (.lst xs)) (ho : OVs H xs os) (he : O.eds os = true) (hd : O.dps os ≤ 50) : EvT (tTest (tOp (rEqD K) (tVar i) (tLst tNil))) σ H os.isEmpty := by
  refine et_is (et_test (ev_opO (a := .lst os) (b := .lst []) (eo_var hs ⟨c, xs, rfl, hc, ho⟩) (eo_lst eao_nil (by decide)) fun u w G eG hu hw' => rv_eqO hu hw' he rfl (by show O.dps os + 1 ≤ 60; omega) (by decide))) ?_
  exact eqv_nilL os
theorem et_some {i : Nat} {c : Addr} {xs : List V} {os : List O} (hs : σ[i]? = some (some (.ref c))) (hc : H c = some (.lst xs)) (ho : OVs H xs os) (ne : os ≠ []) (he : O.eds os = true) (hd : O.dps os ≤ 50) : EvT (tTest (tOp (rEqD K) (tVar i) (tLst tNil))) σ H false :=
  et_is (et_em hs hc ho he hd) (by cases os with | nil => exact absurd rfl ne | cons _ _ => rfl)
theorem ev_neE {i : Nat} {c : Addr} {xs : List V} {os : List O} (hs : σ[i]? = some (some (.ref c))) (hc : H c = some (.lst xs)) (ho : OVs H xs os) (he : O.eds os = true) (hd : O.dps os ≤ 50) : Ev (tOp (rNeD K) (tVar i) (tLst tNil)) σ H (.bl (!os.isEmpty)) := by
  refine ev_is (ev_opO (a := .lst os) (b := .lst []) (eo_var hs ⟨c, xs, rfl, hc, ho⟩) (eo_lst eao_nil (by decide)) fun u w G eG hu hw' => rv_neO hu hw' he rfl (by show O.dps os + 1 ≤ 60; omega) (by decide)) ?_
  rw [eqv_nilL]
theorem eo_int {i : Int} : EvO (tC (.int i)) σ H (.int i) := fun H1 e Q q => q _ _ (Ex.refl _) rfl
theorem eo_non : EvO (tC .non) σ H .non := fun H1 e Q q => q _ _ (Ex.refl _) rfl
end
/-- the words that stand alone: constants, variables -/
def bareL (ar : List (Str × Nat)) (sc : List Str) : List O := (ar.filter fun r => decide (r.2 = 0)).map (fun r => .tup [.str r.1]) ++ sc.map .str
def zW : Nat → Nat
  | 0 => 2
  | d + 1 => 2 * zW d + 2
theorem zW_ge : ∀ d, 2 ≤ zW d
  | 0 => Nat.le_refl _
  | d + 1 => by show 2 ≤ 2 * zW d + 2; omega
/-- a drawn word -/
structure WdP (ar : List (Str × Nat)) (sc : List Str) (d : Nat) (o : O) : Prop where
  fit : o.fitD ar sc = true
  dr : Dr o (d + 1) (zW d)
theorem SS_of_mem {s : Str} (h : s ∈ SS) : SS.contains s = true := List.contains_iff_mem.mpr h
/-- variables that may stand -/
structure ScO (sc : List Str) : Prop where
  vr : ∀ s ∈ sc, varB s = true ∧ s ∈ SS
  len : sc.length ≤ 20
theorem bare_wd {ar pr : List (Str × Nat)} {sc : List Str} {o : O} {d : Nat} (R : Raw ar pr) (S : ScO sc) (h : o ∈ bareL ar sc) : WdP ar sc d o := by
  unfold bareL at h
  rcases List.mem_append.mp h with h | h
  · obtain ⟨r, hr, rfl⟩ := List.mem_map.mp h
    obtain ⟨h1, h2⟩ := List.mem_filter.mp hr
    have h2 := of_decide_eq_true h2
    have hs := R.ns (s := r.1) (n := r.2) (List.mem_append_left _ h1)
    refine ⟨?_, (Dr.tup (os := []) (d := 0) (z := 0) hs.2.1 (fun _ h => by cases h)).mono (by omega) (by have := zW_ge d; show 0 * 0 + 2 ≤ _; omega)⟩
    show (decide (arl ar r.1 = some 0) && true) = true
    rw [arl_mem R.d1 (show (r.1, 0) ∈ ar by rw [← h2]; exact h1)]
    rfl
  · obtain ⟨s, hs, rfl⟩ := List.mem_map.mp h
    obtain ⟨h1, h2⟩ := S.vr s hs
    refine ⟨?_, (Dr.str h2).mono (Nat.zero_le _) (by have := zW_ge d; omega)⟩
    show (varB s && sc.contains s) = true
    rw [h1, List.contains_iff_mem.mpr hs]
    rfl
theorem fitsD_all {ar : List (Str × Nat)} {sc : List Str} : ∀ {os : List O}, (∀ o ∈ os, o.fitD ar sc = true) → O.fitsD ar sc os = true
  | [], _ => rfl
  | o :: os, h => by
    show (o.fitD ar sc && O.fitsD ar sc os) = true
    rw [h o (by simp), fitsD_all fun x hx => h x (by simp [hx])]
    rfl
theorem fun_wd {ar pr : List (Str × Nat)} {sc : List Str} {s : Str} {n d : Nat} {os : List O} (R : Raw ar pr) (h : (s, n) ∈ ar) (hl : os.length = n) (hw : ∀ o ∈ os, WdP ar sc d o) : WdP ar sc (d + 1) (.tup (.str s :: os)) := by
  have hs := R.ns (s := s) (n := n) (List.mem_append_left _ h)
  refine ⟨?_, (Dr.tup hs.2.1 fun o ho => (hw o ho).dr).mono (Nat.le_refl _) ?_⟩
  · show (decide (arl ar s = some os.length) && O.fitsD ar sc os) = true
    rw [hl, arl_mem R.d1 h, fitsD_all fun o ho => (hw o ho).fit]
    simp
  · have : os.length ≤ 2 := by rw [hl]; exact hs.2.2
    have h2 : os.length * zW d ≤ 2 * zW d := Nat.mul_le_mul_right _ this
    show _ ≤ 2 * zW d + 2
    omega
section
variable {K : PySem.W.Frag} {H G : Hp} {σ : L2.St} {tl te ta tb : TE} {t : TT} {j : Nat} {vs : List Nat}
theorem elp_if {b : Bool} {P : List V → Hp → Prop} (h : EvT t σ H b) (h1 : b = true → EvLP ta σ H P) (h2 : b = false → EvLP tb σ H P) : EvLP (tIf t ta tb) σ H P := fun H1 e Q q =>
  h H1 e _ fun H2 e2 => by
    cases b with
    | true =>
      rw [if_pos rfl]
      exact h1 rfl H2 (e.trans e2) Q fun p xs H3 np e3 hp hP => q p xs H3 (fresh_back e2 np) (e2.trans e3) hp hP
    | false =>
      rw [if_neg (by decide)]
      exact h2 rfl H2 (e.trans e2) Q fun p xs H3 np e3 hp hP => q p xs H3 (fresh_back e2 np) (e2.trans e3) hp hP
theorem cb1 {r : List V → Hp → VK → Prop} {Q : VK} (h : te σ H fun v H1 => r [v] H1 Q) : tCB r (tCons te tNil) σ H Q := h
/-- [.. for x in range(k)], each drawn -/
theorem lc_draw {p q : Addr} {n : Int} {k st : Nat} {Pz : Nat → O → Prop} {Q : VK} (hl : Ev tl σ H (.int (k : Nat))) (hk : k ≤ 1000) (S : Spr H p q n) (hP : ∀ i o, Pz i o → o.hasL = false ∧ o.nod = true)
    (hw : ∀ x, wipe ((wipe σ vs).set j (some x)) vs = wipe σ vs)
    (hi : ∀ (i : Nat) (n1 : Int) (G : Hp) (Q' : VK), i < k → But p q H G → Spr G p q n1 → n1 ≤ n + (st : Int) * (i : Int) → (∀ v o n2 G2, Pz i o → OV G2 v o → Spr G2 p q n2 → n2 ≤ n1 + (st : Int) → But p q G G2 → Q' v G2) → te ((wipe σ vs).set j (some (.int ((i : Nat) : Int)))) G Q')
    (kk : ∀ c acc os n' G, H c = none → G c = some (.lst acc) → OVs G acc os → os.length = k → (∀ i o, os[i]? = some o → Pz i o) → Spr G p q n' → n' ≤ n + (st : Int) * (k : Int) → But p q H G → Q (.ref c) G) : tLc (iRng1 (tCons tl tNil)) (gName j) tYes te vs σ H Q :=
  hl H (Ex.refl _) _ fun H2 e2 => ⟨_, rfl, by omega, by omega, fun Dl hD => by
    have hD0 : H Dl = none := fresh_back e2 hD
    have hDn := S.nep hD0
    refine lc_range (lo := 0) (n := ((k : Nat) : Int).toNat) (fun i G => But p q H G ∧ ∃ acc os n', G Dl = some (.lst acc) ∧ OVs G acc os ∧ os.length = i ∧ acc.length = i ∧ (∀ i o, os[i]? = some o → Pz i o) ∧ Spr G p q n' ∧ n' ≤ n + (st : Int) * (i : Int)) ⟨(But.of e2).trans (But.of (Ex.new hD)), [], [], n, upd_same, rfl, rfl, rfl, (fun i z hz => by simp at hz), (S.ext e2).ext (Ex.new hD), by omega⟩ (fun i G hi' ⟨B, acc, os, n', hacc, hos, hol, hal, hwq, S', hn'⟩ => ?_) (fun G ⟨B, acc, os, n', hacc, hos, hol, hal, hwq, S', hn'⟩ => ?_)
    · have hi' : i < k := by simpa using hi'
      refine ⟨hw _, ?_⟩
      unfold tYes
      dsimp only
      rw [if_pos rfl]
      have e0 : (0 : Int) + ((i : Nat) : Int) = ((i : Nat) : Int) := by omega
      rw [e0]
      refine hi i n' G _ hi' B S' hn' fun v o n2 G2 ho hv S2 hn2 B2 => ?_
      have hD2 := B2 _ _ hDn.1 hDn.2 hacc
      have tx : Tx G2 (upd G2 Dl (.lst (acc ++ [v]))) := Tx.lst hD2
      obtain ⟨z1, z2⟩ := hP i o ho
      have zs : O.hasLs os = false ∧ O.nods os = true := ⟨hasLs_all.mpr fun x hx => by obtain ⟨i', hx'⟩ := List.getElem?_of_mem hx; exact (hP i' x (hwq i' x hx')).1, nods_all.mpr fun x hx => by obtain ⟨i', hx'⟩ := List.getElem?_of_mem hx; exact (hP i' x (hwq i' x hx')).2⟩
      refine ⟨acc, hD2, sz_lt (by omega), ?_, acc ++ [v], os ++ [o], n2, upd_same, ?_, by simp; omega, by simp; omega, ?_, S2.keep (fun o h => by rw [upd_ne (Ne.symm hDn.1)]; exact h) (fun o h => by rw [upd_ne (Ne.symm hDn.2)]; exact h), ?_⟩
      · intro b o nb1 nb2 hb
        have := B2 _ _ nb1 nb2 (B _ _ nb1 nb2 hb)
        rw [upd_ne (ne_of_none hb hD0)]
        exact this
      · exact OVs.append (OVs.tx ((S'.tx B2).trans tx) zs.1 zs.2 hos) (.cons (OV.tx tx z1 z2 hv) .nil)
      · intro i' y hy
        by_cases hlt : i' < os.length
        · rw [List.getElem?_append_left hlt] at hy
          exact hwq i' y hy
        · rw [List.getElem?_append_right (by omega)] at hy
          have e1 : i' - os.length = 0 := by
            rcases Nat.eq_zero_or_pos (i' - os.length) with h | h
            · exact h
            · rw [List.getElem?_eq_none (by simp; omega)] at hy
              cases hy
          rw [e1] at hy
          have e2 : i' = i := by omega
          subst e2
          obtain rfl : o = y := by simpa using hy
          exact ho
      · have : ((i + 1 : Nat) : Int) = (i : Int) + 1 := by omega
        rw [this, Int.mul_add]
        omega
    · rw [Int.toNat_natCast] at hol hn'
      exact kk Dl acc os n' G hD0 hacc hos hol hwq S' hn' B⟩
end
abbrev nWd : List Str := ["_law_stream", "_law_raw", "_law_scope", "_law_depth", "_law_name", "_law_places", "_law_bare", "_law_deep", "_law_place"]
theorem sc_wd : FnScope nWd ["_law_stream", "_law_raw", "_law_scope", "_law_depth"] (defScope s__law_a_word) := ⟨rfl, rfl, rfl, by decide +kernel, rfl, by decide +kernel, by decide +kernel⟩
def spWd (m : Nat) : Sp := fun vs H Q _ => ∃ (p q rt s : Addr) (n : Int) (ar pr : List (Str × Nat)) (sc : List Str) (d : Nat), vs = [.ref p, .ref rt, .ref s, .int (d : Nat)] ∧ Spr H p q n ∧ n + 10 * (d : Int) < 8000000 ∧ RwV H p q rt ar pr ∧ Raw ar pr ∧ H s = some (.lst (sVs sc)) ∧ s ≠ p ∧ s ≠ q ∧ ScO sc ∧ d < m ∧ d ≤ 1 ∧
  (bareL ar sc ≠ [] → ∀ (v : V) (o : O) (n' : Int) (G : Hp), WdP ar sc d o → OV G v o → Spr G p q n' → n' ≤ n + 10 * (d : Int) + 3 → But p q H G → Q v G) ∧
  (bareL ar sc = [] → ∀ G, Ex H G → Q .non G)
theorem dl_len (l : List (Str × Nat)) (f : Str × Nat → Bool) : (l.filter f).length ≤ l.length := List.length_filter_le _ _
section
variable {P : Program} {w : World} {K : PySem.W.Frag} {mg : Str → Option Value} {base : Heap}
theorem ok_word (T : T02 P w K mg base) : ∀ m, Ok P w K mg base CX0 "_law_a_word" ["_law_stream", "_law_raw", "_law_scope", "_law_depth"] (m + 3) (spWd m)
  | 0 => T.ok 23 rfl sc_wd (fun vs H Q E h => by obtain ⟨p, q, rt, s, n, ar, pr, sc, d, rfl, _⟩ := h; rfl) (fun kV doc pm an cdv ct us hl => match us, hl with | [_, _, _, _], _ => rfl) (fun f cdv A outer s H vs Q E hr h => by obtain ⟨p, q, rt, s, n, ar, pr, sc, d, _, _, _, _, _, _, _, _, _, h0, _⟩ := h; exact absurd h0 (Nat.not_lt_zero _))
  | m + 1 => by
    obtain ⟨fR, dR, GR, bR, kR, mR⟩ := (ok_word T m).ex
    obtain ⟨fD, dD, GD, bD, kD, mD⟩ := (ok_dr T).ex
    obtain ⟨fK, dK, GK, bK, kK, mK⟩ := (ok_pick T).ex
    refine T.ok 23 rfl sc_wd (fun vs H Q E h => by obtain ⟨p, q, rt, s, n, ar, pr, sc, d, rfl, _⟩ := h; rfl) (fun kV doc pm an cdv ct us hl => match us, hl with | [_, _, _, _], _ => rfl) (fun f cdv A outer st H vs Q E hr h => ?_)
    obtain ⟨p, q, rt, s, n, ar, pr, sc, d, rfl, S, hn, hrw, R, hsc, s1, s2, So, hd, hd1, k, kN⟩ := h
    refine ⟨_, pss_cons (ps_set (i := 6) sc_wd.nd rfl (Or.inl rfl) (pe_op op_cat (pe_lc (own := [("_law_name", 4), ("_law_places", 5)]) (g := gPair K 4 5) (tt := tTest (tOp rEq (tVar 5) (tC (.int 0)))) (te := tTup (tCons (tVar 4) tNil)) rfl sc_wd.nd (pi_list (pe_ix ix_tup (pv 1) pe_int (fun _ _ => rfl))) (blkOk_by (N := nWd) (sc := defScope s__law_a_word) (by decide +kernel))
            (fun _ _ _ _ _ => pg_tup rfl (pgs_cons (pg_name (i := 4) sc_wd.nd rfl (Or.inl rfl)) (pgs_cons (pg_name (i := 5) sc_wd.nd rfl (Or.inl rfl)) pgs_nil))) (fun _ _ _ _ _ => pts_one (pt_cmpR op_eq (pv 5) pe_int (nomark _))) (fun _ _ _ _ _ => pe_tup (pa_cons (pv 4) pa_nil)))
          (pe_callTy call_list_of (by rfl) T.list PyProof.Rows.boot_list (pa_cons (pv 2) pa_nil))))
        (pss_cons (ps_set (i := 7) sc_wd.nd rfl (Or.inl rfl) (pe_ifExp (PW.pt (pw_and (pt_cmpR op_gt (pv 3) pe_int (nomark _)) (pw_and1 (pt_cmpR (op_neD hr.units) (pv 6) (pe_lst pa_nil) (nomark _)))))
          (pe_lc (own := [("_law_name", 4), ("_law_places", 5)]) (g := gPair K 4 5) (tt := tTest (tOp (rI0 fun i j => V.bl (decide (j < i))) (tVar 5) (tC (.int 0)))) (te := tTup (tCons (tVar 4) (tCons (tVar 5) tNil))) rfl sc_wd.nd (pi_list (pe_ix ix_tup (pv 1) pe_int (fun _ _ => rfl))) (blkOk_by (N := nWd) (sc := defScope s__law_a_word) (by decide +kernel))
            (fun _ _ _ _ _ => pg_tup rfl (pgs_cons (pg_name (i := 4) sc_wd.nd rfl (Or.inl rfl)) (pgs_cons (pg_name (i := 5) sc_wd.nd rfl (Or.inl rfl)) pgs_nil))) (fun _ _ _ _ _ => pts_one (pt_cmpR op_gt (pv 5) pe_int (nomark _))) (fun _ _ _ _ _ => pe_tup (pa_cons (pv 4) (pa_cons (pv 5) pa_nil))))
          (pe_lst pa_nil)))
        (pss_cons (ps_if (pt_cmpR (op_eqD hr.units) (pv 6) (pe_lst pa_nil) (nomark _)) (pss_one (ps_ret pe_non)) pss_nil)
        (pss_cons (ps_if (PW.pt (pw_or (pt_cmpR (op_eqD hr.units) (pv 7) (pe_lst pa_nil) (nomark _)) (pw_or1 (pt_cmpR op_eq (pe_call GD (hr.mono (by omega)) (by rfl) mD kD bD .nil pass0 (pa_cons (pv 0) (pa_cons pe_int pa_nil))) pe_int (nomark _)))))
          (pss_one (ps_ret (pe_call GK (hr.mono (by omega)) (by rfl) mK kK bK .nil pass0 (pa_cons (pv 0) (pa_cons (pv 6) pa_nil))))) pss_nil)
        (pss_cons (ps_asg (pe_call GK (hr.mono (by omega)) (by rfl) mK kK bK .nil pass0 (pa_cons (pv 0) (pa_cons (pv 7) pa_nil))) (pg_tup rfl (pgs_cons (pg_name (i := 4) sc_wd.nd rfl (Or.inl rfl)) (pgs_cons (pg_name (i := 5) sc_wd.nd rfl (Or.inl rfl)) pgs_nil))))
        (pss_one (ps_ret (pe_op op_catT (pe_tup (pa_cons (pv 4) pa_nil)) (pe_callTy call_tuple_of (by rfl) T.tuple PyProof.Rows.boot_tuple (pa_cons
          (pe_lc (own := [("_law_place", 8)]) (g := gName 8) (tt := tYes) (te := tCall (spWd m) [] E0 (tCons (tVar 0) (tCons (tVar 1) (tCons (tVar 2) (tCons (tOp (rI0 fun i j => V.int (i - j)) (tVar 3) (tC (.int 1))) tNil))))) rfl sc_wd.nd (pi_range1 (by rfl) T.range (pa_cons (pv 5) pa_nil)) (blkOk_by (N := nWd) (sc := defScope s__law_a_word) (by decide +kernel))
            (fun _ _ _ _ _ => pg_name (i := 8) sc_wd.nd rfl (Or.inl rfl)) (fun _ _ _ _ _ => pts_nil) (fun _ _ _ _ _ => pe_call GR hr (by rfl) mR kR bR .nil pass0 (pa_cons (pv 0) (pa_cons (pv 1) (pa_cons (pv 2) (pa_cons (pe_op op_sub (pv 3) pe_int) pa_nil)))))) pa_nil))))))))), ?_⟩
    obtain ⟨a, b, xs, ys, g1, na1, na2, nb1, nb2, ha, hb, hx, hy⟩ := hrw.ex
    have hl1 := R.l1
    have raw0 : ∀ {G : Hp} {σ : L2.St}, G rt = some (.tup [.ref a, .ref b]) → σ[1]? = some (some (.ref rt)) → Ev (tOp (rIxT K) (tVar 1) (tC (.int 0))) σ G (.ref a) := fun h h1 => ev_op (ev_var h1) ev_c (rv_ixT (st_of h) (atI_nat (j := 0) rfl))
    have eqd : ∀ i j : Nat, decide (V.int (i : Nat) = V.int (j : Nat)) = decide (i = j) := fun i j => decide_eq_decide.mpr ⟨fun z => by have := V.int.inj z; omega, fun z => by rw [z]⟩
    refine q_asgLP (elp_cat (elp_flt (f := fun r => decide (r.2 = 0)) (ys := fun r => [.str r.1]) (os := fun r => [.str r.1]) (raw0 g1 rfl) ha hx (by omega) (fun r J => .cons rfl .nil) (fun r => ⟨rfl, rfl⟩) (fun x y => rfl) (fun r J => et_is (et_test (ev_op (ev_var rfl) ev_c (rv_eq rfl))) (eqd r.2 0)) (fun r J => eu_tup (ea_cons (ev_var rfl) ea_nil) (by show 1 ≤ 100000; decide))) (elp_listOf (ev_var rfl) hsc) (fun _ => up_ovs) (fun _ _ _ _ z => z) ?_) fun c zs H1 hc e1 h1 hz => ?_
    · rintro xs ys G h rfl
      have := h.length
      rw [List.length_map] at this
      have h2 := dl_len ar (fun r => decide (r.2 = 0))
      have := So.len
      rw [sVs_len]
      omega
    obtain ⟨ws, _, rfl, hws, rfl⟩ := hz
    have hbare : OVs H1 (ws ++ sVs sc) (bareL ar sc) := OVs.append hws (strs_ov sc)
    have hbed : O.eds (bareL ar sc) = true := eds_all.mpr fun o ho => wd_ed _ (bare_wd (d := 0) R So ho).dr.wd
    have hbdp : O.dps (bareL ar sc) ≤ 50 := dps_all.mpr fun o ho => Nat.le_trans (bare_wd (d := 0) R So ho).dr.dp (by decide)
    have hbn : O.hasLs (bareL ar sc) = false ∧ O.nods (bareL ar sc) = true := ⟨hasLs_all.mpr fun o ho => (bare_wd (d := 0) R So ho).dr.noL, nods_all.mpr fun o ho => (bare_wd (d := 0) R So ho).dr.nod⟩
    have hblen : (bareL ar sc).length ≤ 100 := by
      unfold bareL
      have h2 := dl_len ar (fun r => decide (r.2 = 0))
      have := So.len
      rw [List.length_append, List.length_map, List.length_map]
      omega
    generalize ws ++ sVs sc = zs at h1 hbare
    refine q_asgLP (P := fun zs G => OVs G zs ((if decide (0 < d) && !(bareL ar sc).isEmpty then ar.filter fun r => decide (0 < r.2) else []).map prO)) (elp_if (b := decide (0 < d) && !(bareL ar sc).isEmpty) (et_and (a := decide (0 < d)) (et_test (fun H2 e Q q => ⟨_, rfl, _, _, rfl, rfl, ?_⟩)) fun _ => et_test (ev_neE rfl h1 hbare hbed hbdp)) (fun hb1 => ?_) fun hb1 => ?_) fun c2 xs2 H2 hc2 e2 h2 hx2 => ?_
    · have : decide ((0 : Int) < (d : Nat)) = decide (0 < d) := decide_eq_decide.mpr (by omega)
      show Q (.bl (decide ((0 : Int) < (d : Nat)))) H2
      rw [this]
      exact q H2 (Ex.refl _)
    · rw [hb1, if_pos rfl]
      refine elp_flt (f := fun r => decide (0 < r.2)) (ys := fun r => [.str r.1, .int (r.2 : Nat)]) (os := fun r => [.str r.1, .int (r.2 : Nat)]) (raw0 (e1 _ _ g1) rfl) (e1 _ _ ha) (hx.ext e1) (by omega) (fun r J => .cons rfl (.cons rfl .nil)) (fun r => ⟨rfl, rfl⟩) (fun x y => rfl) (fun r J => et_test (fun H2 e Q q => ⟨_, rfl, _, _, rfl, rfl, ?_⟩)) (fun r J => eu_tup (ea_cons (ev_var rfl) (ea_cons (ev_var rfl) ea_nil)) (by show 2 ≤ 100000; decide))
      have : decide ((0 : Int) < (r.2 : Nat)) = decide (0 < r.2) := decide_eq_decide.mpr (by omega)
      show Q (.bl (decide ((0 : Int) < (r.2 : Nat)))) H2
      rw [this]
      exact q H2 (Ex.refl _)
    · rw [hb1, if_neg (by decide)]
      exact fun H2 e Q q => ⟨by show 0 ≤ sizeLine; exact Nat.zero_le _, fun l hl => q l _ _ hl (Ex.new hl) upd_same .nil⟩
    have e12 := e1.trans e2
    have n1 := S.nep hc
    have n2 := S.nep (fresh_back e1 hc2)
    refine q_when (b := (bareL ar sc).isEmpty) (et_em rfl (e2 _ _ h1) (hbare.ext e2) hbed hbdp) (fun hE H3 e3 => ?_) fun hE H3 e3 => ?_
    · exact s_ret ev_c fun G e => kN (List.isEmpty_iff.mp hE) G ((e12.trans e3).trans e)
    have bne : bareL ar sc ≠ [] := fun z => by rw [z] at hE; cases hE
    rw [hE, Bool.not_false, Bool.and_true] at hx2
    have hdeep : ∀ r ∈ (if decide (0 < d) = true then ar.filter fun r => decide (0 < r.2) else []), r ∈ ar ∧ 0 < r.2 ∧ 0 < d := fun r hr => by
      by_cases h : 0 < d
      · rw [decide_eq_true h, if_pos rfl] at hr
        exact ⟨(List.mem_filter.mp hr).1, of_decide_eq_true (List.mem_filter.mp hr).2, h⟩
      · rw [decide_eq_false h, if_neg (by decide)] at hr
        cases hr
    have hdlen : (if decide (0 < d) = true then ar.filter fun r => decide (0 < r.2) else []).length ≤ 12 := by
      have := dl_len ar (fun r => decide (0 < r.2))
      by_cases h : decide (0 < d) = true
      · rw [if_pos h]; omega
      · rw [if_neg h]; exact Nat.zero_le _
    generalize (if decide (0 < d) = true then ar.filter fun r => decide (0 < r.2) else []) = dl at hx2 hdeep hdlen
    have hded : O.eds (dl.map prO) = true := prs_ed fun r hr => (R.ns (s := r.1) (n := r.2) (List.mem_append_left _ (hdeep r hr).1)).2.1
    have e13 := e12.trans e3
    have S3 := S.ext e13
    -- pick(stream, bare)
    have goA : ∀ (G : Hp) (n1' : Int), But p q H3 G → Spr G p q n1' → n1' ≤ n + 1 → tRet (tCall (spPick K) [] E0 (tCons (tVar 0) (tCons (tVar 6) tNil))) { nx := fun x H' => Q V.non H', rt := Q } [some (.ref p), some (.ref rt), some (.ref s), some (.int (d : Nat)), none, none, some (.ref c), some (.ref c2), none] G := fun G n1' B S1 hn1 => by
      have hcG := B _ _ n1.1 n1.2 (e3 _ _ (e2 _ _ h1))
      have hzl := hbare.length
      refine ⟨_, rfl, _, rfl, p, q, c, n1', _, rfl, S1, by omega, hcG, n1.1, n1.2, ?_, by omega, fun y G2 hy S2 B2 => ?_⟩
      · intro z
        rw [z] at hzl
        exact bne (List.length_eq_zero_iff.mp hzl.symm)
      · have B12 : But p q H1 G2 := ((But.of (e2.trans e3)).trans B).trans B2
        obtain ⟨o, ho, ov⟩ := ovs_mem (OVs.tx ((S.ext e1).tx B12) hbn.1 hbn.2 hbare) hy
        exact k bne y o _ G2 (bare_wd R So ho) ov S2 (by omega) (((But.of e13).trans B).trans B2)
    refine q_whenP ?_
    refine et_em rfl (e3 _ _ h2) (hx2.ext e3) hded (Nat.le_trans (prs_dp _) (by decide)) H3 (Ex.refl _) _ fun H4 e4 => ?_
    rw [List.isEmpty_map]
    cases hD : dl.isEmpty with
    | true =>
      rw [if_pos rfl]
      exact goA H4 n (But.of e4) (S3.ext e4) (by omega)
    | false =>
      rw [if_neg (by decide)]
      refine ⟨_, rfl, p, q, n, 3, rfl, S3.ext e4, by omega, by decide, by decide, fun r G r0 r1 S' B => ⟨rfl, _, rfl, ?_⟩⟩
      have BG : But p q H3 G := (But.of e4).trans B
      by_cases hr0 : V.int r = V.int 0
      · rw [decide_eq_true hr0]
        exact goA G (n + 1) BG S' (by omega)
      rw [decide_eq_false hr0]
      have hcG := BG _ _ n2.1 n2.2 (e3 _ _ h2)
      have hxl := hx2.length
      rw [List.length_map] at hxl
      refine ⟨_, rfl, _, rfl, p, q, c2, n + 1, _, rfl, S', by omega, hcG, n2.1, n2.2, ?_, by omega, fun y G2 hy S2 B2 => ?_⟩
      · intro z
        rw [z] at hxl
        rw [List.length_eq_zero_iff.mp hxl.symm] at hD
        cases hD
      have B32 : But p q H2 G2 := ((But.of e3).trans BG).trans B2
      obtain ⟨o, ho, ov⟩ := ovs_mem (OVs.tx ((S.ext e12).tx B32) (prs_noL _) (prs_nod _) hx2) hy
      obtain ⟨l, hl, rfl⟩ := List.mem_map.mp ho
      obtain ⟨q1, q2, q3⟩ := hdeep l hl
      have q4 := (R.n1 l q1).2
      obtain ⟨pt, wsl, rfl, hpt, w1, ws1, rfl, o1, w2, ws2, rfl, o2, h0⟩ := ov
      obtain rfl : ws2 = [] := h0
      obtain rfl : w1 = .str l.1 := o1
      obtain rfl : w2 = .int (l.2 : Nat) := o2
      refine ⟨pt, _, rfl, st_of hpt, rfl, _, _, rfl, _, _, rfl, rfl, ?_⟩
      have B02 : But p q H G2 := (But.of e12).trans B32
      refine ⟨_, rfl, by show 1 ≤ sizeLine; decide, fun t1 nt1 => ?_⟩
      have x1 : Ex G2 (upd G2 t1 (.tup [.str l.1])) := Ex.new nt1
      have B0t : But p q H (upd G2 t1 (.tup [.str l.1])) := B02.trans (But.of x1)
      dsimp only
      refine cb1 (lc_draw (σ := [some (.ref p), some (.ref rt), some (.ref s), some (.int (d : Nat)), some (.str l.1), some (.int (l.2 : Nat)), some (.ref c), some (.ref c2), none]) (j := 8) (vs := [8]) (k := l.2) (st := 4) (n := n + 2) (Pz := fun _ o => WdP ar sc (d - 1) o) (ev_var (i := 5) rfl) (by omega) (by rw [show n + 2 = n + 1 + 1 by omega]; exact S2.ext x1) (fun i o ho => ⟨ho.dr.noL, ho.dr.nod⟩) (fun x => rfl) (fun i n3 G3 Q' hi B3 S3' hn3 kz => ?_) fun c5 acc os n' G5 hc5 hG5 hos hol hwq S5 hn5 B5 => ?_)
      · have B03 := B0t.trans B3
        refine ⟨_, rfl, _, rfl, _, rfl, _, rfl, _, _, rfl, rfl, p, q, rt, s, n3, ar, pr, sc, d - 1, ?_, S3', by omega, hrw.but S B03, R, B03 _ _ s1 s2 hsc, s1, s2, So, by omega, by omega, fun _ v o n4 G4 hw hv S4 hn4 B4 => kz v o n4 G4 hw hv S4 (by omega) B4, fun z => absurd z bne⟩
        show [V.ref p, V.ref rt, V.ref s, V.int ((d : Nat) - 1)] = _
        rw [show ((d : Nat) : Int) - 1 = ((d - 1 : Nat) : Int) by omega]
      · have hacc := hos.length
        refine ⟨c5, acc, rfl, .inl ⟨sq_of hG5, fun t5 nt5 => ?_⟩⟩
        have x5 : Ex G5 (upd G5 t5 (.tup acc)) := Ex.new nt5
        have ht1 : (upd G5 t5 (.tup acc)) t1 = some (.tup [.str l.1]) := x5 _ _ ((S2.ext x1).tx B5 _ _ upd_same)
        refine ⟨t1, t5, [.str l.1], acc, rfl, rfl, st_of ht1, st_of upd_same, by simp, sz_of (by show 1 + acc.length ≤ 100000; omega), fun z => ?_, fun _ t6 nt6 => ?_⟩
        · rw [z] at hacc
          have : os.length = 0 := hacc.symm
          omega
        · have x6 : Ex (upd G5 t5 (.tup acc)) (upd (upd G5 t5 (.tup acc)) t6 (.tup ([.str l.1] ++ acc))) := Ex.new nt6
          have hall : ∀ o ∈ os, WdP ar sc (d - 1) o := fun o ho => let ⟨i, hi⟩ := List.getElem?_of_mem ho; hwq i o hi
          have hW : WdP ar sc d (.tup (.str l.1 :: os)) := by
            have := fun_wd (s := l.1) (n := l.2) (d := d - 1) R q1 hol hall
            rw [show d - 1 + 1 = d by omega] at this
            exact this
          refine k bne (.ref t6) (.tup (.str l.1 :: os)) n' _ hW ⟨t6, _, rfl, upd_same, .cons rfl (hos.ext (x5.trans x6))⟩ (S5.ext (x5.trans x6)) ?_ ((B0t.trans B5).trans (But.of (x5.trans x6)))
          omega
end
end K02

set_option Elab.async false
set_option linter.all false
set_option maxRecDepth 100000
set_option maxHeartbeats 4000000
/-! Drawn atoms. -/
namespace K02
open PySem PySem.Spec PyProof.Rows L2 Evl LamX
/-- a drawn sentence that may stand in a scope -/
structure SnP (ar pr : List (Str × Nat)) (sc : List Str) (d z : Nat) (o : O) : Prop where
  fit : o.fitS ar pr sc = true
  dr : Dr o d z
  tp : o.isTup = true
theorem hd_no : ∀ s ∈ pool2 ++ [("=" : Str)], (["not"] : List Str).contains s = false ∧ (["and", "or", "then", "iff"] : List Str).contains s = false ∧ (["all", "some"] : List Str).contains s = false ∧ s ∈ SS := by decide +kernel
theorem atom_fs {ar pr : List (Str × Nat)} {sc : List Str} {s : Str} {os : List O} (hs : s ∈ pool2 ++ [("=" : Str)]) : fitSL ar pr (.str s :: os) sc = atomL ar pr (.str s :: os) sc := by
  obtain ⟨h1, h2, h3, _⟩ := hd_no s hs
  have g1 : (O.str s).isIn ["not"] = false := h1
  have g2 : (O.str s).isIn ["and", "or", "then", "iff"] = false := h2
  have g3 : (O.str s).isIn ["all", "some"] = false := h3
  exact fs_atom (by rw [g1]; rfl) (by rw [g2]; rfl) (by rw [g3]; rfl)
theorem atom_sn {ar pr : List (Str × Nat)} {sc : List Str} {s : Str} {n : Nat} {os : List O} (R : Raw ar pr) (h : (s, n) ∈ pr ∨ (s = "=" ∧ n = 2)) (hl : os.length = n) (hw : ∀ o ∈ os, WdP ar sc 1 o) : SnP ar pr sc 3 14 (.tup (.str s :: os)) := by
  have hs : s ∈ pool2 ++ [("=" : Str)] := by
    rcases h with h | ⟨rfl, _⟩
    · exact List.mem_append_left _ (R.n2 _ h).1
    · exact List.mem_append_right _ (by simp)
  have hn : n ≤ 2 := by
    rcases h with h | ⟨_, rfl⟩
    · exact (R.n2 _ h).2
    · exact Nat.le_refl _
  refine ⟨?_, (Dr.tup (hd_no s hs).2.2.2 fun o ho => (hw o ho).dr).mono (by decide) ?_, rfl⟩
  · show fitSL ar pr (.str s :: os) sc = true
    rw [atom_fs hs]
    show ((eqL (.str s :: os) || K02.placesD pr (.str s :: os)) && O.fitsD ar sc os) = true
    rw [fitsD_all fun o ho => (hw o ho).fit, Bool.and_true]
    rcases h with h | ⟨rfl, h2⟩
    · have : K02.placesD pr (.str s :: os) = true := by
        show decide (arl pr s = some os.length) = true
        rw [hl, arl_mem R.d2 h]
        simp
      rw [this, Bool.or_true]
    · match os, (hl.trans h2) with
      | [x, y], _ => rfl
  · have h2 : os.length * zW 1 ≤ 2 * zW 1 := Nat.mul_le_mul_right _ (by omega)
    have h3 : zW 1 = 6 := rfl
    rw [h3] at h2 ⊢
    omega
theorem any_flt {α : Type} (f : α → Bool) : ∀ l : List α, (!(l.filter f).isEmpty) = l.any f
  | [] => rfl
  | a :: l => by
    have ih := any_flt f l
    rw [List.filter_cons, List.any_cons]
    cases h : f a with
    | true => simp
    | false => simpa using ih
def hasA (ar pr : List (Str × Nat)) (sc : List Str) : Bool := !(bareL ar sc).isEmpty || pr.any fun r => decide (r.2 = 0)
theorem wd_non {ar : List (Str × Nat)} {sc : List Str} {d : Nat} {o : O} {v : V} {G : Hp} (hw : WdP ar sc d o) (hv : OV G v o) : v ≠ .non := fun z => by
  subst z
  cases o with
  | non => cases hw.fit
  | lst xs => obtain ⟨a, _, h, _⟩ := hv; cases h
  | tup xs => obtain ⟨a, _, h, _⟩ := hv; cases h
  | dct => obtain ⟨a, h, _⟩ := hv; cases h
  | _ => cases hv
abbrev nAt : List Str := ["_law_stream", "_law_raw", "_law_scope", "_law_depth", "_law_is_equal", "_law_has_word", "_law_name", "_law_places", "_law_some", "_law_place"]
theorem sc_at : FnScope nAt ["_law_stream", "_law_raw", "_law_scope", "_law_depth", "_law_is_equal"] (defScope s__law_a_atom) := ⟨rfl, rfl, rfl, by decide +kernel, rfl, by decide +kernel, by decide +kernel⟩
def spAt : Sp := fun vs H Q _ => ∃ (p q rt s : Addr) (n : Int) (ar pr : List (Str × Nat)) (sc : List Str), vs = [.ref p, .ref rt, .ref s, .int 1, .bl true] ∧ Spr H p q n ∧ n < 7000000 ∧ RwV H p q rt ar pr ∧ Raw ar pr ∧ H s = some (.lst (sVs sc)) ∧ s ≠ p ∧ s ≠ q ∧ ScO sc ∧
  (hasA ar pr sc = true → ∀ (v : V) (o : O) (n' : Int) (G : Hp), SnP ar pr sc 3 14 o → OV G v o → Spr G p q n' → n' ≤ n + 40 → But p q H G → Q v G) ∧
  (hasA ar pr sc = false → ∀ G, Ex H G → Q .non G)
abbrev tWdA : TE := tCall (spWd 2) [] E0 (tCons (tVar 0) (tCons (tVar 1) (tCons (tVar 2) (tCons (tVar 3) tNil))))
abbrev tAtL (K : PySem.W.Frag) : TE := tLc (iRng1 (tCons (tVar 7) tNil)) (gName 9) tYes tWdA [9]
abbrev tAtB (K : PySem.W.Frag) : TS := tSeq (tIfS (tTest (tOp (rEqD K) (tVar 8) (tLst tNil))) (tRet (tC .non)) tNext)
 (tSeq (tAsg (tCall (spPick K) [] E0 (tCons (tVar 0) (tCons (tVar 8) tNil))) (gPair K 6 7))
 (tRet (tOp (rCatT K) (tTup (tCons (tVar 6) tNil)) (tCB (rTupOf K) (tCons (tAtL K) tNil)))))
abbrev tAtR (K : PySem.W.Frag) : TS := tSeq (tAsg (tLc (iList K (tOp (rIxT K) (tVar 1) (tC (.int 1)))) (gPair K 6 7) (tOr (tTest (tOp rEq (tVar 7) (tC (.int 0)))) (tB (tVar 5))) (tTup (tCons (tVar 6) (tCons (tVar 7) tNil))) [6, 7]) (gName 8))
 (tSeq (tIfS (tAnd (tB (tVar 5)) (tOr (tTest (tOp (rEqD K) (tVar 8) (tLst tNil))) (tAnd (tB (tVar 4)) (tTest (tOp rEq (tCall spDr [] E0 (tCons (tVar 0) (tCons (tC (.int 4)) tNil))) (tC (.int 0))))))) (tRet (tTup (tCons (tC (.str "=")) (tCons tWdA (tCons tWdA tNil))))) tNext) (tAtB K))
section
variable {K : PySem.W.Frag} {H : Hp} {Q : VK}
theorem ret3 {σ : L2.St} {D : Ends} {te1 te2 : TE} {x : V} (h : te1 σ H (fun v H1 => te2 σ H1 (fun w H2 => 3 ≤ sizeLine ∧ ∀ t, H2 t = none → D.rt (.ref t) (upd H2 t (.tup [x, v, w]))))) : tRet (tTup (tCons (tC x) (tCons te1 (tCons te2 tNil)))) D σ H := h
theorem atom_rest {p q rt s : Addr} {n n1 : Int} {ar pr : List (Str × Nat)} {sc : List Str} {G : Hp} (S : Spr G p q n1) (hn : n < 7000000) (hn1 : n1 ≤ n + 3) (hrw : RwV G p q rt ar pr) (R : Raw ar pr) (hsc : G s = some (.lst (sVs sc))) (s1 : s ≠ p) (s2 : s ≠ q) (So : ScO sc)
    (k : hasA ar pr sc = true → ∀ (v : V) (o : O) (n' : Int) (J : Hp), SnP ar pr sc 3 14 o → OV J v o → Spr J p q n' → n' ≤ n + 40 → But p q G J → Q v J) (kN : hasA ar pr sc = false → ∀ J, Ex G J → Q .non J) :
    tAtR K { nx := fun _ H' => Q .non H', rt := Q } [some (.ref p), some (.ref rt), some (.ref s), some (.int 1), some (.bl true), some (.bl (!(bareL ar sc).isEmpty)), none, none, none, none] G := by
  obtain ⟨a, b, xs, ys, g1, na1, na2, nb1, nb2, ha, hb, hx, hy⟩ := hrw.ex
  have hl2 := R.l2
  have eqd : ∀ i j : Nat, decide (V.int (i : Nat) = V.int (j : Nat)) = decide (i = j) := fun i j => decide_eq_decide.mpr ⟨fun z => by have := V.int.inj z; omega, fun z => by rw [z]⟩
  refine q_asgLP (elp_flt (f := fun r => decide (r.2 = 0) || !(bareL ar sc).isEmpty) (ys := fun r => [.str r.1, .int (r.2 : Nat)]) (os := fun r => [.str r.1, .int (r.2 : Nat)]) (ev_op (ev_var rfl) ev_c (rv_ixT (st_of g1) (atI_nat (j := 1) rfl))) hb hy (by omega) (fun r J => .cons rfl (.cons rfl .nil)) (fun r => ⟨rfl, rfl⟩) (fun x y => rfl) (fun r J => et_or (et_is (et_test (ev_op (ev_var rfl) ev_c (rv_eq rfl))) (eqd r.2 0)) fun _ => et_B (ev_var rfl)) (fun r J => eu_tup (ea_cons (ev_var rfl) (ea_cons (ev_var rfl) ea_nil)) (by show 2 ≤ 100000; decide))) fun c zs H1 hc e1 h1 hz => ?_
  have hz : OVs H1 zs ((pr.filter fun r => decide (r.2 = 0) || !(bareL ar sc).isEmpty).map prO) := hz
  have hsub : ∀ r ∈ (pr.filter fun r => decide (r.2 = 0) || !(bareL ar sc).isEmpty), r ∈ pr ∧ (0 < r.2 → (bareL ar sc).isEmpty = false) := fun r hr => by
    obtain ⟨h1, h2⟩ := List.mem_filter.mp hr
    refine ⟨h1, fun h0 => ?_⟩
    rcases Bool.or_eq_true_iff.mp h2 with h | h
    · have := of_decide_eq_true h
      omega
    · simpa using h
  have hA : (!(bareL ar sc).isEmpty || !(pr.filter fun r => decide (r.2 = 0) || !(bareL ar sc).isEmpty).isEmpty) = hasA ar pr sc := by
    unfold hasA
    cases hE : (bareL ar sc).isEmpty with
    | false => rfl
    | true =>
      show (!(pr.filter fun r => decide (r.2 = 0) || false).isEmpty) = pr.any fun r => decide (r.2 = 0)
      have : (fun r : Str × Nat => decide (r.2 = 0) || false) = fun r => decide (r.2 = 0) := by funext r; simp
      rw [this]
      exact any_flt _ pr
  have hlen := dl_len pr (fun r => decide (r.2 = 0) || !(bareL ar sc).isEmpty)
  generalize (pr.filter fun r => decide (r.2 = 0) || !(bareL ar sc).isEmpty) = dl at hz hsub hA hlen
  have hded : O.eds (dl.map prO) = true := prs_ed fun r hr => (R.ns (s := r.1) (n := r.2) (List.mem_append_right _ (hsub r hr).1)).2.1
  have hdd : O.dps (dl.map prO) ≤ 50 := Nat.le_trans (prs_dp _) (by decide)
  have S1 := S.ext e1
  have nc := S.nep hc
  have hzl := hz.length
  rw [List.length_map] at hzl
  -- a word of this scope
  have wd : ∀ {σ : L2.St} {J : Hp} {n2 : Int} {Q' : VK}, (bareL ar sc).isEmpty = false → But p q H1 J → Spr J p q n2 → n2 < 7500000 → σ[0]? = some (some (.ref p)) → σ[1]? = some (some (.ref rt)) → σ[2]? = some (some (.ref s)) → σ[3]? = some (some (.int 1)) →
      (∀ v o n3 J2, WdP ar sc 1 o → OV J2 v o → Spr J2 p q n3 → n3 ≤ n2 + 13 → But p q J J2 → Q' v J2) → tWdA σ J Q' := fun {σ J n2 Q'} hE B Sj hn2 z0 z1 z2 z3 kz => by
    have BB := (But.of e1).trans B
    exact ⟨_, z0, _, z1, _, z2, _, z3, p, q, rt, s, n2, ar, pr, sc, 1, rfl, Sj, by omega, hrw.but S BB, R, BB _ _ s1 s2 hsc, s1, s2, So, by decide, by decide, fun _ v o n3 J2 hw hv S3 hn3 B3 => kz v o n3 J2 hw hv S3 (by omega) B3, fun z => by rw [z] at hE; cases hE⟩
  have goB : ∀ (J : Hp) (n2 : Int), But p q H1 J → ((bareL ar sc).isEmpty = true → Ex G J) → ((bareL ar sc).isEmpty = false → dl.isEmpty = false) → Spr J p q n2 → n2 ≤ n + 4 → tAtB K { nx := fun _ H' => Q .non H', rt := Q } [some (.ref p), some (.ref rt), some (.ref s), some (.int 1), some (.bl true), some (.bl (!(bareL ar sc).isEmpty)), none, none, some (.ref c), none] J := fun J n2 B hex hne Sj hn2 => by
    have hcJ := B _ _ nc.1 nc.2 h1
    have hzJ := OVs.tx (S1.tx B) (prs_noL _) (prs_nod _) hz
    refine q_when (b := dl.isEmpty) (et_is (et_em rfl hcJ hzJ hded hdd) (by rw [List.isEmpty_map])) (fun hE J1 e2 => ?_) fun hE J1 e2 => ?_
    · rw [hE] at hA
      cases hB : (bareL ar sc).isEmpty with
      | true =>
        rw [hB] at hA
        exact s_ret ev_c fun J2 e3 => kN hA.symm J2 (((hex hB).trans e2).trans e3)
      | false =>
        rw [hne hB] at hE
        cases hE
    rw [hE, Bool.not_false, Bool.or_true] at hA
    have B1 := B.trans (But.of e2)
    refine ⟨_, rfl, _, rfl, p, q, c, n2, zs, rfl, Sj.ext e2, by omega, B1 _ _ nc.1 nc.2 h1, nc.1, nc.2, ?_, by omega, fun y J2 hy S2 B2 => ?_⟩
    · intro z
      rw [z] at hzl
      rw [List.length_eq_zero_iff.mp hzl.symm] at hE
      cases hE
    have B12 := B1.trans B2
    obtain ⟨o, ho, ov⟩ := ovs_mem (OVs.tx (S1.tx B12) (prs_noL _) (prs_nod _) hz) hy
    obtain ⟨l, hl, rfl⟩ := List.mem_map.mp ho
    obtain ⟨q1, q2⟩ := hsub l hl
    have q4 := (R.n2 l q1).2
    obtain ⟨pt, wsl, rfl, hpt, w1, ws1, rfl, o1, w2, ws2, rfl, o2, h0⟩ := ov
    obtain rfl : ws2 = [] := h0
    obtain rfl : w1 = .str l.1 := o1
    obtain rfl : w2 = .int (l.2 : Nat) := o2
    refine ⟨pt, _, rfl, st_of hpt, rfl, _, _, rfl, _, _, rfl, rfl, ?_⟩
    refine ⟨_, rfl, by show 1 ≤ sizeLine; decide, fun t1 nt1 => ?_⟩
    have x1 : Ex J2 (upd J2 t1 (.tup [.str l.1])) := Ex.new nt1
    have B0t : But p q H1 (upd J2 t1 (.tup [.str l.1])) := B12.trans (But.of x1)
    dsimp only
    refine cb1 (lc_draw (σ := [some (.ref p), some (.ref rt), some (.ref s), some (.int 1), some (.bl true), some (.bl (!(bareL ar sc).isEmpty)), some (.str l.1), some (.int (l.2 : Nat)), some (.ref c), none]) (j := 9) (vs := [9]) (k := l.2) (st := 13) (n := n2 + 1) (Pz := fun _ o => WdP ar sc 1 o) (ev_var (i := 7) rfl) (by omega) (S2.ext x1) (fun i o ho => ⟨ho.dr.noL, ho.dr.nod⟩) (fun x => rfl) (fun i n3 G3 Q' hi B3 S3' hn3 kz => ?_) fun c5 acc os n' G5 hc5 hG5 hos hol hwq S5 hn5 B5 => ?_)
    · exact wd (q2 (by omega)) (B0t.trans B3) S3' (by omega) rfl rfl rfl rfl fun v o n4 J4 hw hv S4 hn4 B4 => kz v o n4 J4 hw hv S4 hn4 B4
    · have hacc := hos.length
      refine ⟨c5, acc, rfl, .inl ⟨sq_of hG5, fun t5 nt5 => ?_⟩⟩
      have x5 : Ex G5 (upd G5 t5 (.tup acc)) := Ex.new nt5
      have ht1 : (upd G5 t5 (.tup acc)) t1 = some (.tup [.str l.1]) := x5 _ _ ((S2.ext x1).tx B5 _ _ upd_same)
      have hall : ∀ o ∈ os, WdP ar sc 1 o := fun o ho => let ⟨i, hi⟩ := List.getElem?_of_mem ho; hwq i o hi
      have hW := atom_sn (sc := sc) R (.inl (show (l.1, l.2) ∈ pr from q1)) hol hall
      have BG5 : But p q G (upd G5 t5 (.tup acc)) := (((But.of e1).trans B0t).trans B5).trans (But.of x5)
      refine ⟨t1, t5, [.str l.1], acc, rfl, rfl, st_of ht1, st_of upd_same, by simp, sz_of (by show 1 + acc.length ≤ 100000; omega), fun z => ?_, fun _ t6 nt6 => ?_⟩
      · rw [z] at hacc
        rw [List.length_eq_zero_iff.mp hacc.symm] at hW
        exact k hA.symm (.ref t1) _ n' _ hW ⟨t1, _, rfl, ht1, .cons rfl .nil⟩ (S5.ext x5) (by omega) BG5
      · have x6 : Ex (upd G5 t5 (.tup acc)) (upd (upd G5 t5 (.tup acc)) t6 (.tup ([.str l.1] ++ acc))) := Ex.new nt6
        exact k hA.symm (.ref t6) _ n' _ hW ⟨t6, _, rfl, upd_same, .cons rfl (hos.ext (x5.trans x6))⟩ (S5.ext (x5.trans x6)) (by omega) (BG5.trans (But.of x6))
  cases hE : (bareL ar sc).isEmpty with
  | true =>
    have goB := fun J n2 => goB J n2
    rw [hE] at goB
    refine q_whenP (and_no (et_B (ev_var rfl)) fun J eJ => ?_)
    rw [if_neg (by decide)]
    exact goB J n1 (But.of eJ) (fun _ => e1.trans eJ) (fun z => nomatch z) (S1.ext eJ) (by omega)
  | false =>
    have hA1 : hasA ar pr sc = true := by rw [← hA, hE]; rfl
    rw [hE] at goB
    have goE : ∀ (J : Hp) (n2 : Int), But p q H1 J → Spr J p q n2 → n2 ≤ n + 4 → tRet (tTup (tCons (tC (.str "=")) (tCons tWdA (tCons tWdA tNil)))) { nx := fun _ H' => Q .non H', rt := Q } [some (.ref p), some (.ref rt), some (.ref s), some (.int 1), some (.bl true), some (.bl (!false)), none, none, some (.ref c), none] J := fun J n2 B Sj hn2 => by
      refine ret3 (wd hE B Sj (by omega) rfl rfl rfl rfl fun v o n3 J2 hw hv S3 hn3 B3 => wd hE (B.trans B3) S3 (by omega) rfl rfl rfl rfl fun v2 o2 n4 J3 hw2 hv2 S4 hn4 B4 => ⟨by show 3 ≤ sizeLine; decide, fun t nt => ?_⟩)
      have x : Ex J3 (upd J3 t (.tup [.str "=", v, v2])) := Ex.new nt
      have hv' := OV.tx (S3.tx B4) hw.dr.noL hw.dr.nod hv
      exact k hA1 (.ref t) (.tup [.str "=", o, o2]) n4 _ (atom_sn R (.inr ⟨rfl, rfl⟩) rfl fun z hz => by
        rcases List.mem_cons.mp hz with rfl | hz
        · exact hw
        · obtain rfl := List.mem_singleton.mp hz
          exact hw2) ⟨t, _, rfl, upd_same, .cons rfl (.cons (hv'.ext x) (.cons (hv2.ext x) .nil))⟩ (S4.ext x) (by omega) ((((But.of e1).trans B).trans B3).trans (B4.trans (But.of x)))
    refine q_whenP (and_yes (et_B (ev_var rfl)) fun J eJ => ?_)
    refine et_em rfl (eJ _ _ h1) (hz.ext eJ) hded hdd J (Ex.refl _) _ fun J1 e2 => ?_
    rw [List.isEmpty_map]
    have B1 : But p q H1 J1 := But.of (eJ.trans e2)
    cases hD : dl.isEmpty with
    | true =>
      rw [if_pos rfl]
      exact goE J1 n1 B1 (S1.ext (eJ.trans e2)) (by omega)
    | false =>
      rw [if_neg (by decide)]
      refine and_yes (et_B (ev_var rfl)) fun J2 e3 => ⟨_, rfl, p, q, n1, 4, rfl, S1.ext ((eJ.trans e2).trans e3), by omega, by decide, by decide, fun r G2 r0 r1 S' B' => ⟨rfl, _, rfl, ?_⟩⟩
      have B2 : But p q H1 G2 := (B1.trans (But.of e3)).trans B'
      by_cases hr0 : V.int r = V.int 0
      · rw [decide_eq_true hr0]
        exact goE G2 (n1 + 1) B2 S' (by omega)
      · rw [decide_eq_false hr0]
        exact goB G2 (n1 + 1) B2 (fun z => nomatch z) (fun _ => hD) S' (by omega)
end
section
variable {P : Program} {w : World} {K : PySem.W.Frag} {mg : Str → Option Value} {base : Heap}
theorem ok_atom (T : T02 P w K mg base) : Ok P w K mg base CX0 "_law_a_atom" ["_law_stream", "_law_raw", "_law_scope", "_law_depth", "_law_is_equal"] 6 spAt := by
  obtain ⟨fR, dR, GR, bR, kR, mR⟩ := (ok_word T 2).ex
  obtain ⟨fD, dD, GD, bD, kD, mD⟩ := (ok_dr T).ex
  obtain ⟨fK, dK, GK, bK, kK, mK⟩ := (ok_pick T).ex
  refine T.ok 24 rfl sc_at (fun vs H Q E h => by obtain ⟨p, q, rt, s, n, ar, pr, sc, rfl, _⟩ := h; rfl) (fun kV doc pm an cdv ct us hl => match us, hl with | [_, _, _, _, _], _ => rfl) (fun f cdv A outer st H vs Q E hr h => ?_)
  obtain ⟨p, q, rt, s, n, ar, pr, sc, rfl, S, hn, hrw, R, hsc, s1, s2, So, k, kN⟩ := h
  refine ⟨_, pss_cons (ps_set (i := 5) sc_at.nd rfl (by first | exact Or.inl rfl | exact Or.inr rfl) (pe_cmp (pc_notN (pe_call GR (hr.mono (by omega)) (by rfl) mR kR bR .nil pass0 (pa_cons (pv 0) (pa_cons (pv 1) (pa_cons (pv 2) (pa_cons pe_int pa_nil))))))))
    (pss_cons (ps_setLc (i := 8) (own := [("_law_name", 6), ("_law_places", 7)]) (g := gPair K 6 7) (tt := tOr (tTest (tOp rEq (tVar 7) (tC (.int 0)))) (tB (tVar 5))) (te := tTup (tCons (tVar 6) (tCons (tVar 7) tNil))) (by rfl) sc_at.nd rfl rfl (sw_true rfl rfl rfl (by decide +kernel)) (pi_list (pe_ix ix_tup (pv 1) pe_int (fun _ _ => rfl))) (blkOk_by (N := nAt) (sc := defScope s__law_a_atom) (by decide +kernel))
            (fun _ _ _ _ _ => pg_tup rfl (pgs_cons (pg_name (i := 6) sc_at.nd rfl (Or.inl rfl)) (pgs_cons (pg_name (i := 7) sc_at.nd rfl (Or.inl rfl)) pgs_nil))) (fun _ _ _ _ _ => pts_one (PW.pt (pw_or (pt_cmpR op_eq (pv 7) pe_int (nomark _)) (pw_or1 (pt_val (pv 5)))))) (fun _ _ _ _ _ => pe_tup (pa_cons (pv 6) (pa_cons (pv 7) pa_nil))))
    (pss_cons (ps_if (PW.pt (pw_and (pt_val (pv 5)) (pw_and1 (PW.pt (pw_or (pt_cmpR (op_eqD hr.units) (pv 8) (pe_lst pa_nil) (nomark _)) (pw_or1 (PW.pt (pw_and (pt_val (pv 4)) (pw_and1 (pt_cmpR op_eq (pe_call GD (hr.mono (by omega)) (by rfl) mD kD bD .nil pass0 (pa_cons (pv 0) (pa_cons pe_int pa_nil))) pe_int (nomark _)))))))))))
        (pss_one (ps_ret (pe_tup (pa_cons pe_str (pa_cons (pe_call GR (hr.mono (by omega)) (by rfl) mR kR bR .nil pass0 (pa_cons (pv 0) (pa_cons (pv 1) (pa_cons (pv 2) (pa_cons (pv 3) pa_nil))))) (pa_cons (pe_call GR (hr.mono (by omega)) (by rfl) mR kR bR .nil pass0 (pa_cons (pv 0) (pa_cons (pv 1) (pa_cons (pv 2) (pa_cons (pv 3) pa_nil))))) pa_nil)))))) pss_nil)
    (pss_cons (ps_if (pt_cmpR (op_eqD hr.units) (pv 8) (pe_lst pa_nil) (nomark _)) (pss_one (ps_ret pe_non)) pss_nil)
    (pss_cons (ps_asg (pe_call GK (hr.mono (by omega)) (by rfl) mK kK bK .nil pass0 (pa_cons (pv 0) (pa_cons (pv 8) pa_nil))) (pg_tup rfl (pgs_cons (pg_name (i := 6) sc_at.nd rfl (Or.inl rfl)) (pgs_cons (pg_name (i := 7) sc_at.nd rfl (Or.inl rfl)) pgs_nil))))
    (pss_one (ps_ret (pe_op op_catT (pe_tup (pa_cons (pv 6) pa_nil)) (pe_callTy call_tuple_of (by rfl) T.tuple PyProof.Rows.boot_tuple (pa_cons
          (pe_lc (own := [("_law_place", 9)]) (g := gName 9) (tt := tYes) (te := tWdA) rfl sc_at.nd (pi_range1 (by rfl) T.range (pa_cons (pv 7) pa_nil)) (blkOk_by (N := nAt) (sc := defScope s__law_a_atom) (by decide +kernel))
            (fun _ _ _ _ _ => pg_name (i := 9) sc_at.nd rfl (Or.inl rfl)) (fun _ _ _ _ _ => pts_nil) (fun _ _ _ _ _ => pe_call GR (hr.mono (by omega)) (by rfl) mR kR bR .nil pass0 (pa_cons (pv 0) (pa_cons (pv 1) (pa_cons (pv 2) (pa_cons (pv 3) pa_nil)))))) pa_nil))))))))), ?_⟩
  refine ⟨_, rfl, _, rfl, _, rfl, p, q, rt, s, n, ar, pr, sc, 0, rfl, S, by omega, hrw, R, hsc, s1, s2, So, by decide, by decide, fun bne v o n' G hw hv S1 hn1 B1 => ?_, fun bE G e => ?_⟩
  · have hE : (bareL ar sc).isEmpty = false := by cases h : bareL ar sc with | nil => exact absurd h bne | cons _ _ => rfl
    have hv0 : decide (v = V.non) = false := decide_eq_false fun z => wd_non hw hv z
    unfold gName
    dsimp only
    rw [hv0]
    have h := atom_rest (K := K) (Q := Q) S1 hn (by omega) (hrw.but S B1) R (B1 _ _ s1 s2 hsc) s1 s2 So (fun hA v o n' J a1 a2 a3 a4 a5 => k hA v o n' J a1 a2 a3 a4 (B1.trans a5)) (fun hA => by unfold hasA at hA; rw [hE] at hA; cases hA)
    rw [hE] at h
    exact h
  · have hE : (bareL ar sc).isEmpty = true := by rw [bE]; rfl
    have h := atom_rest (K := K) (Q := Q) (S.ext e) hn (by omega) (hrw.ext e) R (e _ _ hsc) s1 s2 So (fun hA v o n' J a1 a2 a3 a4 a5 => k hA v o n' J a1 a2 a3 a4 ((But.of e).trans a5)) (fun hA J eJ => kN hA J (e.trans eJ))
    rw [hE] at h
    exact h
end
end K02

set_option Elab.async false
set_option linter.all false
set_option maxRecDepth 100000
set_option maxHeartbeats 4000000
/-! What fits stays fitting where more variables may stand; drawn sentences put together. -/
namespace K02
open PySem PySem.Spec PyProof.Rows L2 Evl LamX
section
variable {ar pr : List (Str × Nat)}
theorem okV_mono {sc sd : List Str} (hs : ∀ s ∈ sc, s ∈ sd) {s : Str} (h : okV sc s = true) : okV sd s = true := by
  unfold okV at h ⊢
  rw [Bool.and_eq_true] at h ⊢
  exact ⟨h.1, List.contains_iff_mem.mpr (hs _ (List.contains_iff_mem.mp h.2))⟩
mutual
theorem fitD_mono {sc sd : List Str} (hs : ∀ s ∈ sc, s ∈ sd) : ∀ o : O, o.fitD ar sc = true → o.fitD ar sd = true
  | .str s, h => okV_mono hs h
  | .lst xs, h => by rw [O.fitD] at h ⊢; exact fitLD_mono hs xs h
  | .tup xs, h => by rw [O.fitD] at h ⊢; exact fitLD_mono hs xs h
  | .non, h => by cases h
  | .bl _, h => by cases h
  | .int _, h => by cases h
  | .dct, h => by cases h
theorem fitLD_mono {sc sd : List Str} (hs : ∀ s ∈ sc, s ∈ sd) : ∀ xs : List O, O.fitLD ar sc xs = true → O.fitLD ar sd xs = true
  | [], h => by cases h
  | x :: xs, h => by
    rw [O.fitLD, Bool.and_eq_true] at h ⊢
    exact ⟨h.1, fitsD_mono hs xs h.2⟩
theorem fitsD_mono {sc sd : List Str} (hs : ∀ s ∈ sc, s ∈ sd) : ∀ xs : List O, O.fitsD ar sc xs = true → O.fitsD ar sd xs = true
  | [], h => rfl
  | x :: xs, h => by
    rw [O.fitsD, Bool.and_eq_true] at h ⊢
    exact ⟨fitD_mono hs x h.1, fitsD_mono hs xs h.2⟩
end
theorem atomL_mono {sc sd : List Str} (hs : ∀ s ∈ sc, s ∈ sd) {xs : List O} (h : atomL ar pr xs sc = true) : atomL ar pr xs sd = true := by
  unfold atomL at h ⊢
  rw [Bool.and_eq_true] at h ⊢
  exact ⟨h.1, fitsD_mono hs _ h.2⟩
mutual
theorem fitS_mono : ∀ (o : O) {sc sd : List Str}, (∀ s ∈ sc, s ∈ sd) → o.fitS ar pr sc = true → o.fitS ar pr sd = true
  | .lst xs, sc, sd, hs, h => by rw [O.fitS] at h ⊢; exact fitSL_mono xs hs h
  | .tup xs, sc, sd, hs, h => by rw [O.fitS] at h ⊢; exact fitSL_mono xs hs h
  | .str _, _, _, _, h => by rw [O.fitS] at h; cases h
  | .non, _, _, _, h => by rw [O.fitS] at h; cases h
  | .bl _, _, _, _, h => by rw [O.fitS] at h; cases h
  | .int _, _, _, _, h => by rw [O.fitS] at h; cases h
  | .dct, _, _, _, h => by rw [O.fitS] at h; cases h
theorem fitSL_mono : ∀ (xs : List O) {sc sd : List Str}, (∀ s ∈ sc, s ∈ sd) → fitSL ar pr xs sc = true → fitSL ar pr xs sd = true
  | [], _, _, _, h => by rw [fitSL] at h; cases h
  | [x], _, _, hs, h => by rw [fitSL] at h ⊢; exact atomL_mono hs h
  | [x, y], _, _, hs, h => by
    rw [fitSL] at h ⊢
    split
    · rename_i hx
      rw [if_pos hx] at h
      exact fitS_mono y hs h
    · rename_i hx
      rw [if_neg hx] at h
      exact atomL_mono hs h
  | [x, y, z], sc, sd, hs, h => by
    rw [fitSL] at h ⊢
    split
    · rename_i hx
      rw [if_pos hx, Bool.and_eq_true] at h
      rw [Bool.and_eq_true]
      exact ⟨fitS_mono y hs h.1, fitS_mono z hs h.2⟩
    · rename_i hx
      rw [if_neg hx] at h
      split
      · rename_i hy
        rw [if_pos hy] at h
        exact fitS_mono z (sc := sc ++ [y.txt]) (fun s h => by
          rcases List.mem_append.mp h with h | h
          · exact List.mem_append_left _ (hs s h)
          · exact List.mem_append_right _ h) h
      · rename_i hy
        rw [if_neg hy] at h
        exact atomL_mono hs h
  | x :: y :: z :: u :: r, _, _, hs, h => by rw [fitSL] at h ⊢; exact atomL_mono hs h
end
def zS : Nat → Nat
  | 0 => 14
  | m + 1 => 2 * zS m + 4
theorem zS_ge : ∀ m, 14 ≤ zS m
  | 0 => Nat.le_refl _
  | m + 1 => by have := zS_ge m; show 14 ≤ 2 * zS m + 4; omega
/-- draws of a sentence, at most -/
def dS : Nat → Nat
  | 0 => 41
  | m + 1 => 2 * dS m + 45
theorem dS_ge : ∀ m, 41 ≤ dS m
  | 0 => Nat.le_refl _
  | m + 1 => by have := dS_ge m; show 41 ≤ 2 * dS m + 45; omega
theorem SnP.mono {sc : List Str} {d z d' z' : Nat} {o : O} (h : SnP ar pr sc d z o) (hd : d ≤ d') (hz : z ≤ z') : SnP ar pr sc d' z' o := ⟨h.fit, h.dr.mono hd hz, h.tp⟩
theorem sn_not {sc : List Str} {d z : Nat} {o : O} (h : SnP ar pr sc d z o) : SnP ar pr sc (d + 1) (z + 2) (.tup [.str "not", o]) := by
  refine ⟨?_, (Dr.tup (d := d) (z := z) (by decide +kernel) fun x hx => ?_).mono (Nat.le_refl _) (by show 1 * z + 2 ≤ _; omega), rfl⟩
  · show fitSL ar pr [.str "not", o] sc = true
    rw [fs_not (by decide +kernel)]
    exact h.fit
  · obtain rfl := List.mem_singleton.mp hx
    exact h.dr
theorem jn_no : ∀ s ∈ (["and", "or", "then", "iff"] : List Str), (O.str s).isIn ["and", "or", "then", "iff"] = true ∧ s ∈ SS := by decide +kernel
theorem bn_no : ∀ s ∈ (["all", "some"] : List Str), (O.str s).isIn ["and", "or", "then", "iff"] = false ∧ (O.str s).isIn ["all", "some"] = true ∧ s ∈ SS := by decide +kernel
theorem vr_no : ∀ s ∈ (["X", "Y", "Z", "X1"] : List Str), varB s = true ∧ s ∈ SS := by decide +kernel
theorem sn_join {sc : List Str} {d z : Nat} {s : Str} {a b : O} (hs : s ∈ (["and", "or", "then", "iff"] : List Str)) (h1 : SnP ar pr sc d z a) (h2 : SnP ar pr sc d z b) : SnP ar pr sc (d + 1) (2 * z + 2) (.tup [.str s, a, b]) := by
  refine ⟨?_, (Dr.tup (d := d) (z := z) (jn_no s hs).2 fun x hx => ?_), rfl⟩
  · show fitSL ar pr [.str s, a, b] sc = true
    rw [fs_join (jn_no s hs).1, h1.fit, h2.fit]
    rfl
  · rcases List.mem_cons.mp hx with rfl | hx
    · exact h1.dr
    · obtain rfl := List.mem_singleton.mp hx
      exact h2.dr
theorem sn_bind {sc sd : List Str} {d z : Nat} {s v : Str} {a : O} (hs : s ∈ (["all", "some"] : List Str)) (hv : v ∈ (["X", "Y", "Z", "X1"] : List Str)) (hsd : ∀ x ∈ sd, x ∈ sc ++ [v]) (hz : 1 ≤ z) (h1 : SnP ar pr sd d z a) : SnP ar pr sc (d + 1) (2 * z + 2) (.tup [.str s, .str v, a]) := by
  refine ⟨?_, (Dr.tup (d := d) (z := z) (bn_no s hs).2.2 fun x hx => ?_), rfl⟩
  · show fitSL ar pr [.str s, .str v, a] sc = true
    rw [fs_bind (bn_no s hs).1 (bn_no s hs).2.1 (show (O.str v).varO = true from (vr_no v hv).1)]
    exact fitS_mono a hsd h1.fit
  · rcases List.mem_cons.mp hx with rfl | hx
    · exact (Dr.str (vr_no v hv).2).mono (Nat.zero_le _) hz
    · obtain rfl := List.mem_singleton.mp hx
      exact h1.dr
/-- variables that stand: the drawn ones, none twice -/
structure ScV (sc : List Str) : Prop where
  sub : ∀ s ∈ sc, s ∈ (["X", "Y", "Z", "X1"] : List Str)
  nd : sc.Nodup
theorem nd_len : ∀ {sc l : List Str}, sc.Nodup → (∀ s ∈ sc, s ∈ l) → sc.length ≤ l.length
  | [], l, _, _ => Nat.zero_le _
  | a :: sc, l, nd, h => by
    have nd := List.nodup_cons.mp nd
    have ha := h a (by simp)
    have h1 := nd_len (sc := sc) (l := l.erase a) nd.2 fun s hs => (List.mem_erase_of_ne (fun e : s = a => nd.1 (e ▸ hs))).mpr (h s (by simp [hs]))
    have h2 := List.length_erase_of_mem ha
    have h3 := List.length_pos_of_mem ha
    rw [List.length_cons]
    omega
theorem ScV.o {sc : List Str} (h : ScV sc) : ScO sc := ⟨fun s hs => vr_no s (h.sub s hs), Nat.le_trans (nd_len h.nd h.sub) (by decide)⟩
theorem ScV.nil : ScV [] := ⟨fun s h => (nomatch h), List.nodup_nil⟩
theorem ScV.add {sc : List Str} {v : Str} (h : ScV sc) (hv : v ∈ (["X", "Y", "Z", "X1"] : List Str)) : ScV (sc ++ (if !sc.contains v then [v] else [])) := by
  cases hc : sc.contains v with
  | true => simpa using h
  | false =>
    have hn : v ∉ sc := fun z => by rw [List.contains_iff_mem.mpr z] at hc; cases hc
    refine ⟨fun s hs => ?_, ?_⟩
    · rcases List.mem_append.mp hs with hs | hs
      · exact h.sub s hs
      · obtain rfl : s = v := by simpa using hs
        exact hv
    · show (sc ++ [v]).Nodup
      rw [List.nodup_append]
      exact ⟨h.nd, List.nodup_cons.mpr ⟨by simp, List.nodup_nil⟩, fun a ha b hb e => by
        obtain rfl := List.mem_singleton.mp hb
        exact hn (e ▸ ha)⟩
theorem ScV.addne {sc : List Str} {v : Str} : sc ++ (if !sc.contains v then [v] else []) ≠ [] := by
  cases hc : sc.contains v with
  | true =>
    have := List.contains_iff_mem.mp hc
    intro z
    simp at z
    rw [z] at this
    cases this
  | false => simp
theorem ScV.addsub {sc : List Str} {v : Str} : ∀ x ∈ sc ++ (if !sc.contains v then [v] else []), x ∈ sc ++ [v] := fun x hx => by
  rcases List.mem_append.mp hx with h | h
  · exact List.mem_append_left _ h
  · cases hc : sc.contains v with
    | true => rw [hc] at h; cases h
    | false => rw [hc] at h; exact List.mem_append_right _ h
theorem bareL_ne {sc : List Str} (h : sc ≠ []) : hasA ar pr sc = true := by
  have : (bareL ar sc).isEmpty = false := by
    cases sc with
    | nil => exact absurd rfl h
    | cons s sc =>
      unfold bareL
      cases (List.filter (fun r => decide (r.2 = 0)) ar) <;> rfl
  unfold hasA
  rw [this]
  rfl
end
end K02

set_option Elab.async false
set_option linter.all false
set_option maxRecDepth 100000
set_option maxHeartbeats 4000000
/-! Drawn sentences. -/
namespace K02
open PySem PySem.Spec PyProof.Rows L2 Evl LamX
abbrev nSn : List Str := ["_law_stream", "_law_raw", "_law_scope", "_law_depth", "_law_is_equal", "_law_way", "_law_atom", "_law_kind", "_law_part", "_law_parts", "_law_variable", "_law_inner"]
theorem sc_sn : FnScope nSn ["_law_stream", "_law_raw", "_law_scope", "_law_depth", "_law_is_equal"] (defScope s__law_a_sentence) := ⟨rfl, rfl, rfl, by decide +kernel, rfl, by decide +kernel, by decide +kernel⟩
def mu (sc : List Str) (d : Nat) : Nat := d + if sc.isEmpty then 1 else 0
def spSn (m : Nat) : Sp := fun vs H Q _ => ∃ (p q rt s : Addr) (n : Int) (ar pr : List (Str × Nat)) (sc : List Str) (d : Nat), vs = [.ref p, .ref rt, .ref s, .int (d : Nat), .bl true] ∧ Spr H p q n ∧ n + (dS (mu sc d) : Nat) < 6900000 ∧ RwV H p q rt ar pr ∧ Raw ar pr ∧ H s = some (.lst (sVs sc)) ∧ s ≠ p ∧ s ≠ q ∧ ScV sc ∧ mu sc d < m ∧
  ∀ (v : V) (o : O) (n' : Int) (G : Hp), SnP ar pr sc (3 + mu sc d) (zS (mu sc d)) o → OV G v o → Spr G p q n' → n' ≤ n + (dS (mu sc d) : Nat) → But p q H G → Q v G
abbrev tSn (m : Nat) (sc d : TE) : TE := tCall (spSn m) [] E0 (tCons (tVar 0) (tCons (tVar 1) (tCons sc (tCons d (tCons (tVar 4) tNil)))))
abbrev tPred : TE := tOp (rI0 fun i j => V.int (i - j)) (tVar 3) (tC (.int 1))
section
variable {K : PySem.W.Frag} {H G : Hp} {σ : L2.St} {te tl ta tb : TE} {ta' : TA}
theorem pick_strs {p q : Addr} {n : Int} {ss : List Str} {Q : VK} (h0 : σ[0]? = some (some (.ref p))) (hl : EvL tl σ H (sVs ss)) (S : Spr H p q n) (hn : n < 10000000) (ne : ss ≠ []) (h1 : ss.length ≤ 1000) (k : ∀ s ∈ ss, ∀ G, Spr G p q (n + 1) → But p q H G → Q (.str s) G) : tCall (spPick K) [] E0 (tCons (tVar 0) (tCons tl tNil)) σ H Q :=
  ⟨_, h0, hl H (Ex.refl _) _ fun c H1 hc e1 h1' => by
    have nc := S.nep hc
    refine ⟨p, q, c, n, _, rfl, S.ext e1, hn, h1', nc.1, nc.2, fun z => ?_, by rw [sVs_len]; exact h1, fun y G hy S' B => ?_⟩
    · have : (sVs ss).length = 0 := by rw [z]; rfl
      rw [sVs_len] at this
      exact ne (List.length_eq_zero_iff.mp this)
    · unfold sVs at hy
      obtain ⟨s, hs, rfl⟩ := List.mem_map.mp hy
      exact k s hs G S' ((But.of e1).trans B)⟩
theorem el_lits {ta' : TA} {xs : List V} (h : EvA ta' σ H xs) (hl : xs.length ≤ 1000) : EvL (tLst ta') σ H xs := fun H1 e Q q => h H1 e _ fun H2 e2 => ⟨sz_of (by omega), fun p hp => q p _ (fresh_back e2 hp) (e2.trans (Ex.new hp)) upd_same⟩
theorem elp_catV {a : Addr} {xs : List V} {P : List V → Hp → Prop} (ha : Ev ta σ H (.ref a)) (h1 : H a = some (.lst xs)) (hb : EvLP tb σ H P) (u2 : ∀ xs, Up (P xs)) (hl : ∀ ys G, P ys G → xs.length + ys.length ≤ 100000) : EvLP (tOp rCat ta tb) σ H (fun zs G => ∃ ys, zs = xs ++ ys ∧ P ys G) := fun H1 e Q q =>
  ha H1 e _ fun H2 e2 => hb H2 (e.trans e2) _ fun c ys H3 hc e3 hc3 hp => ⟨a, c, xs, ys, rfl, rfl, e3 _ _ (e2 _ _ (e _ _ h1)), hc3, sz_of (hl ys H3 hp), fun l hl' => q l _ _ (fresh_back (e2.trans e3) hl') ((e2.trans e3).trans (Ex.new hl')) upd_same ⟨ys, rfl, u2 ys _ _ (Ex.new hl') hp⟩⟩
theorem elp_ofL {xs : List V} {P : List V → Hp → Prop} (h : EvL te σ H xs) (hp : ∀ G, P xs G) : EvLP te σ H P := fun H1 e Q q => h H1 e _ fun p H2 np e2 h2 => q p _ _ np e2 h2 (hp _)
theorem q_asgR {D : Ends} {tz : TS} {i : Nat} (h : te σ H fun v H1 => tz D (σ.set i (some v)) H1) : tSeq (tAsg te (gName i)) tz D σ H := h
theorem sVs_app (a b : List Str) : sVs (a ++ b) = sVs a ++ sVs b := by unfold sVs; rw [List.map_append]
theorem rv_niL {s : Str} {a : Addr} {xs : List Str} (h : H a = some (.lst (sVs xs))) : RV (rIn K true) (.str s) (.ref a) H (.bl (!xs.contains s)) := fun H1 e Q q => ⟨a, sVs xs, rfl, .inl (sq_of (e _ _ h)), rfl, sVs_flat xs, by rw [if_pos rfl, sVs_in]; exact q H1 (Ex.refl _)⟩
end
theorem dS_mono : ∀ {a b : Nat}, a ≤ b → dS a ≤ dS b := fun {a b} h => by
  induction h with
  | refl => exact Nat.le_refl _
  | step _ ih => exact Nat.le_trans ih (by show _ ≤ 2 * _ + 45; omega)
theorem zS_mono : ∀ {a b : Nat}, a ≤ b → zS a ≤ zS b := fun {a b} h => by
  induction h with
  | refl => exact Nat.le_refl _
  | step _ ih => exact Nat.le_trans ih (by show _ ≤ 2 * _ + 4; omega)
theorem eq_int (i j : Int) : decide (V.int i = V.int j) = decide (i = j) := decide_eq_decide.mpr ⟨fun z => V.int.inj z, fun z => by rw [z]⟩
theorem eq_int0 (d : Nat) : decide (V.int (d : Nat) = V.int 0) = decide (d = 0) := decide_eq_decide.mpr ⟨fun z => by have := V.int.inj z; omega, fun z => by rw [z]; rfl⟩
abbrev tPickS (K : PySem.W.Frag) (ta : TA) : TE := tCall (spPick K) [] E0 (tCons (tVar 0) (tCons (tLst ta) tNil))
abbrev tSnC (m : Nat) (K : PySem.W.Frag) : TS := tSeq (tAsg (tPickS K (tCons (tC (.str "X")) (tCons (tC (.str "Y")) (tCons (tC (.str "Z")) (tCons (tC (.str "X1")) tNil))))) (gName 10))
 (tSeq (tAsg (tOp rCat (tVar 2) (tIf (tTest (tOp (rIn K true) (tVar 10) (tVar 2))) (tLst (tCons (tVar 10) tNil)) (tLst tNil))) (gName 11))
 (tSeq (tAsg (tSn m (tVar 11) (tCB rMax2 (tCons (tC (.int 0)) (tCons tPred tNil)))) (gName 8))
 (tRet (tTup (tCons (tPickS K (tCons (tC (.str "all")) (tCons (tC (.str "some")) tNil))) (tCons (tVar 10) (tCons (tVar 8) tNil)))))))
section
variable {P : Program} {w : World} {K : PySem.W.Frag} {mg : Str → Option Value} {base : Heap}
theorem ok_sentence_d (T : T02 P w K mg base) : ∀ m, Ok P w K mg base CX0 "_law_a_sentence" ["_law_stream", "_law_raw", "_law_scope", "_law_depth", "_law_is_equal"] (m + 7) (spSn m)
  | 0 => T.ok 25 rfl sc_sn (fun vs H Q E h => by obtain ⟨p, q, rt, s, n, ar, pr, sc, d, rfl, _⟩ := h; rfl) (fun kV doc pm an cdv ct us hl => match us, hl with | [_, _, _, _, _], _ => rfl) (fun f cdv A outer s H vs Q E hr h => by obtain ⟨p, q, rt, s, n, ar, pr, sc, d, _, _, _, _, _, _, _, _, _, h0, _⟩ := h; exact absurd h0 (Nat.not_lt_zero _))
  | m + 1 => by
    obtain ⟨fR, dR, GR, bR, kR, mR⟩ := (ok_sentence_d T m).ex
    obtain ⟨fD, dD, GD, bD, kD, mD⟩ := (ok_dr T).ex
    obtain ⟨fK, dK, GK, bK, kK, mK⟩ := (ok_pick T).ex
    obtain ⟨fA, dA, GA, bA, kA, mA⟩ := (ok_atom T).ex
    refine T.ok 25 rfl sc_sn (fun vs H Q E h => by obtain ⟨p, q, rt, s, n, ar, pr, sc, d, rfl, _⟩ := h; rfl) (fun kV doc pm an cdv ct us hl => match us, hl with | [_, _, _, _, _], _ => rfl) (fun f cdv A outer st H vs Q E hr h => ?_)
    obtain ⟨p, q, rt, s, n, ar, pr, sc, d, rfl, S, hn, hrw, R, hsc, s1, s2, So, hd, k⟩ := h
    refine ⟨_, pss_cons (ps_par (i := 5) (j := 6) rfl sc_sn.nd rfl rfl (by decide) rfl rfl (pa_cons (pe_call GD (hr.mono (by omega)) (by rfl) mD kD bD .nil pass0 (pa_cons (pv 0) (pa_cons pe_int pa_nil))) (pa_cons (pe_call GA (hr.mono (by omega)) (by rfl) mA kA bA .nil pass0 (pa_cons (pv 0) (pa_cons (pv 1) (pa_cons (pv 2) (pa_cons pe_int (pa_cons (pv 4) pa_nil)))))) pa_nil)) (by rfl))
      (pss_cons (ps_if (PW.pt (pw_and (pt_cmp (pc_notN (pv 6))) (pw_and1 (PW.pt (pw_or (pt_cmpR op_eq (pv 3) pe_int (nomark _)) (pw_or1 (pt_cmpR op_eq (pv 5) pe_int (nomark _)))))))) (pss_one (ps_ret (pv 6))) pss_nil)
      (pss_cons (ps_if (PW.pt (pw_and (pt_cmpR op_gt (pv 3) pe_int (nomark _)) (pw_and (pt_cmp (pc_notN (pv 6))) (pw_and1 (pt_cmpR op_lt (pv 5) pe_int (nomark _))))))
        (pss_cons (ps_if (pt_cmpR op_eq (pv 5) pe_int (nomark _)) (pss_one (ps_ret (pe_tup (pa_cons pe_str (pa_cons (pe_call GR hr (by rfl) mR kR bR .nil pass0 (pa_cons (pv 0) (pa_cons (pv 1) (pa_cons (pv 2) (pa_cons (pe_op op_sub (pv 3) pe_int) (pa_cons (pv 4) pa_nil)))))) pa_nil))))) pss_nil)
        (pss_cons (ps_set (i := 7) sc_sn.nd rfl (Or.inl rfl) (pe_call GK (hr.mono (by omega)) (by rfl) mK kK bK .nil pass0 (pa_cons (pv 0) (pa_cons (pe_lst (pa_cons pe_str (pa_cons pe_str (pa_cons pe_str (pa_cons pe_str pa_nil))))) pa_nil))))
        (pss_cons (ps_setLc (i := 9) (own := [("_law_part", 8)]) (g := gName 8) (tt := tYes) (te := tSn m (tVar 2) tPred) (by rfl) sc_sn.nd rfl rfl (sw_true rfl rfl rfl (by decide +kernel)) (pi_range1 (by rfl) T.range (pa_cons pe_int pa_nil)) (blkOk_by (N := nSn) (sc := defScope s__law_a_sentence) (by decide +kernel))
            (fun _ _ _ _ _ => pg_name (i := 8) sc_sn.nd rfl (Or.inl rfl)) (fun _ _ _ _ _ => pts_nil) (fun _ _ _ _ _ => pe_call GR hr (by rfl) mR kR bR .nil pass0 (pa_cons (pv 0) (pa_cons (pv 1) (pa_cons (pv 2) (pa_cons (pe_op op_sub (pv 3) pe_int) (pa_cons (pv 4) pa_nil)))))))
        (pss_one (ps_ret (pe_tup (pa_cons (pv 7) (pa_cons (pe_ix ix_list (pv 9) pe_int (fun _ _ => rfl)) (pa_cons (pe_ix ix_list (pv 9) pe_int (fun _ _ => rfl)) pa_nil))))))))) pss_nil)
      (pss_cons (ps_set (i := 10) sc_sn.nd rfl (Or.inl rfl) (pe_call GK (hr.mono (by omega)) (by rfl) mK kK bK .nil pass0 (pa_cons (pv 0) (pa_cons (pe_lst (pa_cons pe_str (pa_cons pe_str (pa_cons pe_str (pa_cons pe_str pa_nil))))) pa_nil))))
      (pss_cons (ps_set (i := 11) sc_sn.nd rfl (Or.inl rfl) (pe_op op_cat (pv 2) (pe_ifExp (pt_cmpR op_notIn_seq (pv 10) (pv 2) (by rfl)) (pe_lst (pa_cons (pv 10) pa_nil)) (pe_lst pa_nil))))
      (pss_cons (ps_set (i := 8) sc_sn.nd rfl (Or.inl rfl) (pe_call GR hr (by rfl) mR kR bR .nil pass0 (pa_cons (pv 0) (pa_cons (pv 1) (pa_cons (pv 11) (pa_cons (pe_callB (call_max2 rfl) (by rfl) T.max (by decide +kernel) (pa_cons pe_int (pa_cons (pe_op op_sub (pv 3) pe_int) pa_nil))) (pa_cons (pv 4) pa_nil)))))))
      (pss_one (ps_ret (pe_tup (pa_cons (pe_call GK (hr.mono (by omega)) (by rfl) mK kK bK .nil pass0 (pa_cons (pv 0) (pa_cons (pe_lst (pa_cons pe_str (pa_cons pe_str pa_nil))) pa_nil))) (pa_cons (pv 10) (pa_cons (pv 8) pa_nil))))))))))), ?_⟩
    have hμ : mu sc d = d + if sc.isEmpty then 1 else 0 := rfl
    have hz := zS_ge (mu sc d)
    -- a call of itself
    have rec_ : ∀ {σ : L2.St} {J : Hp} {n2 : Int} {Q' : VK} {s' : Addr} {sd : List Str} {d' : Nat} {te td : TE}, σ[0]? = some (some (.ref p)) → σ[1]? = some (some (.ref rt)) → Ev te σ J (.ref s') → Ev td σ J (.int (d' : Nat)) → σ[4]? = some (some (.bl true)) → Spr J p q n2 → But p q H J → J s' = some (.lst (sVs sd)) → s' ≠ p → s' ≠ q → ScV sd → mu sd d' < mu sc d → n2 + (dS (mu sd d') : Nat) < 6900000 →
        (∀ v o n3 G, SnP ar pr sd (3 + (mu sc d - 1)) (zS (mu sc d - 1)) o → OV G v o → Spr G p q n3 → n3 ≤ n2 + (dS (mu sc d - 1) : Nat) → But p q J G → Q' v G) → tSn m te td σ J Q' := fun {σ J n2 Q' s' sd d' te td} z0 z1 z2 z3 z4 Sj B hs' a1 a2 hsd hmu hn2 kz => by
      refine ⟨_, z0, _, z1, z2 J (Ex.refl _) _ fun J2 e2 => z3 J2 e2 _ fun J3 e3 => ⟨_, z4, p, q, rt, s', n2, ar, pr, sd, d', rfl, (Sj.ext e2).ext e3, hn2, (hrw.but S B).ext (e2.trans e3), R, (e2.trans e3) _ _ hs', a1, a2, hsd, by omega, fun v o n3 G hv ov S3 hn3 B3 => ?_⟩⟩
      have hle : mu sd d' ≤ mu sc d - 1 := by omega
      refine kz v o n3 G (hv.mono (by omega) (zS_mono hle)) ov S3 ?_ ((But.of (e2.trans e3)).trans B3)
      have := dS_mono hle
      omega
    have hdS : 0 < mu sc d → dS (mu sc d) = 2 * dS (mu sc d - 1) + 45 := fun h => by
      obtain ⟨j, hj⟩ : ∃ j, mu sc d = j + 1 := ⟨mu sc d - 1, by omega⟩
      rw [hj]
      rfl
    have hzS : 0 < mu sc d → zS (mu sc d) = 2 * zS (mu sc d - 1) + 4 := fun h => by
      obtain ⟨j, hj⟩ : ∃ j, mu sc d = j + 1 := ⟨mu sc d - 1, by omega⟩
      rw [hj]
      rfl
    -- what binds
    have goC : ∀ (G : Hp) (n1 : Int) (x5 x6 : Option V), But p q H G → Spr G p q n1 → n1 ≤ n + 41 → (0 < d ∨ sc = []) → tSnC m K { nx := fun _ H' => Q .non H', rt := Q } [some (.ref p), some (.ref rt), some (.ref s), some (.int (d : Nat)), some (.bl true), x5, x6, none, none, none, none, none] G := fun G n1 x5 x6 B S1 hn1 hd0 => by
      have hm0 : 0 < mu sc d := by
        rcases hd0 with h | h
        · omega
        · rw [hμ, h]
          show 0 < d + 1
          omega
      have hd1 := hdS hm0
      refine q_asgR (pick_strs (ss := ["X", "Y", "Z", "X1"]) rfl (el_lits (fun J e Q q => q J (Ex.refl _)) (by decide)) S1 (by omega) (by decide) (by decide) fun x hx G1 S2 B1 => ?_)
      have BG1 := B.trans B1
      refine q_asgLP (P := fun zs _ => zs = sVs (sc ++ if !sc.contains x then [x] else [])) ?_ fun c zs G2 hc e2 h2 hz2 => ?_
      · have := elp_catV (σ := [some (.ref p), some (.ref rt), some (.ref s), some (.int (d : Nat)), some (.bl true), x5, x6, none, none, none, some (.str x), none]) (ta := tVar 2) (tb := tIf (tTest (tOp (rIn K true) (tVar 10) (tVar 2))) (tLst (tCons (tVar 10) tNil)) (tLst tNil)) (P := fun ys _ => ys = sVs (if !sc.contains x then [x] else [])) (ev_var rfl) (BG1 _ _ s1 s2 hsc)
          (elp_if (b := !sc.contains x) (et_test (ev_op (ev_var rfl) (ev_var rfl) (rv_niL (BG1 _ _ s1 s2 hsc)))) (fun h => elp_ofL (el_lits (ea_cons (ev_var rfl) ea_nil) (by show 1 ≤ 1000; omega)) fun _ => by rw [h]; rfl) (fun h => elp_ofL (el_lits ea_nil (by decide)) fun _ => by rw [h]; rfl)) (fun _ => fun _ _ _ h => h) (fun ys J h => by rw [h, sVs_len, sVs_len]; have := So.o.len; split <;> (simp; omega))
        exact fun J e Q q => this J e Q fun a xs J2 ha e hx ⟨ys, hy, hys⟩ => q a xs J2 ha e hx (by rw [hy, hys, sVs_app])
      subst hz2
      have nc := S2.nep hc
      have hmx : (if ((d : Nat) : Int) - 1 > 0 then ((d : Nat) : Int) - 1 else 0) = ((d - 1 : Nat) : Int) := by
        split <;> omega
      have hmu : mu (sc ++ if !sc.contains x then [x] else []) (d - 1) = d - 1 := by
        unfold mu
        cases h : (sc ++ if !sc.contains x then [x] else []) with
        | nil => exact absurd h ScV.addne
        | cons _ _ => rfl
      have hmu2 : mu (sc ++ if !sc.contains x then [x] else []) (d - 1) < mu sc d := by
        rw [hmu, hμ]
        rcases hd0 with h | h
        · omega
        · rw [h]
          show d - 1 < d + 1
          omega
      have hdm : dS (mu (sc ++ if !sc.contains x then [x] else []) (d - 1)) ≤ dS (mu sc d - 1) := dS_mono (by omega)
      refine q_asgR (rec_ rfl rfl (ev_var rfl) (ev_is (ev_max2 ev_c (ev_op (ev_var rfl) ev_c rv_I0)) (by rw [hmx])) rfl (S2.ext e2) (BG1.trans (But.of e2)) h2 nc.1 nc.2 (So.add hx) hmu2 (by omega) fun v o n3 G3 hv ov S3 hn3 B3 => ?_)
      refine pick_strs (ss := ["all", "some"]) rfl (el_lits (fun J e Q q => q J (Ex.refl _)) (by decide)) S3 (by omega) (by decide) (by decide) fun b hb G4 S4 B4 => ?_
      refine ⟨_, rfl, _, rfl, by show 3 ≤ sizeLine; decide, fun t nt => ?_⟩
      have xt : Ex G4 (upd G4 t (.tup [.str b, .str x, v])) := Ex.new nt
      have hzz := zS_ge (mu sc d - 1)
      have hS := sn_bind (s := b) (v := x) hb hx ScV.addsub (by omega) hv
      refine k (.ref t) _ (n3 + 1) _ (hS.mono (by omega) (by have := hzS hm0; omega)) ⟨t, _, rfl, upd_same, .cons rfl (.cons rfl (.cons ((OV.tx (S3.tx B4) hv.dr.noL hv.dr.nod ov).ext xt) .nil))⟩ (S4.ext xt) (by omega) (((BG1.trans (But.of e2)).trans B3).trans (B4.trans (But.of xt)))
    have hD41 := dS_ge (mu sc d)
    refine ⟨_, rfl, p, q, n, 9, rfl, S, by omega, by decide, by decide, fun way G1 r0 r1 S1 B1 => ?_⟩
    have hscG1 := B1 _ _ s1 s2 hsc
    refine ⟨_, rfl, _, rfl, _, rfl, _, rfl, p, q, rt, s, n + 1, ar, pr, sc, rfl, S1, by omega, hrw.but S B1, R, hscG1, s1, s2, So.o, fun hA v o n' G hv ov S2 hn2 B2 => ?_, fun hA G e => ?_⟩
    · have hv0 : decide (v = V.non) = false := decide_eq_false fun z => by
        have h := hv.tp
        subst z
        cases o with
        | tup xs => obtain ⟨a, _, h, _⟩ := ov; cases h
        | _ => cases h
      have BG := B1.trans B2
      refine ⟨_, _, rfl, ?_⟩
      refine q_when (b := true && (decide (d = 0) || decide (way = 0))) (et_and (et_B (ev_notN (ev_var rfl) (by rw [hv0]; rfl))) fun _ => et_or (et_is (et_test (ev_op (ev_var rfl) ev_c (rv_eq rfl))) (eq_int0 d)) fun _ => et_is (et_test (ev_op (ev_var rfl) ev_c (rv_eq rfl))) (eq_int way 0)) (fun hb J eJ => ?_) fun hb J eJ => ?_
      · exact s_ret (ev_var rfl) fun J2 e2 => k v o n' J2 (hv.mono (by omega) (by omega)) (ov.ext (eJ.trans e2)) (S2.ext (eJ.trans e2)) (by omega) (BG.trans (But.of (eJ.trans e2)))
      · rw [Bool.true_and, Bool.or_eq_false_iff] at hb
        have hd0 : 0 < d := Nat.pos_of_ne_zero (of_decide_eq_false hb.1)
        have hm0 : 0 < mu sc d := by omega
        have hd1 := hdS hm0
        have BJ := BG.trans (But.of eJ)
        have hmu2 : mu sc (d - 1) < mu sc d := by unfold mu; omega
        have hdm : dS (mu sc (d - 1)) ≤ dS (mu sc d - 1) := dS_mono (by omega)
        have pred : ∀ {σ : L2.St} {J : Hp}, σ[3]? = some (some (.int (d : Nat))) → Ev tPred σ J (.int ((d - 1 : Nat) : Int)) := fun h => ev_is (ev_op (ev_var h) ev_c rv_I0) (by show V.int ((d : Nat) - 1) = _; congr 1; omega)
        refine q_when (b := decide (0 < d) && (true && decide (way < 5))) (et_and (et_is (et_test (ev_op (ev_var rfl) ev_c rv_I0)) (decide_eq_decide.mpr (by omega))) fun _ => et_and (et_B (ev_notN (ev_var rfl) (by rw [hv0]; rfl))) fun _ => et_test (ev_op (ev_var rfl) ev_c rv_I0)) (fun hw J1 e1 => ?_) fun hw J1 e1 => ?_
        · have BJ1 := BJ.trans (But.of e1)
          have SJ1 := (S2.ext eJ).ext e1
          have hscJ := BJ1 _ _ s1 s2 hsc
          refine q_when (b := decide (way = 1)) (et_is (et_test (ev_op (ev_var rfl) ev_c (rv_eq rfl))) (eq_int way 1)) (fun hw1 J2 e2 => ?_) fun hw1 J2 e2 => ?_
          · refine rec_ rfl rfl (ev_var rfl) (pred rfl) rfl (SJ1.ext e2) (BJ1.trans (But.of e2)) (e2 _ _ hscJ) s1 s2 So hmu2 (by omega) fun v' o' n3 G3 hv' ov' S3 hn3 B3 => ?_
            refine ⟨by show 2 ≤ sizeLine; decide, fun t nt => ?_⟩
            have xt : Ex G3 (upd G3 t (.tup [.str "not", v'])) := Ex.new nt
            exact k (.ref t) _ n3 _ ((sn_not hv').mono (by omega) (by have := hzS hm0; omega)) ⟨t, _, rfl, upd_same, .cons rfl (.cons (ov'.ext xt) .nil)⟩ (S3.ext xt) (by omega) (((BJ1.trans (But.of e2)).trans B3).trans (But.of xt))
          · refine q_asgR (pick_strs (ss := ["and", "or", "then", "iff"]) rfl (el_lits (fun J e Q q => q J (Ex.refl _)) (by decide)) (SJ1.ext e2) (by omega) (by decide) (by decide) fun jn hjn G3 S3 B3 => ?_)
            have BG3 := (BJ1.trans (But.of e2)).trans B3
            refine q_asgR (lc_draw (σ := [some (.ref p), some (.ref rt), some (.ref s), some (.int (d : Nat)), some (.bl true), some (.int way), some v, some (.str jn), none, none, none, none]) (j := 8) (vs := [8]) (k := 2) (st := dS (mu sc d - 1)) (n := n' + 1) (Pz := fun _ o => SnP ar pr sc (3 + (mu sc d - 1)) (zS (mu sc d - 1)) o) ev_c (by omega) S3 (fun i o ho => ⟨ho.dr.noL, ho.dr.nod⟩) (fun x => rfl) (fun i n3 G4 Q' hi B4 S4 hn3 kz => ?_) fun c acc os n3 G5 hc hG5 hos hol hwq S5 hn3 B5 => ?_)
            · have hi1 : (dS (mu sc d - 1) : Int) * (i : Int) ≤ (dS (mu sc d - 1) : Int) * 1 := Int.mul_le_mul_of_nonneg_left (by omega) (by omega)
              exact rec_ rfl rfl (ev_var rfl) (pred rfl) rfl S4 (BG3.trans B4) ((BG3.trans B4) _ _ s1 s2 hsc) s1 s2 So hmu2 (by omega) fun v' o' n4 G6 hv' ov' S6 hn4 B6 => kz v' o' n4 G6 hv' ov' S6 hn4 B6
            · obtain ⟨o1, o2, rfl⟩ : ∃ o1 o2, os = [o1, o2] := by
                match os, hol with
                | [a, b], _ => exact ⟨a, b, rfl⟩
              obtain ⟨w1, us1, rfl, ow1, w2, us2, rfl, ow2, h0⟩ := hos
              obtain rfl : us2 = [] := h0
              have q1 := hwq 0 o1 rfl
              have q2 := hwq 1 o2 rfl
              refine ⟨_, rfl, _, rfl, ⟨c, _, 0, w1, rfl, rfl, sq_of hG5, rfl, ?_⟩⟩
              refine ⟨_, rfl, ⟨c, _, 1, w2, rfl, rfl, sq_of hG5, rfl, by show 3 ≤ sizeLine; decide, fun t nt => ?_⟩⟩
              have xt : Ex G5 (upd G5 t (.tup [.str jn, w1, w2])) := Ex.new nt
              exact k (.ref t) _ n3 _ ((sn_join hjn q1 q2).mono (by omega) (by have := hzS hm0; omega)) ⟨t, _, rfl, upd_same, .cons rfl (.cons (ow1.ext xt) (.cons (ow2.ext xt) .nil))⟩ (S5.ext xt) (by omega) ((BG3.trans B5).trans (But.of xt))
        · exact goC J1 n' _ _ (BJ.trans (But.of e1)) ((S2.ext eJ).ext e1) (by omega) (.inl hd0)
    · have hsc0 : sc = [] := Classical.byContradiction fun h => by rw [bareL_ne h] at hA; cases hA
      refine ⟨_, _, rfl, ?_⟩
      refine q_when (b := false && false) (et_and (et_B (ev_notN (ev_var rfl) rfl)) fun z => nomatch z) (fun hb => nomatch hb) fun hb J eJ => ?_
      refine q_when (b := decide (0 < d) && false) (et_and (et_is (et_test (ev_op (ev_var rfl) ev_c rv_I0)) (decide_eq_decide.mpr (by omega))) fun _ => et_is (et_and (b := false) (et_B (ev_notN (ev_var rfl) rfl)) fun z => nomatch z) rfl) (fun hb => by rw [Bool.and_false] at hb; cases hb) fun hb J1 e1 => ?_
      exact goC J1 (n + 1) _ _ (B1.trans (But.of ((e.trans eJ).trans e1))) (((S1.ext e).ext eJ).ext e1) (by omega) (.inr hsc0)
end
end K02

set_option Elab.async false
set_option linter.all false
set_option maxRecDepth 100000
set_option maxHeartbeats 4000000
/-! Drawn axioms. -/
namespace K02
open PySem PySem.Spec PyProof.Rows L2 Evl LamX
def poolA : List Str := ["a1", "a2", "a3", "top", "base", "rule1", "p", "zz", "c", "last9"]
theorem poolA_ok : poolA.all (fun s => nameB s && SS.contains s) = true := by decide +kernel
theorem poolA_nd : poolA.Nodup := by decide +kernel
/-- a named sentence -/
def rowO (r : Str × O) : O := .tup [.str r.1, r.2]
structure AxR (ar pr : List (Str × Nat)) (d z : Nat) (rs : List (Str × O)) : Prop where
  nm : ∀ r ∈ rs, r.1 ∈ poolA
  sn : ∀ r ∈ rs, SnP ar pr [] d z r.2
  nd : (rs.map (·.1)).Nodup
  len : rs.length ≤ 5
theorem rowO_dr {ar pr : List (Str × Nat)} {d z : Nat} {rs : List (Str × O)} (A : AxR ar pr d z rs) (hz : 1 ≤ z) {r : Str × O} (hr : r ∈ rs) : Dr (rowO r) (d + 1) (z + 2) := by
  have := List.all_eq_true.mp poolA_ok _ (A.nm r hr)
  rw [Bool.and_eq_true] at this
  refine (Dr.tup (os := [r.2]) (d := d) (z := z) (List.contains_iff_mem.mp this.2) fun x hx => ?_).mono (Nat.le_refl _) (by show 1 * z + 2 ≤ _; omega)
  obtain rfl := List.mem_singleton.mp hx
  exact (A.sn r hr).dr
def vTxt : V → Str
  | .str s => s
  | _ => ""
theorem perm_strs {ys : List V} {ss : List Str} (h : ys.Perm (sVs ss)) : ∃ ts, ys = sVs ts ∧ ts.Perm ss := by
  refine ⟨ys.map vTxt, ?_, ?_⟩
  · have : ∀ y ∈ ys, V.str (vTxt y) = y := fun y hy => by
      have := h.mem_iff.mp hy
      unfold sVs at this
      obtain ⟨s, _, rfl⟩ := List.mem_map.mp this
      rfl
    unfold sVs
    rw [List.map_map]
    clear h
    induction ys with
    | nil => rfl
    | cons y ys ih =>
      rw [List.map_cons, ← ih fun z hz => this z (by simp [hz])]
      congr 1
      exact (this y (by simp)).symm
  · have := h.map vTxt
    unfold sVs at this
    rw [List.map_map] at this
    have e : (vTxt ∘ V.str) = id := by funext s; rfl
    rw [e, List.map_id] at this
    exact this
theorem rows_of {ar pr : List (Str × Nat)} {d z : Nat} {ts : List Str} : ∀ (os : List O) (j : Nat), (∀ (i : Nat) (o : O), os[i]? = some o → ∃ s a, o = rowO (s, a) ∧ ts[j + i]? = some s ∧ SnP ar pr [] d z a) → ∃ rs : List (Str × O), os = rs.map rowO ∧ rs.map (·.1) = (ts.drop j).take os.length ∧ ∀ r ∈ rs, SnP ar pr [] d z r.2
  | [], j, _ => ⟨[], rfl, by simp, fun r h => (nomatch h)⟩
  | o :: os, j, h => by
    obtain ⟨s, a, e1, e2, e3⟩ := h 0 o rfl
    obtain ⟨rs, r1, r2, r3⟩ := rows_of (ar := ar) (pr := pr) (d := d) (z := z) (ts := ts) os (j + 1) fun i x hx => by
      have := h (i + 1) x (by simpa using hx)
      rw [show j + (i + 1) = j + 1 + i by omega] at this
      exact this
    refine ⟨(s, a) :: rs, by rw [e1, r1]; rfl, ?_, fun r hr => ?_⟩
    · have hj : j < ts.length := by
        rcases Nat.lt_or_ge j ts.length with h | h
        · exact h
        · rw [Nat.add_zero, List.getElem?_eq_none h] at e2
          cases e2
      rw [Nat.add_zero] at e2
      rw [List.drop_eq_getElem_cons hj, List.length_cons, List.take_succ_cons, List.map_cons, r2]
      congr 1
      rw [List.getElem?_eq_getElem hj] at e2
      exact (Option.some.inj e2).symm
    · rcases List.mem_cons.mp hr with rfl | hr
      · exact e3
      · exact r3 r hr
abbrev nAs : List Str := ["_law_stream", "_law_raw", "_law_many", "_law_depth", "_law_is_equal", "_law_names", "_law_at"]
theorem sc_as : FnScope nAs ["_law_stream", "_law_raw", "_law_many", "_law_depth", "_law_is_equal"] (defScope s__law_a_axioms) := ⟨rfl, rfl, rfl, by decide +kernel, rfl, by decide +kernel, by decide +kernel⟩
def spAs : Sp := fun vs H Q _ => ∃ (p q rt : Addr) (n : Int) (ar pr : List (Str × Nat)) (k : Nat), vs = [.ref p, .ref rt, .int (k : Nat), .int 3, .bl true] ∧ Spr H p q n ∧ n < 6000000 ∧ RwV H p q rt ar pr ∧ Raw ar pr ∧ k ≤ 5 ∧
  ∀ (c : Addr) (acc : List V) (rs : List (Str × O)) (n' : Int) (G : Hp), H c = none → G c = some (.lst acc) → OVs G acc (rs.map rowO) → AxR ar pr 7 284 rs → rs.length = k → Spr G p q n' → n' ≤ n + 10000 → But p q H G → Q (.ref c) G
section
variable {P : Program} {w : World} {K : PySem.W.Frag} {mg : Str → Option Value} {base : Heap}
theorem ok_axioms_d (T : T02 P w K mg base) : Ok P w K mg base CX0 "_law_a_axioms" ["_law_stream", "_law_raw", "_law_many", "_law_depth", "_law_is_equal"] 13 spAs := by
  obtain ⟨fR, dR, GR, bR, kR, mR⟩ := (ok_sentence_d T 5).ex
  obtain ⟨fM, dM, GM, bM, kM, mM⟩ := (ok_mixed T).ex
  refine T.ok 26 rfl sc_as (fun vs H Q E h => by obtain ⟨p, q, rt, n, ar, pr, d, rfl, _⟩ := h; rfl) (fun kV doc pm an cdv ct us hl => match us, hl with | [_, _, _, _, _], _ => rfl) (fun f cdv A outer st H vs Q E hr h => ?_)
  obtain ⟨p, q, rt, n, ar, pr, many, rfl, S, hn, hrw, R, hm, k⟩ := h
  refine ⟨_, pss_cons (ps_set (i := 5) sc_as.nd rfl (Or.inr rfl) (pe_call GM (hr.mono (by omega)) (by rfl) mM kM bM .nil pass0 (pa_cons (pv 0) (pa_cons (pe_lst (pa_cons pe_str (pa_cons pe_str (pa_cons pe_str (pa_cons pe_str (pa_cons pe_str (pa_cons pe_str (pa_cons pe_str (pa_cons pe_str (pa_cons pe_str (pa_cons pe_str pa_nil))))))))))) pa_nil))))
    (pss_one (ps_ret (pe_lc (own := [("_law_at", 6)]) (g := gName 6) (tt := tYes) (te := tTup (tCons (tOp (rIxL K) (tVar 5) (tVar 6)) (tCons (tCall (spSn 5) [] E0 (tCons (tVar 0) (tCons (tVar 1) (tCons (tLst tNil) (tCons (tVar 3) (tCons (tVar 4) tNil)))))) tNil))) rfl sc_as.nd (pi_range1 (by rfl) T.range (pa_cons (pv 2) pa_nil)) (blkOk_by (N := nAs) (sc := defScope s__law_a_axioms) (by decide +kernel))
        (fun _ _ _ _ _ => pg_name (i := 6) sc_as.nd rfl (Or.inl rfl)) (fun _ _ _ _ _ => pts_nil) (fun _ _ _ _ _ => pe_tup (pa_cons (pe_ix ix_list (pv 5) (pv 6) (fun _ _ => rfl)) (pa_cons (pe_call GR (hr.mono (by omega)) (by rfl) mR kR bR .nil pass0 (pa_cons (pv 0) (pa_cons (pv 1) (pa_cons (pe_lst pa_nil) (pa_cons (pv 3) (pa_cons (pv 4) pa_nil)))))) pa_nil)))))), ?_⟩
  refine q_asgR ⟨_, rfl, by show 10 ≤ sizeLine; decide, fun c0 nc0 => ⟨p, q, c0, n, sVs poolA, rfl, S.ext (Ex.new nc0), by show n + 10 < _; omega, by decide, sq_of upd_same, fun nm G ys hnm0 hnm hp S1 B1 => ?_⟩⟩
  obtain ⟨ts, rfl, htp⟩ := perm_strs hp
  have htl : ts.length = 10 := htp.length_eq
  have nn : nm ≠ p ∧ nm ≠ q := S.nep (fresh_back (Ex.new nc0) hnm0)
  have hlen : ((sVs poolA).length : Int) = 10 := rfl
  rw [hlen] at S1
  have B0 : But p q H G := (But.of (Ex.new nc0)).trans B1
  refine lc_draw (σ := [some (.ref p), some (.ref rt), some (.int (many : Nat)), some (.int 3), some (.bl true), some (.ref nm), none]) (j := 6) (vs := [6]) (k := many) (st := 1331) (n := n + 10) (Pz := fun i o => ∃ s a, o = rowO (s, a) ∧ ts[i]? = some s ∧ SnP ar pr [] 7 284 a) (ev_var rfl) (by omega) S1 (fun i o ⟨s, a, h1, h2, h3⟩ => ?_) (fun x => rfl) (fun i n3 G4 Q' hi B4 S4 hn3 kz => ?_) fun c acc os n3 G5 hc hG5 hos hol hwq S5 hn3 B5 => ?_
  · subst h1
    exact ⟨show (false || (a.hasL || false)) = false by rw [h3.dr.noL]; rfl, show (true && (a.nod && true)) = true by rw [h3.dr.nod]; rfl⟩
  · have hit : i < ts.length := by omega
    have hnm4 := B4 _ _ nn.1 nn.2 hnm
    have hi2 : (1331 : Int) * (i : Int) ≤ 1331 * 5 := Int.mul_le_mul_of_nonneg_left (by omega) (by omega)
    refine ⟨_, rfl, _, rfl, nm, sVs ts, _, .str ts[i], rfl, rfl, sq_of hnm4, atI_nat (by unfold sVs; rw [List.getElem?_map, List.getElem?_eq_getElem hit]; rfl), ?_⟩
    refine ⟨_, rfl, _, rfl, by show 0 ≤ sizeLine; omega, fun s' ns' => ⟨_, rfl, _, rfl, p, q, rt, s', n3, ar, pr, [], 3, rfl, S4.ext (Ex.new ns'), ?_, (hrw.but S (B0.trans B4)).ext (Ex.new ns'), R, upd_same, (S4.nep ns').1, (S4.nep ns').2, ScV.nil, by decide, fun v o n4 G6 hv ov S6 hn6 B6 => ?_⟩⟩
    · have : (dS (mu [] 3) : Nat) = 1331 := rfl
      rw [this]
      omega
    · have h1331 : (dS (mu [] 3) : Nat) = 1331 := rfl
      rw [h1331] at hn6
      refine ⟨by show 2 ≤ sizeLine; decide, fun t nt => ?_⟩
      have xt : Ex G6 (upd G6 t (.tup [.str ts[i], v])) := Ex.new nt
      exact kz (.ref t) (rowO (ts[i], o)) n4 _ ⟨ts[i], o, rfl, List.getElem?_eq_getElem hit, hv⟩ ⟨t, _, rfl, upd_same, .cons rfl (.cons (ov.ext xt) .nil)⟩ (S6.ext xt) hn6 ((But.of (Ex.new ns')).trans (B6.trans (But.of xt)))
  · obtain ⟨rs, rfl, r2, r3⟩ := rows_of (ar := ar) (pr := pr) (d := 7) (z := 284) (ts := ts) os 0 fun i o h => by rw [Nat.zero_add]; exact hwq i o h
    rw [List.drop_zero, hol] at r2
    rw [List.length_map] at hol
    have hsub : ∀ s ∈ rs.map (·.1), s ∈ poolA := fun s hs => htp.mem_iff.mp (List.mem_of_mem_take (r2 ▸ hs))
    have hmi : (1331 : Int) * (many : Int) ≤ 1331 * 5 := Int.mul_le_mul_of_nonneg_left (by omega) (by omega)
    refine k c acc rs n3 G5 ?_ hG5 hos ⟨fun r hr => hsub _ (List.mem_map_of_mem hr), r3, ?_, by omega⟩ hol S5 (by omega) (B0.trans B5)
    · rcases hx : H c with _ | x
      · rfl
      · have := B0 c x ?_ ?_ hx
        · rw [hc] at this; cases this
        · intro z; rw [z] at hc; obtain ⟨L, _, h, _⟩ := S1.lst; rw [hc] at h; cases h
        · intro z; rw [z] at hc; obtain ⟨_, L, _, h⟩ := S1.lst; rw [hc] at h; cases h
    · rw [r2]
      exact (List.take_sublist _ _).nodup (htp.nodup_iff.mpr poolA_nd)
end
end K02

set_option Elab.async false
set_option linter.all false
set_option maxRecDepth 100000
set_option maxHeartbeats 4000000
/-! Drawn names. -/
namespace K02
open PySem PySem.Spec PyProof.Rows L2 Evl LamX
section
variable {K : PySem.W.Frag} {H G : Hp} {σ : L2.St} {tl te ta tb : TE} {t : TT} {j : Nat} {vs : List Nat}
/-- [(name, ..) for name in names], the places drawn -/
theorem lc_drawS {p q : Addr} {n : Int} {st : Nat} {ns : List Str} {Q : VK} (hl : EvL tl σ H (sVs ns)) (hk : ns.length ≤ 1000) (S : Spr H p q n)
    (hw : ∀ x, wipe ((wipe σ vs).set j (some x)) vs = wipe σ vs)
    (hi : ∀ s ∈ ns, ∀ (i : Nat) (n1 : Int) (G : Hp) (Q' : VK), i < ns.length → But p q H G → Spr G p q n1 → n1 ≤ n + (st : Int) * (i : Int) → (∀ v (a : Nat) n2 G2, a ≤ 2 → OV G2 v (prO (s, a)) → Spr G2 p q n2 → n2 ≤ n1 + (st : Int) → But p q G G2 → Q' v G2) → te ((wipe σ vs).set j (some (.str s))) G Q')
    (kk : ∀ c acc (ps : List (Str × Nat)) n' G, H c = none → G c = some (.lst acc) → OVs G acc (ps.map prO) → ps.map (·.1) = ns → (∀ r ∈ ps, r.2 ≤ 2) → Spr G p q n' → n' ≤ n + (st : Int) * (ns.length : Int) → But p q H G → Q (.ref c) G) : tLc (iList K tl) (gName j) tYes te vs σ H Q :=
  hl H (Ex.refl _) _ fun c0 H2 hc0 e2 hx0 => ⟨c0, rfl, ⟨_, sq_of hx0⟩, fun Dl hD => by
    have hD0 : H Dl = none := fresh_back e2 hD
    have hDn := S.nep hD0
    have hcn := S.nep hc0
    have hDc : c0 ≠ Dl := fun z => by rw [← z, hx0] at hD; cases hD
    refine lc_it (walk_list (K := K) (a := c0) (xs := sVs ns)) (fun i G => But p q H G ∧ G c0 = some (.lst (sVs ns)) ∧ ∃ (acc : List V) (ps : List (Str × Nat)) (n' : Int), G Dl = some (.lst acc) ∧ OVs G acc (ps.map prO) ∧ ps.map (·.1) = ns.take i ∧ acc.length = i ∧ (∀ r ∈ ps, r.2 ≤ 2) ∧ Spr G p q n' ∧ n' ≤ n + (st : Int) * (i : Int)) ⟨(But.of e2).trans (But.of (Ex.new hD)), Ex.new hD _ _ hx0, [], [], n, upd_same, rfl, rfl, rfl, (fun r hr => (nomatch hr)), (S.ext e2).ext (Ex.new hD), by omega⟩ (fun i G _ h => sq_of h.2.1) ?_ ?_
    · rintro i x G G' hi' ⟨B, hcG, acc, ps, n', hacc, hos, hps, hal, hp2, S', hn'⟩ ⟨rfl, hxi⟩
      rw [sVs_len] at hi'
      obtain rfl : x = .str ns[i] := by
        unfold sVs at hxi
        rw [List.getElem?_map, List.getElem?_eq_getElem hi'] at hxi
        exact (Option.some.inj hxi).symm
      refine ⟨hw _, ?_⟩
      unfold tYes
      dsimp only
      rw [if_pos rfl]
      refine hi ns[i] (List.getElem_mem _) i n' _ _ hi' B S' hn' fun v a n2 G2 ha hv S2 hn2 B2 => ?_
      have hD2 := B2 _ _ hDn.1 hDn.2 hacc
      have tx : Tx G2 (upd G2 Dl (.lst (acc ++ [v]))) := Tx.lst hD2
      refine ⟨acc, hD2, sz_lt (by omega), ?_, ?_, acc ++ [v], ps ++ [(ns[i], a)], n2, upd_same, ?_, ?_, by simp; omega, ?_, S2.keep (fun o h => by rw [upd_ne (Ne.symm hDn.1)]; exact h) (fun o h => by rw [upd_ne (Ne.symm hDn.2)]; exact h), ?_⟩
      · intro b o nb1 nb2 hb
        have := B2 _ _ nb1 nb2 (B _ _ nb1 nb2 hb)
        rw [upd_ne (ne_of_none hb hD0)]
        exact this
      · rw [upd_ne hDc]
        exact B2 _ _ hcn.1 hcn.2 hcG
      · rw [List.map_append]
        exact OVs.append (OVs.tx ((S'.tx B2).trans tx) (prs_noL _) (prs_nod _) hos) (.cons (OV.tx tx rfl rfl hv) .nil)
      · rw [List.map_append, hps, List.take_succ, List.getElem?_eq_getElem hi']
        rfl
      · intro r hr
        rcases List.mem_append.mp hr with hr | hr
        · exact hp2 r hr
        · obtain rfl := List.mem_singleton.mp hr
          exact ha
      · have : ((i + 1 : Nat) : Int) = (i : Int) + 1 := by omega
        rw [this, Int.mul_add]
        omega
    · rintro G ⟨B, hcG, acc, ps, n', hacc, hos, hps, hal, hp2, S', hn'⟩
      rw [sVs_len] at hps hn'
      rw [List.take_length] at hps
      exact kk Dl acc ps n' G hD0 hacc hos hps hp2 S' hn' B⟩
/-- sorted, of pairs -/
theorem rsort_use {c : Addr} {acc : List V} {ps : List (Str × Nat)} {Q : VK} (hc : G c = some (.lst acc)) (hov : OVs G acc (ps.map prO)) (k : ∀ a ar zs, G a = none → ar.Perm ps → Sd ar → OVs (upd G a (.lst zs)) zs (ar.map prO) → Q (.ref a) (upd G a (.lst zs))) : rSortTS K [.ref c] G Q := by
  obtain ⟨ts, rfl, h1, h2⟩ := tris (xs := acc) hov
  refine ⟨c, ts, rfl, sq_of hc, fun x hx => st_of (h2 x hx), fun ys r hpm hso nr => ?_⟩
  have e : Ex G (upd G r (.lst (ys.map fun x => V.ref x.1))) := Ex.new nr
  obtain ⟨ar, e1, e2⟩ := perm_map_back pI (l := ys.map (·.2)) (xs := ps) (by rw [← h1]; exact hpm.map _)
  refine k r ar _ nr e1 ?_ (tris_back e2.symm fun x hx => e _ _ (h2 x (hpm.mem_iff.mp hx)))
  unfold Sd
  rw [e2]
  exact hso
theorem cut_take (ts : List Str) (k : Nat) : cutV (sVs ts) none (some (k : Int)) = sVs (ts.take k) := by
  rw [cut_to]
  unfold sVs
  rw [List.map_take]
theorem cut_mid (ts : List Str) (a b : Nat) (h : a + b ≤ ts.length) : cutV (sVs ts) (some (a : Int)) (some ((a : Int) + (b : Int))) = sVs ((ts.drop a).take b) := by
  have e : (a : Int) + (b : Int) = ((a + b : Nat) : Int) := by omega
  unfold cutV
  rw [e, HT.sIx_nat, HT.sIx_nat, sVs_len, Nat.min_eq_left h, Nat.min_eq_left (by omega), Nat.add_sub_cancel_left]
  unfold sVs
  rw [List.map_take, List.map_drop]
end
theorem cb0 {r : List V → Hp → VK → Prop} {Q : VK} {σ : L2.St} {x : V} {J : Hp} (h : r [x] J Q) : tNil σ J (fun xs H2 => (fun vs H1 => r vs H1 Q) (x :: xs) H2) := h
theorem raw_half {ts pool : List Str} {ps ar : List (Str × Nat)} {k : Nat} (htp : ts.Perm pool) (nd : pool.Nodup) (pm : ar.Perm ps) (h : ps.map (·.1) = ts.take k) : (∀ r ∈ ar, r.1 ∈ pool) ∧ (ar.map (·.1)).Nodup ∧ ar.length ≤ pool.length := by
  refine ⟨fun r hr => ?_, ?_, ?_⟩
  · have := List.mem_map_of_mem (f := (·.1)) (pm.mem_iff.mp hr)
    rw [h] at this
    exact htp.mem_iff.mp (List.mem_of_mem_take this)
  · rw [(pm.map (·.1)).nodup_iff, h]
    exact (List.take_sublist _ _).nodup (htp.nodup_iff.mpr nd)
  · have h2 := congrArg List.length h
    rw [List.length_map, List.length_take] at h2
    rw [pm.length_eq, h2, ← htp.length_eq]
    exact Nat.min_le_right _ _
theorem but_none {p q a : Addr} {H G : Hp} {n : Int} (B : But p q H G) (S : Spr G p q n) (h : G a = none) : H a = none := by
  rcases hx : H a with _ | x
  · rfl
  · have nn := S.nep h
    rw [B a x nn.1 nn.2 hx] at h
    cases h
theorem but_set {p q a : Addr} {H G : Hp} {o : HO} (B : But p q H G) (h : H a = none) : But p q H (upd G a o) := fun b x n1 n2 hb => by
  rw [upd_ne (ne_of_none hb h)]
  exact B b x n1 n2 hb
theorem Spr.set {p q a : Addr} {G : Hp} {n : Int} {o : HO} (S : Spr G p q n) (n1 : a ≠ p) (n2 : a ≠ q) : Spr (upd G a o) p q n := S.keep (fun x h => by rw [upd_ne (Ne.symm n1)]; exact h) (fun x h => by rw [upd_ne (Ne.symm n2)]; exact h)
theorem pool_nd : pool1.Nodup ∧ pool2.Nodup := by decide +kernel
abbrev nRw : List Str := ["_law_stream", "_law_constants", "_law_functions", "_law_predicates", "_law_some", "_law_name", "_law_pairs", "_law_others", "_law_kinds"]
theorem sc_rw : FnScope nRw ["_law_stream", "_law_constants", "_law_functions", "_law_predicates"] (defScope s__law_a_raw) := ⟨rfl, rfl, rfl, by decide +kernel, rfl, by decide +kernel, by decide +kernel⟩
def spRw : Sp := fun vs H Q _ => ∃ (p q : Addr) (n : Int) (a b c : Nat), vs = [.ref p, .int (a : Nat), .int (b : Nat), .int (c : Nat)] ∧ Spr H p q n ∧ n < 6000000 ∧ a ≤ 3 ∧ b ≤ 3 ∧ c ≤ 4 ∧
  ∀ (rt : Addr) (ar pr : List (Str × Nat)) (n' : Int) (G : Hp), RwV G p q rt ar pr → Raw ar pr → Spr G p q n' → n' ≤ n + 100 → But p q H G → Q (.ref rt) G
section
variable {P : Program} {w : World} {K : PySem.W.Frag} {mg : Str → Option Value} {base : Heap}
theorem ok_a_raw (T : T02 P w K mg base) : Ok P w K mg base CX0 "_law_a_raw" ["_law_stream", "_law_constants", "_law_functions", "_law_predicates"] 3 spRw := by
  obtain ⟨fD, dD, GD, bD, kD, mD⟩ := (ok_dr T).ex
  obtain ⟨fK, dK, GK, bK, kK, mK⟩ := (ok_pick T).ex
  obtain ⟨fM, dM, GM, bM, kM, mM⟩ := (ok_mixed T).ex
  refine T.ok 21 rfl sc_rw (fun vs H Q E h => by obtain ⟨p, q, n, a, b, c, rfl, _⟩ := h; rfl) (fun kV doc pm an cdv ct us hl => match us, hl with | [_, _, _, _], _ => rfl) (fun f cdv A outer st H vs Q E hr h => ?_)
  obtain ⟨p, q, n, na, nb, nc, rfl, S, hn, ha, hb, hc, k⟩ := h
  refine ⟨_, (pss_cons (ps_set (i := 4) sc_rw.nd rfl (Or.inl rfl) (pe_call GM (hr.mono (by omega)) (by rfl) mM kM bM .nil pass0 (pa_cons (pv 0) (pa_cons (pe_lst (pa_cons pe_str (pa_cons pe_str (pa_cons pe_str (pa_cons pe_str (pa_cons pe_str (pa_cons pe_str (pa_cons pe_str (pa_cons pe_str (pa_cons pe_str (pa_cons pe_str (pa_cons pe_str (pa_cons pe_str pa_nil))))))))))))) pa_nil))))
      (pss_cons (ps_setLc (i := 6) (own := [("_law_name", 5)]) (g := gName 5) (tt := tYes) (te := tTup (tCons (tVar 5) (tCons (tC (.int 0)) tNil))) (by rfl) sc_rw.nd rfl rfl (sw_true rfl rfl rfl (by decide +kernel)) (pi_list (pe_slice sl_list (pv 4) po_none (po_some (pv 1)))) (blkOk_by (N := nRw) (sc := defScope s__law_a_raw) (by decide +kernel)) (fun _ _ _ _ _ => pg_name (i := 5) sc_rw.nd rfl (Or.inl rfl)) (fun _ _ _ _ _ => pts_nil) (fun _ _ _ _ _ => pe_tup (pa_cons (pv 5) (pa_cons pe_int pa_nil))))
      (pss_cons (ps_expr (pe_bm PySem.F.plainAttrs_list PySem.F.slot_list_extend PySem.F.type_list_extend mt_extend (pv 6) (pa_cons (pe_lc (own := [("_law_name", 5)]) (g := gName 5) (tt := tYes) (te := tTup (tCons (tVar 5) (tCons (tOp (rI0 fun i j => V.int (i + j)) (tC (.int 1)) (tOp (rI CDiv fun i j => V.int (i / j)) (tCall spDr [] E0 (tCons (tVar 0) (tCons (tC (.int 4)) tNil))) (tC (.int 3)))) tNil))) rfl sc_rw.nd (pi_list (pe_slice sl_list (pv 4) (po_some (pv 1)) (po_some (pe_op op_add (pv 1) (pv 2))))) (blkOk_by (N := nRw) (sc := defScope s__law_a_raw) (by decide +kernel)) (fun _ _ _ _ _ => pg_name (i := 5) sc_rw.nd rfl (Or.inl rfl)) (fun _ _ _ _ _ => pts_nil) (fun _ _ _ _ _ => pe_tup (pa_cons (pv 5) (pa_cons (pe_op op_add pe_int (pe_op op_fdiv (pe_call GD (hr.mono (by omega)) (by rfl) mD kD bD .nil pass0 (pa_cons (pv 0) (pa_cons pe_int pa_nil))) pe_int)) pa_nil)))) pa_nil)))
      (pss_cons (ps_set (i := 7) sc_rw.nd rfl (Or.inl rfl) (pe_call GM (hr.mono (by omega)) (by rfl) mM kM bM .nil pass0 (pa_cons (pv 0) (pa_cons (pe_lst (pa_cons pe_str (pa_cons pe_str (pa_cons pe_str (pa_cons pe_str (pa_cons pe_str (pa_cons pe_str (pa_cons pe_str (pa_cons pe_str (pa_cons pe_str pa_nil)))))))))) pa_nil))))
      (pss_cons (ps_set (i := 8) sc_rw.nd rfl (Or.inr rfl) (pe_lst (pa_cons pe_int (pa_cons pe_int (pa_cons pe_int (pa_cons pe_int (pa_cons pe_int pa_nil)))))))
      (pss_one (ps_ret (pe_tup (pa_cons (pe_callB cr_sortedTS (by rfl) T.sorted boot_sorted (pa_cons (pv 6) pa_nil)) (pa_cons (pe_callB cr_sortedTS (by rfl) T.sorted boot_sorted (pa_cons (pe_lc (own := [("_law_name", 5)]) (g := gName 5) (tt := tYes) (te := tTup (tCons (tVar 5) (tCons (tCall (spPick K) [] E0 (tCons (tVar 0) (tCons (tVar 8) tNil))) tNil))) rfl sc_rw.nd (pi_list (pe_slice sl_list (pv 7) po_none (po_some (pv 3)))) (blkOk_by (N := nRw) (sc := defScope s__law_a_raw) (by decide +kernel)) (fun _ _ _ _ _ => pg_name (i := 5) sc_rw.nd rfl (Or.inl rfl)) (fun _ _ _ _ _ => pts_nil) (fun _ _ _ _ _ => pe_tup (pa_cons (pv 5) (pa_cons (pe_call GK (hr.mono (by omega)) (by rfl) mK kK bK .nil pass0 (pa_cons (pv 0) (pa_cons (pv 8) pa_nil))) pa_nil)))) pa_nil)) pa_nil)))))))))), ?_⟩
  refine q_asgR ⟨_, rfl, by show 12 ≤ sizeLine; decide, fun c0 nc0 => ⟨p, q, c0, n, sVs pool1, rfl, S.ext (Ex.new nc0), by show n + 12 < _; omega, by decide, sq_of upd_same, fun nm G1 ys hnm0 hnm hp S1 B1 => ?_⟩⟩
  obtain ⟨ts, rfl, htp⟩ := perm_strs hp
  have htl : ts.length = 12 := htp.length_eq
  have B1' : But p q H G1 := (But.of (Ex.new nc0)).trans B1
  have nn : nm ≠ p ∧ nm ≠ q := S.nep (fresh_back (Ex.new nc0) hnm0)
  have hl1 : ((sVs pool1).length : Int) = 12 := rfl
  rw [hl1] at S1
  refine q_asgR (lc_drawS (σ := [some (.ref p), some (.int (na : Nat)), some (.int (nb : Nat)), some (.int (nc : Nat)), some (.ref nm), none, none, none, none]) (j := 5) (vs := [5]) (ns := ts.take na) (st := 0) (n := n + 12) (by rw [← cut_take]; exact el_sl (ev_var rfl) eo_none (eo_some (ev_var rfl)) (sq_of hnm)) (by rw [List.length_take]; omega) S1 (fun x => rfl) (fun s hs i n1 G Q' hi B S' hn' kz => ?_) fun c1 acc1 ps1 n2 G2 hc1 hG2 hos1 hps1 hp21 S2 hn2 B2 => ?_)
  · exact ⟨_, rfl, by show 2 ≤ sizeLine; decide, fun t nt => kz (.ref t) 0 n1 _ (by omega) ⟨t, _, rfl, upd_same, .cons rfl (.cons rfl .nil)⟩ (S'.ext (Ex.new nt)) (by omega) (But.of (Ex.new nt))⟩
  have nn2 := S2.nep (a := c1)
  have n1c : c1 ≠ p ∧ c1 ≠ q := S1.nep hc1
  have hc1H : H c1 = none := but_none B1' S1 hc1
  refine ⟨_, rfl, .inl ⟨rfl, _, sq_of hG2⟩, ?_⟩
  refine lc_drawS (σ := [some (.ref p), some (.int (na : Nat)), some (.int (nb : Nat)), some (.int (nc : Nat)), some (.ref nm), none, some (.ref c1), none, none]) (j := 5) (vs := [5]) (ns := (ts.drop na).take nb) (st := 1) (n := n2) (by rw [← cut_mid ts na nb (by omega)]; exact el_sl (ev_var rfl) (eo_some (ev_var rfl)) (eo_some (ev_op (ev_var rfl) (ev_var rfl) rv_I0)) (sq_of (B2 _ _ nn.1 nn.2 hnm))) (by rw [List.length_take]; omega) S2 (fun x => rfl) (fun s hs i n1 G Q' hi B S' hn' kz => ?_) fun c2 acc2 ps2 n3 G3 hc2 hG3 hos2 hps2 hp22 S3 hn3 B3 => ?_
  · have hi3 : i ≤ 3 := by rw [List.length_take] at hi; omega
    refine ⟨_, rfl, _, rfl, p, q, n1, 4, rfl, S', by omega, by decide, by decide, fun r J r0 r1 SJ BJ => ⟨r, 3, rfl, rfl, by unfold CDiv; decide, ⟨_, _, rfl, rfl, ?_⟩⟩⟩
    obtain ⟨a, ha1, ha2⟩ : ∃ a : Nat, (1 : Int) + r / 3 = (a : Int) ∧ a ≤ 2 := ⟨((1 : Int) + r / 3).toNat, by omega, by omega⟩
    exact ⟨by show 2 ≤ sizeLine; decide, fun t nt => kz (.ref t) a (n1 + 1) _ ha2 ⟨t, _, rfl, upd_same, .cons rfl (.cons (show V.int ((1 : Int) + r / 3) = V.int (a : Int) by rw [ha1]) .nil)⟩ (SJ.ext (Ex.new nt)) (by omega) (BJ.trans (But.of (Ex.new nt)))⟩
  have hc1G3 := B3 _ _ n1c.1 n1c.2 hG2
  have hlen1 : acc1.length ≤ 3 := by
    have h1 := hos1.length
    have h2 := congrArg List.length hps1
    rw [List.length_map] at h1 h2
    rw [List.length_take] at h2
    omega
  have hlen2 : acc2.length ≤ 3 := by
    have h1 := hos2.length
    have h2 := congrArg List.length hps2
    rw [List.length_map] at h1 h2
    rw [List.length_take] at h2
    omega
  refine ⟨c1, c2, acc1, acc2, rfl, rfl, hc1G3, hG3, sz_of (by omega), ?_⟩
  have tx4 : Tx G3 (upd G3 c1 (.lst (acc1 ++ acc2))) := Tx.lst hc1G3
  have hov4 : OVs (upd G3 c1 (.lst (acc1 ++ acc2))) (acc1 ++ acc2) ((ps1 ++ ps2).map prO) := by
    rw [List.map_append]
    exact OVs.append (OVs.tx ((S2.tx B3).trans tx4) (prs_noL _) (prs_nod _) hos1) (OVs.tx tx4 (prs_noL _) (prs_nod _) hos2)
  have B4 : But p q H (upd G3 c1 (.lst (acc1 ++ acc2))) := but_set ((B1'.trans B2).trans B3) hc1H
  have S4 : Spr (upd G3 c1 (.lst (acc1 ++ acc2))) p q n3 := S3.set n1c.1 n1c.2
  have h4 : (upd G3 c1 (.lst (acc1 ++ acc2))) c1 = some (.lst (acc1 ++ acc2)) := upd_same
  have hpsm : (ps1 ++ ps2).map (·.1) = ts.take (na + nb) := by rw [List.map_append, hps1, hps2, List.take_add]
  have hp2a : ∀ r ∈ ps1 ++ ps2, r.2 ≤ 2 := fun r hr => by
    rcases List.mem_append.mp hr with hr | hr
    · exact hp21 r hr
    · exact hp22 r hr
  have hn3b : n3 ≤ n + 15 := by
    have h1 : (((ts.drop na).take nb).length : Int) ≤ 3 := by rw [List.length_take]; omega
    omega
  generalize upd G3 c1 (.lst (acc1 ++ acc2)) = G4 at hov4 B4 S4 h4
  generalize acc1 ++ acc2 = accA at hov4 h4
  generalize ps1 ++ ps2 = psA at hov4 hpsm hp2a
  dsimp only
  refine q_asgR ?_
  refine ⟨_, rfl, by show 9 ≤ sizeLine; decide, fun d0 nd0 => ⟨p, q, d0, n3, sVs pool2, rfl, S4.ext (Ex.new nd0), by show n3 + 9 < _; omega, by decide, sq_of upd_same, fun nm2 G5 ys2 hnm20 hnm2 hpp2 S5 B5 => ?_⟩⟩
  obtain ⟨ts2, rfl, htp2⟩ := perm_strs hpp2
  have htl2 : ts2.length = 9 := htp2.length_eq
  have hl2 : ((sVs pool2).length : Int) = 9 := rfl
  rw [hl2] at S5
  have nn2 : nm2 ≠ p ∧ nm2 ≠ q := S4.nep (fresh_back (Ex.new nd0) hnm20)
  have B45 : But p q G4 G5 := (But.of (Ex.new nd0)).trans B5
  refine q_asgR ?_
  refine ⟨by show 5 ≤ sizeLine; decide, fun kd nkd => ?_⟩
  have xk : Ex G5 (upd G5 kd (.lst [.int 1, .int 1, .int 2, .int 2, .int 0])) := Ex.new nkd
  have nk := S5.nep nkd
  have B6 : But p q G4 (upd G5 kd (.lst [.int 1, .int 1, .int 2, .int 2, .int 0])) := B45.trans (But.of xk)
  have S6 := S5.ext xk
  have hkd : (upd G5 kd (.lst [.int 1, .int 1, .int 2, .int 2, .int 0])) kd = some (.lst [.int 1, .int 1, .int 2, .int 2, .int 0]) := upd_same
  have hnm26 := xk _ _ hnm2
  generalize upd G5 kd (.lst [.int 1, .int 1, .int 2, .int 2, .int 0]) = G6 at B6 S6 hkd hnm26
  refine ⟨_, rfl, ?_⟩
  refine cb0 (r := rSortTS K) (rsort_use (B6 _ _ n1c.1 n1c.2 h4) (OVs.tx (S4.tx B6) (prs_noL _) (prs_nod _) hov4) fun a ar zs na7 pm1 sd1 hz7 => ?_)
  have x7 : Ex G6 (upd G6 a (.lst zs)) := Ex.new na7
  have h7 : (upd G6 a (.lst zs)) a = some (.lst zs) := upd_same
  have n7 := S6.nep na7
  have S7 := S6.ext x7
  generalize upd G6 a (.lst zs) = G7 at hz7 x7 h7 S7
  refine cb1 (lc_drawS (σ := [some (.ref p), some (.int (na : Nat)), some (.int (nb : Nat)), some (.int (nc : Nat)), some (.ref nm), none, some (.ref c1), some (.ref nm2), some (.ref kd)]) (j := 5) (vs := [5]) (ns := ts2.take nc) (st := 1) (n := n3 + 9) (by rw [← cut_take]; exact el_sl (ev_var rfl) eo_none (eo_some (ev_var rfl)) (sq_of (x7 _ _ hnm26))) (by rw [List.length_take]; omega) S7 (fun x => rfl) (fun s hs i n1 G Q' hi B S' hn' kz => ?_) fun c3 acc3 ps3 n8 G8 hc3 hG8 hos3 hps3 hp23 S8 hn8 B8 => ?_)
  · have hi3 : i ≤ 4 := by rw [List.length_take] at hi; omega
    refine ⟨_, rfl, _, rfl, _, rfl, p, q, kd, n1, _, rfl, S', by omega, B _ _ nk.1 nk.2 (x7 _ _ hkd), nk.1, nk.2, by decide, by decide, fun y J hy SJ BJ => ?_⟩
    obtain ⟨a, ha1, ha2⟩ : ∃ a : Nat, y = V.int (a : Int) ∧ a ≤ 2 := by
      simp only [List.mem_cons, List.not_mem_nil, or_false] at hy
      rcases hy with rfl | rfl | rfl | rfl | rfl
      · exact ⟨1, rfl, by omega⟩
      · exact ⟨1, rfl, by omega⟩
      · exact ⟨2, rfl, by omega⟩
      · exact ⟨2, rfl, by omega⟩
      · exact ⟨0, rfl, by omega⟩
    subst ha1
    exact ⟨by show 2 ≤ sizeLine; decide, fun t nt => kz (.ref t) a (n1 + 1) _ ha2 ⟨t, _, rfl, upd_same, .cons rfl (.cons rfl .nil)⟩ (SJ.ext (Ex.new nt)) (by omega) (BJ.trans (But.of (Ex.new nt)))⟩
  refine rsort_use hG8 hos3 fun b pr zs2 nb9 pm2 sd2 hz9 => ⟨by show 2 ≤ sizeLine; decide, fun rt nrt => ?_⟩
  have x9 : Ex G8 (upd G8 b (.lst zs2)) := Ex.new nb9
  have xr : Ex (upd G8 b (.lst zs2)) (upd (upd G8 b (.lst zs2)) rt (.tup [.ref a, .ref b])) := Ex.new nrt
  have n9 := S8.nep nb9
  obtain ⟨a1, a2, a3⟩ := raw_half htp pool_nd.1 pm1 hpsm
  obtain ⟨b1, b2, b3⟩ := raw_half htp2 pool_nd.2 pm2 hps3
  refine k rt ar pr n8 _ ⟨a, b, zs, zs2, upd_same, n7.1, n7.2, n9.1, n9.2, xr _ _ (x9 _ _ (B8 _ _ n7.1 n7.2 h7)), xr _ _ upd_same, OVs.tx ((S7.tx B8).trans (Tx.of (x9.trans xr))) (prs_noL _) (prs_nod _) hz7, hz9.ext xr⟩ ⟨fun r hr => ⟨a1 r hr, hp2a r (pm1.mem_iff.mp hr)⟩, fun r hr => ⟨b1 r hr, hp23 r (pm2.mem_iff.mp hr)⟩, a2, b2, sd1, sd2, a3, Nat.le_trans b3 (by decide)⟩ ((S8.ext x9).ext xr) ?_ (((B4.trans B6).trans (But.of x7)).trans (B8.trans (But.of (x9.trans xr))))
  have h1 : ((ts2.take nc).length : Int) ≤ 4 := by rw [List.length_take]; omega
  omega
end
end K02

set_option Elab.async false
set_option linter.all false
set_option maxRecDepth 100000
set_option maxHeartbeats 4000000
/-! Things the same: data, names, theories. -/
namespace K02
open PySem PySem.Spec PyProof.Rows L2 Evl LamX
/-- things that are the same, m deep at most -/
inductive Sm (K : PySem.W.Frag) (H : Hp) : Nat → V → V → Prop
  | dat {m : Nat} {u v : V} {o : O} : OV H u o → OV H v o → o.isSeq = false → o.dq < m → Sm K H m u v
  | nam {m : Nat} {a : Addr} {ar pr : List (Str × Nat)} : NmAt K H a ar pr → NmS ar pr → Sm K H (m + 1) (.ref a) (.ref a)
  | thy {m : Nat} {a n : Addr} {ar pr : List (Str × Nat)} {axs : List (Str × O)} : Th K H a n ar pr axs → NmS ar pr → AxS axs → Sm K H (m + 1) (.ref a) (.ref a)
  | seq {m : Nat} {b : Bool} {a c : Addr} {us ws : List V} : SqB H b a us → SqB H b c ws → us.length = ws.length → us.length ≤ 40000 → (∀ (i : Nat) (x y : V), us[i]? = some x → ws[i]? = some y → Sm K H m x y) → Sm K H (m + 1) (.ref a) (.ref c)
theorem Sm.ext {K : PySem.W.Frag} {H G : Hp} (e : Ex H G) {m : Nat} {u v : V} (h : Sm K H m u v) : Sm K G m u v := by
  induction h with
  | dat h1 h2 h3 h4 => exact .dat (h1.ext e) (h2.ext e) h3 h4
  | nam h1 h2 => exact .nam (h1.ext e) h2
  | thy h1 h2 h3 => exact .thy (h1.ext e) h2 h3
  | seq h1 h2 h3 h4 h5 ih => exact .seq (h1.ext e) (h2.ext e) h3 h4 ih
theorem sm_of {K : PySem.W.Frag} {H : Hp} : ∀ {m : Nat} {u v : V} {o : O}, OV H u o → OV H v o → o.dq < m → o.mx ≤ 40000 → Sm K H m u v
  | 0, _, _, _, _, _, h, _ => absurd h (Nat.not_lt_zero _)
  | m + 1, u, v, o, hu, hv, hd, hm => by
    cases hq : o.isLst || o.isTup with
    | false => exact .dat hu hv hq hd
    | true =>
      obtain ⟨b, xs, rfl⟩ := O.seq_of hq
      obtain ⟨a1, us, rfl, ha1, hus⟩ := hu.seq
      obtain ⟨a2, ws, rfl, ha2, hws⟩ := hv.seq
      rw [seq_mx] at hm
      have hxl := Nat.le_max_left xs.length (O.mxs xs)
      have hxm := Nat.le_max_right xs.length (O.mxs xs)
      have hdq : O.dqs xs < m := by
        have : (O.seq b xs).dq = O.dqs xs + 1 := by cases b <;> rfl
        omega
      refine .seq ha1 ha2 (by rw [hus.length, hws.length]) (by rw [hus.length]; omega) fun i x y hx hy => ?_
      obtain ⟨y1, hy1, ho1⟩ := hus.get hx
      obtain ⟨y2, hy2, ho2⟩ := hws.get hy
      rw [hy1] at hy2
      obtain rfl : y1 = y2 := Option.some.inj hy2
      exact sm_of ho1 ho2 (by have := dqs_le hy1; omega) (by have := mxs_le hy1; omega)
section
variable {P : Program} {w : World} {K : PySem.W.Frag} {mg : Str → Option Value} {base : Heap}
def spSm (K : PySem.W.Frag) (m : Nat) : Sp := fun vs H Q _ => ∃ u v, vs = [u, v] ∧ Sm K H m u v ∧ RetV (.bl true) H Q
theorem spv_sm {m : Nat} {u v : V} {H : Hp} (h : Sm K H m u v) : SpV (spSm K m) ([u, v] ++ []) H (.bl true) := fun H1 e Q q E => ⟨u, v, rfl, h.ext e, q⟩
theorem kit_noAny {C : Addr} (i : InsC K C) : PySem.W.kitAny K (.ref C) (["int", "list", "tuple", "dict"].map Value.type) = some false :=
  kitAny_cons (i.no "int" (by decide)) (fun _ => kitAny_cons (i.no "list" (by decide)) (fun _ => kitAny_cons (i.no "tuple" (by decide)) (fun _ => kitAny_cons (i.no "dict" (by decide)) (fun _ => kitAny_nil) fun z => nomatch z) fun z => nomatch z) fun z => nomatch z) fun z => nomatch z
theorem ev_isFourI {σ : L2.St} {H : Hp} {te : TE} {v : V} {C : Addr} {ta : TA} (h : Ev te σ H v) (i : Ins K H v C) (ht : EvU (tTup ta) σ H (["int", "list", "tuple", "dict"].map V.ty)) : Ev (tCB (rIsiT K) (tCons te (tCons (tTup ta) tNil))) σ H (.bl false) := fun H1 x Q q =>
  h H1 x _ fun H2 x2 => ht H2 (x.trans x2) _ fun p H3 hp x3 h3 => by
    show rIsiT K [v, .ref p] H3 Q
    exact ⟨v, p, _, _, ["int", "list", "tuple", "dict"].map Value.type, false, rfl, h3, .cons (.ty _) (.cons (.ty _) (.cons (.ty _) (.cons (.ty _) .nil))), tyx_ext ((x.trans x2).trans x3) i.tyx, kit_noAny i.1, q _ (x2.trans x3)⟩
theorem sqb_tyx {H : Hp} {b : Bool} {a : Addr} {us : List V} (h : SqB H b a us) : TyX K H (.ref a) (.type (if b then "list" else "tuple")) := by
  cases b with
  | true => exact .base (.lst h)
  | false => exact .base (.tup h)
theorem ev_isLsb {σ : L2.St} {H : Hp} {te : TE} {b : Bool} {a : Addr} {us : List V} (h : Ev te σ H (.ref a)) (k : SqB H b a us) : Ev (tIsi K "list" te) σ H (.bl b) := ev_isi h (sqb_tyx k) (by cases b <;> decide +kernel)
theorem ev_isTub {σ : L2.St} {H : Hp} {te : TE} {b : Bool} {a : Addr} {us : List V} (h : Ev te σ H (.ref a)) (k : SqB H b a us) : Ev (tIsi K "tuple" te) σ H (.bl (!b)) := ev_isi h (sqb_tyx k) (by cases b <;> decide +kernel)
theorem ev_isSqb {σ : L2.St} {H : Hp} {te : TE} {b : Bool} {a : Addr} {us : List V} (h : Ev te σ H (.ref a)) (k : SqB H b a us) : Ev (tIsi2 K te) σ H (.bl true) := ev_is (ev_isi2 (b1 := b) (b2 := !b) h (sqb_tyx k) (by cases b <;> decide +kernel) (by cases b <;> decide +kernel)) (by cases b <;> rfl)
theorem rv_orl {r r' : R2} {x y z : V} {H : Hp} (h : RV r x y H z) : RV (fun x y H Q => r x y H Q ∨ r' x y H Q) x y H z := fun H1 e Q q => .inl (h H1 e Q q)
theorem ok_same2 (T : TN P w K mg base) : ∀ m, Ok P w K mg base CX0 "_law_same" ["_law_found", "_law_due"] (m + 6) (spSm K m)
  | 0 => T.ok 32 rfl sc_sa (fun vs H Q E h => by obtain ⟨u, v, rfl, _⟩ := h; rfl) (fun kV doc pm an cdv ct us hl => match us, hl with | [_, _], _ => rfl) (fun f cdv A outer s H vs Q E hr h => by
      obtain ⟨u, v, _, h, _⟩ := h
      cases h with
      | dat _ _ _ h => exact absurd h (Nat.not_lt_zero _))
  | m + 1 => by
    obtain ⟨fR, dR, GR, bR, kR, mR⟩ := (ok_same2 T m).ex
    obtain ⟨fN, fdN, MN, FN⟩ := T.mNe
    have GN := ok_neq T FN
    have bN := FN.bindsN (ps := ["self", "other"]) (fun kV doc pm an cdv ct us hl => match us, hl with | [_, _], _ => rfl)
    obtain ⟨fT, fdT, MT, FT⟩ := T.mTe
    have GT := ok_teq T FT
    have bT := FT.bindsN (ps := ["self", "other"]) (fun kV doc pm an cdv ct us hl => match us, hl with | [_, _], _ => rfl)
    refine T.ok 32 rfl sc_sa (fun vs H Q E h => ?_) (fun kV doc pm an cdv ct us hl => match us, hl with | [_, _], _ => rfl) (fun f cdv A outer s H vs Q E hr h => ?_)
    · obtain ⟨u, v, rfl, _⟩ := h
      rfl
    · obtain ⟨u, v, rfl, hsm, k⟩ := h
      refine ⟨_, pss_cons (ps_if (pt_val (pe_isiLT T.isi T.list T.tuple (pv 1)))
          (pss_cons (ps_if (PW.pt (pw_or (pt_cmpR op_ne (pe_isiB T.isi T.list PyProof.Rows.boot_list (pv 0)) (pe_isiB T.isi T.list PyProof.Rows.boot_list (pv 1)) (nomark _)) (pw_or1 (pt_cmpR op_ne (pe_isiB T.isi T.tuple PyProof.Rows.boot_tuple (pv 0)) (pe_isiB T.isi T.tuple PyProof.Rows.boot_tuple (pv 1)) (nomark _))))) (pss_one ps_never) pss_nil)
          (pss_one (ps_ret (pe_and (pe_cmpR op_eq (pe_callB call_len (by rfl) T.len PySem.boot_len (pa_cons (pv 0) pa_nil)) (pe_callB call_len (by rfl) T.len PySem.boot_len (pa_cons (pv 1) pa_nil)) (nomark _))
            (pe_one (pe_callB (cr_all rfl) (by rfl) T.all (by decide +kernel) (pa_cons (pe_lc (own := [("_law_x", 2), ("_law_y", 3)]) (g := gPair K 2 3) (tt := tYes) (te := tCall (spSm K m) [] E0 (tCons (tVar 2) (tCons (tVar 3) tNil))) rfl sc_sa.nd (RZ.pi_zipA (by rfl) T.zip (pa_cons (pv 0) (pa_cons (pv 1) pa_nil))) (blkOk_by (N := nSa) (sc := defScope s__law_same) (by decide +kernel))
              (fun _ _ _ _ _ => pg_tup rfl (pgs_cons (pg_name (i := 2) sc_sa.nd rfl (Or.inl rfl)) (pgs_cons (pg_name (i := 3) sc_sa.nd rfl (Or.inl rfl)) pgs_nil))) (fun _ _ _ _ _ => pts_nil) (fun _ _ _ _ _ => pe_call GR (hr.mono (by omega)) (by rfl) mR kR bR .nil pass0 (pa_cons (pv 2) (pa_cons (pv 3) pa_nil)))) pa_nil)))))))
          pss_nil)
        (pss_cons (ps_if (pt_val (pe_isiB T.isi T.dict boot_dict23 (pv 1))) (pss_one (ps_ret (pe_and (pe_isiB T.isi T.dict boot_dict23 (pv 0))
            (pe_one (pe_call GR (hr.mono (by omega)) (by rfl) mR kR bR .nil pass0 (pa_cons (LiI.pe_listItems rfl (pv 0) (by rfl) T.list PyProof.Rows.boot_list) (pa_cons (LiI.pe_listItems rfl (pv 1) (by rfl) T.list PyProof.Rows.boot_list) pa_nil))))))) pss_nil)
        (pss_cons (ps_if (pt_val (pe_isiB T.isi T.int PyProof.Rows.boot_int (pv 1))) (pss_one (ps_ret (pe_and (pe_isiB T.isi T.int PyProof.Rows.boot_int (pv 0)) (pe_and (pe_cmpR op_eq (pe_isiB T.isi T.bool PyProof.Rows.boot_bool (pv 0)) (pe_isiB T.isi T.bool PyProof.Rows.boot_bool (pv 1)) (nomark _))
            (pe_one (pe_cmpR op_eq (pv 0) (pv 1) (nomark _))))))) pss_nil)
        (pss_one (ps_ret (pe_and (pe_not (pe_callB call_isiT (by rfl) T.isi PyProof.Rows.boot_isinstance (pa_cons (pv 0) (pa_cons (pe_tup (pa_cons (pe_bltn (v := .ty "int") (by rfl) T.int PyProof.Rows.boot_int rfl) (pa_cons (pe_bltn (v := .ty "list") (by rfl) T.list PyProof.Rows.boot_list rfl) (pa_cons (pe_bltn (v := .ty "tuple") (by rfl) T.tuple PyProof.Rows.boot_tuple rfl) (pa_cons (pe_bltn (v := .ty "dict") (by rfl) T.dict (by decide +kernel) rfl) pa_nil))))) pa_nil))))
          (pe_one (pe_cmpR (op_or op_eq (op_or (op_own GN (hr.mono (by omega)) MN.at_ MN.fn bN pass0) (op_own GT (hr.mono (by omega)) MT.at_ MT.fn bT pass0))) (pv 0) (pv 1) (nomark _)))))))), ?_⟩
      cases hsm with
      | @seq _ b a1 a2 us ws sq1 sq2 hlen hl4 hch =>
        refine q_if (b := true) (et_B (ev_isSqb (ev_var rfl) sq2)) (fun _ H1 e1 => ?_) (fun z => nomatch z)
        refine q_when (b := false) (et_is (et_or (a := false) (b := false) (et_is (et_test (ev_op (ev_isLsb (ev_var rfl) (sq1.ext e1)) (ev_isLsb (ev_var rfl) (sq2.ext e1)) rv_neB)) (by simp)) fun _ => et_is (et_test (ev_op (ev_isTub (ev_var rfl) (sq1.ext e1)) (ev_isTub (ev_var rfl) (sq2.ext e1)) rv_neB)) (by simp)) rfl) (fun z => nomatch z) fun _ H2 e2 => ?_
        have e02 := e1.trans e2
        have sq12 := sq1.ext e02
        have sq22 := sq2.ext e02
        refine s_ret (ev_andV (a := true) (b := true) (ev_is (ev_op (ev_lenQ (ev_var rfl) sq12) (ev_lenQ (ev_var rfl) sq22) (rv_eq rfl)) (congrArg V.bl (decide_eq_true (by rw [hlen])))) fun _ G1 g1 Q1 q1 => ?_) fun H3 e3 => k H3 (e02.trans e3)
        have turn : ∀ (Dl : Addr) (i : Nat) (x : V) (G G' : Hp), G1 Dl = none → i < us.length → (Ex G1 G ∧ G Dl = some (.lst ((List.replicate i true).map V.bl))) → YPair (fun i => us[i]?) (fun i => ws[i]?) i G x G' → gPair K 2 3 x (wipe [some (.ref a1), some (.ref a2), none, none] [2, 3]) G' fun σ2 H2 => wipe σ2 [2, 3] = wipe [some (.ref a1), some (.ref a2), none, none] [2, 3] ∧ tYes σ2 H2 fun b H3 =>
            if b = true then tCall (spSm K m) [] E0 (tCons (tVar 2) (tCons (tVar 3) tNil)) σ2 H3 fun y H4 => ∃ acc, H4 Dl = some (.lst acc) ∧ acc.length < sizeLine ∧ (Ex G1 (upd H4 Dl (.lst (acc ++ [y]))) ∧ (upd H4 Dl (.lst (acc ++ [y]))) Dl = some (.lst ((List.replicate (i + 1) true).map V.bl))) else Ex G1 H3 ∧ H3 Dl = some (.lst ((List.replicate (i + 1) true).map V.bl)) := by
          rintro Dl i x G G' hD hi ⟨c1, c2⟩ ⟨t, x1, x2, rfl, ht, rfl, hx1, hx2⟩
          have eT : Ex G (upd G t (.tup [x1, x2])) := Ex.new ht
          refine ⟨t, _, rfl, st_of upd_same, rfl, _, _, rfl, _, _, rfl, rfl, rfl, ?_⟩
          unfold tYes
          dsimp only
          rw [if_pos rfl]
          have eall := ((e02.trans g1).trans c1).trans eT
          refine ⟨_, rfl, _, rfl, x1, x2, rfl, (hch i x1 x2 hx1 hx2).ext eall, fun G3 g3 => ⟨_, g3 _ _ (eT _ _ c2), sz_lt (by simp; omega), Ex.mut ((c1.trans eT).trans g3) hD, ?_⟩⟩
          rw [upd_same, List.replicate_succ']
          simp
        have fin : ∀ (Dl : Addr) (G : Hp), (Ex G1 G ∧ G Dl = some (.lst ((List.replicate (min us.length ws.length) true).map V.bl))) → ∃ (p : Addr) (bs : List Bool), [V.ref Dl] = [V.ref p] ∧ SqL K G p (bs.map V.bl) ∧ Q1 (.bl (bs.all id)) G := by
          rintro Dl G ⟨c1, c2⟩
          exact ⟨Dl, _, rfl, sq_of c2, by rw [all_true]; exact q1 G c1⟩
        have h1 := sq12.ext g1
        have h2 := sq22.ext g1
        refine ⟨_, rfl, _, rfl, a1, a2, us, ws, rfl, ?_⟩
        cases b with
        | true => exact .inl ⟨sq_of h1, sq_of h2, fun Dl hD => lc_it (walk_zip (K := K) (a := a1) (b := a2) (xs := us) (ys := ws) rfl) (fun i G => Ex G1 G ∧ G Dl = some (.lst ((List.replicate i true).map V.bl))) ⟨Ex.new hD, upd_same⟩ (fun i G _ c => ⟨sq_of (c.1 _ _ h1), sq_of (c.1 _ _ h2)⟩) (fun i x G G' hi c y => turn Dl i x G G' hD (by omega) c y) (fun G c => fin Dl G c)⟩
        | false => exact .inr ⟨st_of h1, st_of h2, fun Dl hD => lc_it (walk_zipT (K := K) (a := a1) (b := a2) (xs := us) (ys := ws) rfl) (fun i G => Ex G1 G ∧ G Dl = some (.lst ((List.replicate i true).map V.bl))) ⟨Ex.new hD, upd_same⟩ (fun i G _ c => ⟨st_of (c.1 _ _ h1), st_of (c.1 _ _ h2)⟩) (fun i x G G' hi c y => turn Dl i x G G' hD (by omega) c y) (fun G c => fin Dl G c)⟩
      | @dat _ _ _ o huo hvo hq hd =>
        have hq : (o.isLst || o.isTup) = false := hq
        have hd1 : o.isLst = false := (Bool.or_eq_false_iff.mp hq).1
        have hd2 : o.isTup = false := (Bool.or_eq_false_iff.mp hq).2
        refine q_when (b := false) (et_is (et_B (ev_isSeq (ev_var rfl) hvo)) hq) (fun z => nomatch z) fun _ H1 e1 => ?_
        cases hdd : o.isDct with
        | true =>
          cases o with
          | dct =>
            obtain ⟨a1, rfl, ha1⟩ := huo
            obtain ⟨a2, rfl, ha2⟩ := hvo
            have hm2 : 2 < m + 1 := hd
            have hm3 : ∃ m0, m = m0 + 1 := ⟨m - 1, by omega⟩
            refine q_when (b := true) (et_B (ev_isDct (o := .dct) (ev_var rfl) ⟨a2, rfl, e1 _ _ ha2⟩)) (fun _ H2 e2 => ?_) fun z => nomatch z
            have e02 := e1.trans e2
            refine s_ret (ev_andV (a := true) (b := true) (ev_isDct (o := .dct) (ev_var rfl) ⟨a1, rfl, e02 _ _ ha1⟩) fun _ G1 g1 Q1 q1 => ?_) fun H3 e3 => k H3 (e02.trans e3)
            refine ⟨.ref a1, rfl, a1, [], rfl, g1 _ _ (e02 _ _ ha1), fun G2 p1 ts1 x1 n1 _ _ h1 pr1 => ⟨.ref a2, rfl, a2, [], rfl, x1 _ _ (g1 _ _ (e02 _ _ ha2)), fun G3 p2 ts2 x2 n2 _ _ h2 pr2 => ?_⟩⟩
            cases pr1
            cases pr2
            have x2' : Ex G2 G3 := x2
            have x1' : Ex G1 G2 := x1
            exact ⟨.ref p1, .ref p2, rfl, sm_of (o := .lst []) ⟨p1, [], rfl, x2' _ _ h1, rfl⟩ ⟨p2, [], rfl, h2, rfl⟩ (by show 1 < m; omega) (by decide), fun G4 g4 => q1 G4 ((x1'.trans x2').trans g4)⟩
          | _ => cases hdd
        | false =>
          refine q_when (b := false) (et_is (et_B (ev_isDct (ev_var rfl) (hvo.ext e1))) hdd) (fun z => nomatch z) fun _ H2 e2 => ?_
          have e02 := e1.trans e2
          cases hii : o.isInt with
          | true =>
            refine q_when (b := true) (et_is (et_B (ev_isInt (ev_var rfl) (hvo.ext e02))) hii) (fun _ H3 e3 => ?_) fun z => nomatch z
            have e03 := e02.trans e3
            refine s_ret (ev_andV (a := true) (b := true) (ev_is (ev_isInt (ev_var rfl) (huo.ext e03)) (by rw [hii])) fun _ => ev_andV (a := true) (b := true) (ev_is (ev_op (ev_isBool (ev_var rfl) (huo.ext e03)) (ev_isBool (ev_var rfl) (hvo.ext e03)) (rv_eq rfl)) (congrArg V.bl (decide_eq_true rfl))) fun _ => ?_) fun H4 e4 => k H4 (e03.trans e4)
            cases o with
            | bl c =>
              obtain rfl : u = .bl c := huo
              obtain rfl : v = .bl c := hvo
              exact ev_is (ev_op (ev_var rfl) (ev_var rfl) (rv_eq rfl)) (congrArg V.bl (decide_eq_true rfl))
            | int c =>
              obtain rfl : u = .int c := huo
              obtain rfl : v = .int c := hvo
              exact ev_is (ev_op (ev_var rfl) (ev_var rfl) (rv_eq rfl)) (congrArg V.bl (decide_eq_true rfl))
            | _ => cases hii
          | false =>
            refine q_when (b := false) (et_is (et_B (ev_isInt (ev_var rfl) (hvo.ext e02))) hii) (fun z => nomatch z) fun _ H3 e3 => ?_
            have e03 := e02.trans e3
            have hu3 := huo.ext e03
            have h4 : PySem.W.kitAny K (.type o.ty) (["int", "list", "tuple", "dict"].map Value.type) = some false := by
              rw [kit_four, hii, hd1, hd2, hdd]
              rfl
            refine s_ret (ev_andV (a := true) (b := true) (ev_notV (a := false) (ev_isiN (m := o.ty) (cs := ["int", "list", "tuple", "dict"]) (ev_var rfl) hu3.tyx h4 (eu_tup (ea_cons ev_c (ea_cons ev_c (ea_cons ev_c (ea_cons ev_c ea_nil)))) (by show 4 ≤ 100000; decide)))) fun _ => ?_) fun H4 e4 => k H4 (e03.trans e4)
            cases o with
            | non =>
              obtain rfl : u = .non := huo
              obtain rfl : v = .non := hvo
              exact ev_is (ev_op (ev_var rfl) (ev_var rfl) (rv_orl (rv_eq rfl))) (congrArg V.bl (decide_eq_true rfl))
            | str c =>
              obtain rfl : u = .str c := huo
              obtain rfl : v = .str c := hvo
              exact ev_is (ev_op (ev_var rfl) (ev_var rfl) (rv_orl (rv_eq rfl))) (congrArg V.bl (decide_eq_true rfl))
            | bl c => cases hii
            | int c => cases hii
            | dct => cases hdd
            | lst c => cases hd1
            | tup c => cases hd2
      | @nam _ a ar pr hn hs =>
        have hi := hn.ins T
        have hq : ∀ H1, Ex H H1 → ∀ Q : VK, (∀ H2, Ex H1 H2 → Q (.bl true) H2) → (rEq (.ref a) (.ref a) H1 Q ∨ (rOwn K (CN K) (spNe K) E0 (.ref a) (.ref a) H1 Q ∨ rOwn K (CT K) (spTe K) E0 (.ref a) (.ref a) H1 Q)) := fun H1 e1 Q' q' => .inr (.inl (rv_ownN hn hn hs hs H1 e1 Q' (by rw [eqPs_self, eqPs_self]; exact q')))
        refine q_when (b := false) (et_B (ev_isSeqI (ev_var rfl) hi)) (fun z => nomatch z) fun _ H1 e1 => ?_
        refine q_when (b := false) (et_B (ev_isiK (ev_var rfl) (hi.ext e1).tyx (hi.1.no "dict" (by decide)))) (fun z => nomatch z) fun _ H2 e2 => ?_
        have e02 := e1.trans e2
        refine q_when (b := false) (et_B (ev_isiK (ev_var rfl) (hi.ext e02).tyx (hi.1.no "int" (by decide)))) (fun z => nomatch z) fun _ H3 e3 => ?_
        have e03 := e02.trans e3
        exact s_ret (ev_andV (a := true) (b := true) (ev_notV (a := false) (ev_isFourI (ev_var rfl) (hi.ext e03) (eu_tup (ea_cons ev_c (ea_cons ev_c (ea_cons ev_c (ea_cons ev_c ea_nil)))) (by show 4 ≤ 100000; decide)))) fun _ G g Q' q' => ⟨_, rfl, _, rfl, hq G (e03.trans g) Q' q'⟩) fun H4 e4 => k H4 (e03.trans e4)
      | @thy _ a n ar pr axs ht hs hA =>
        have hi := ht.th.ins T
        have hq : ∀ H1, Ex H H1 → ∀ Q : VK, (∀ H2, Ex H1 H2 → Q (.bl true) H2) → (rEq (.ref a) (.ref a) H1 Q ∨ (rOwn K (CN K) (spNe K) E0 (.ref a) (.ref a) H1 Q ∨ rOwn K (CT K) (spTe K) E0 (.ref a) (.ref a) H1 Q)) := fun H1 e1 Q' q' => .inr (.inr (rv_ownT ht ht hs hs hA hA H1 e1 Q' (by rw [eqPs_self, eqPs_self, eqAx_self hA]; exact q')))
        refine q_when (b := false) (et_B (ev_isSeqI (ev_var rfl) hi)) (fun z => nomatch z) fun _ H1 e1 => ?_
        refine q_when (b := false) (et_B (ev_isiK (ev_var rfl) (hi.ext e1).tyx (hi.1.no "dict" (by decide)))) (fun z => nomatch z) fun _ H2 e2 => ?_
        have e02 := e1.trans e2
        refine q_when (b := false) (et_B (ev_isiK (ev_var rfl) (hi.ext e02).tyx (hi.1.no "int" (by decide)))) (fun z => nomatch z) fun _ H3 e3 => ?_
        have e03 := e02.trans e3
        exact s_ret (ev_andV (a := true) (b := true) (ev_notV (a := false) (ev_isFourI (ev_var rfl) (hi.ext e03) (eu_tup (ea_cons ev_c (ea_cons ev_c (ea_cons ev_c (ea_cons ev_c ea_nil)))) (by show 4 ≤ 100000; decide)))) fun _ G g Q' q' => ⟨_, rfl, _, rfl, hq G (e03.trans g) Q' q'⟩) fun H4 e4 => k H4 (e03.trans e4)
end
end K02

set_option Elab.async false
set_option linter.all false
set_option maxRecDepth 100000
set_option maxHeartbeats 4000000
/-! Names made of drawn names, handed loosely. -/
namespace K02
open PySem PySem.Spec PyProof.Rows L2 Evl LamX
theorem passX {X : Cx} : L2.Passes (L2.CX X.prog X.w) X E0 := fun pins σ H s e s' I h => passAt L2.takes0 σ pins H s e s' I h
theorem ovs_perm {G : Hp} {xs ys : List V} (h : ys.Perm xs) : ∀ {os : List O}, OVs G xs os → ∃ os', os'.Perm os ∧ OVs G ys os' := by
  induction h with
  | nil => intro os h; exact ⟨os, .refl _, h⟩
  | cons x p ih =>
    intro os h
    cases os with
    | nil => cases h
    | cons o os =>
      obtain ⟨v, us, e, h1, h2⟩ := h
      obtain ⟨rfl, rfl⟩ := List.cons.inj e
      obtain ⟨os', p', h'⟩ := ih h2
      exact ⟨o :: os', .cons _ p', .cons h1 h'⟩
  | swap x y l =>
    intro os h
    match os, h with
    | o1 :: o2 :: os, ⟨v, us, e, h1, v2, us2, e2, h2, h3⟩ =>
      obtain ⟨rfl, rfl⟩ := List.cons.inj e
      obtain ⟨rfl, rfl⟩ := List.cons.inj e2
      exact ⟨o2 :: o1 :: os, .swap _ _ _, .cons h2 (.cons h1 h3)⟩
    | [o1], ⟨v, us, e, h1, h3⟩ =>
      obtain ⟨rfl, rfl⟩ := List.cons.inj e
      cases h3
    | [], h => cases h
  | trans p1 p2 ih1 ih2 =>
    intro os h
    obtain ⟨o1, q1, h1⟩ := ih2 h
    obtain ⟨o2, q2, h2⟩ := ih1 h1
    exact ⟨o2, q2.trans q1, h2⟩
theorem ovs_permP {G : Hp} {xs ys : List V} {ar : List (Str × Nat)} (h : ys.Perm xs) (ov : OVs G xs (ar.map prO)) : ∃ ps : List (Str × Nat), ps.Perm ar ∧ OVs G ys (ps.map prO) := by
  obtain ⟨os, p, h1⟩ := ovs_perm h ov
  obtain ⟨ps, p2, e⟩ := perm_map_back prO p
  exact ⟨ps, p2, e ▸ h1⟩
theorem Spr.txQ {p q : Addr} {H : Hp} {n : Int} (S : Spr H p q n) : Tx H (Hx (PQ p q) H) := fun a xs h => by
  obtain ⟨sx, sy, h1, h2⟩ := S.lst
  refine hx_of ?_ tup_tbl h
  rintro (rfl | rfl)
  · rw [h1] at h; cases h
  · rw [h2] at h; cases h
theorem prs_strip : ∀ ps : List (Str × Nat), O.strips (ps.map prO) = ps.map prO
  | [] => rfl
  | r :: ps => by
    show (prO r).strip :: O.strips (ps.map prO) = prO r :: ps.map prO
    rw [prs_strip ps]
    rfl
theorem prs_sz : ∀ ps : List (Str × Nat), O.szs (ps.map prO) = 3 * ps.length
  | [] => rfl
  | r :: ps => by
    show (1 + (1 + 0) + 1) + O.szs (ps.map prO) = _
    rw [prs_sz ps, List.length_cons]
    omega
def spMd (K : PySem.W.Frag) : Sp := fun vs H Q _ => ∃ (p q rt : Addr) (n : Int) (ar pr : List (Str × Nat)), vs = [.ref p, .ref rt] ∧ Spr H p q n ∧ n < 7000000 ∧ RwV H p q rt ar pr ∧ Raw ar pr ∧
  ∀ (nb : Addr) (n' : Int) (G : Hp), NmAt K (Hx (Old H) G) nb ar pr → H nb = none → Spr G p q n' → n' ≤ n + 500 → But p q H G → Q (.ref nb) G
theorem sc_md : FnScope ["_law_stream", "_law_raw"] ["_law_stream", "_law_raw"] (defScope s__law_a_made) := ⟨rfl, rfl, rfl, by decide +kernel, rfl, by decide +kernel, by decide +kernel⟩
abbrev tMix1 (K : PySem.W.Frag) (i : Int) : TE := tCall (spLz 4) [] E0 (tCons (tVar 0) (tCons (tCall (spMix K) [] E0 (tCons (tVar 0) (tCons (tOp (rIxT K) (tVar 1) (tC (.int i))) tNil))) tNil))
section
variable {K : PySem.W.Frag} {H : Hp}
/-- pairs mixed, handed loosely -/
theorem mix_loose {p q rt a : Addr} {n : Int} {i : Int} {xs : List V} {ar : List (Str × Nat)} {σ : L2.St} {Q : VK} {ws : List V} (h0 : σ[0]? = some (some (.ref p))) (h1 : σ[1]? = some (some (.ref rt))) (ht : H rt = some (.tup ws)) (hi : atI ws i = some (.ref a)) (S : Spr H p q n) (hn : n < 8000000) (ap : a ≠ p) (aq : a ≠ q) (ha : H a = some (.lst xs)) (hx : OVs H xs (ar.map prO)) (hl : ar.length ≤ 12)
    (k : ∀ (v : V) (o : O) (ps : List (Str × Nat)) (n' : Int) (G : Hp), ps.Perm ar → o.strip = .tup (ps.map prO) → OV (Hx (Old H) G) v o → Spr G p q n' → n' ≤ n + 100 → But p q H G → Q v G) : tMix1 K i σ H Q := by
  have hxl := hx.length
  rw [List.length_map] at hxl
  refine ⟨_, h0, _, h0, _, h1, rt, ws, i, .ref a, rfl, rfl, st_of ht, hi, p, q, a, n, xs, rfl, S, by omega, by omega, sq_of ha, fun r G ys hr hG hpm S1 B1 => ?_⟩
  obtain ⟨ps, pm, hps⟩ := ovs_permP (ar := ar) hpm (OVs.tx (S.tx B1) (prs_noL _) (prs_nod _) hx)
  have nr := S.nep hr
  have hsz : (O.lst (ps.map prO)).sz = 3 * ps.length + 1 := by show O.szs _ + 1 = _; rw [prs_sz]
  have hpl : ps.length ≤ 12 := by rw [pm.length_eq]; exact hl
  have hdp : (O.lst (ps.map prO)).dp < 4 := by show O.dps _ + 1 < 4; have := prs_dp ps; omega
  refine ⟨p, q, .ref r, _, .lst (ps.map prO), rfl, S1, by omega, ⟨r, ys, rfl, hx_of (by rintro (z | z); exact nr.1 z; exact nr.2 z) lst_tbl hG, OVs.tx S1.txQ (prs_noL _) (prs_nod _) hps⟩, hdp, by omega, fun v G2 n2 o S2 hn2 B2 hov hst => ?_⟩
  refine k v o ps n2 G2 pm ?_ (hov.ext (hx_mono fun b hb => Old.but B1 S1 hb)) S2 (by omega) (B1.trans B2)
  rw [hst]
  show O.tup (O.strips (ps.map prO)) = _
  rw [prs_strip]
end
section
variable {P : Program} {w : World} {K : PySem.W.Frag} {mg : Str → Option Value} {base : Heap}
theorem ok_a_made (T : TN P w K mg base) : Ok P w K mg base CX0 "_law_a_made" ["_law_stream", "_law_raw"] 8 (spMd K) := by
  obtain ⟨fL, dL, GL, bL, kL, mL⟩ := (ok_loose2 T.toT02 4).ex
  obtain ⟨fM, dM, GM, bM, kM, mM⟩ := (ok_mixed T.toT02).ex
  obtain ⟨fN, fdN, MN, FN⟩ := T.mkN
  have GN := ok_ninit T FN
  have bN := FN.bindsN (ps := ["self", "functions", "predicates"]) (fun kV doc pm an cdv ct us hl => match us, hl with | [_, _, _], _ => rfl)
  refine T.toT02.ok 22 rfl sc_md (fun vs H Q E h => by obtain ⟨p, q, rt, n, ar, pr, rfl, _⟩ := h; rfl) (fun kV doc pm an cdv ct us hl => match us, hl with | [_, _], _ => rfl) (fun f cdv A outer st H vs Q E hr h => ?_)
  obtain ⟨p, q, rt, n, ar, pr, rfl, S, hn, hrw, R, k⟩ := h
  obtain ⟨a, b, xs, ys, g1, na1, na2, nb1, nb2, ha, hb, hx, hy⟩ := hrw.ex
  refine ⟨_, pss_one (ps_ret (pe_make MN GN (hr.mono (by omega)) (by rfl) T.gN bN .nil pass0 (pa_cons (pe_call GL (hr.mono (by omega)) (by rfl) mL kL bL .nil pass0 (pa_cons (pv 0) (pa_cons (pe_call GM (hr.mono (by omega)) (by rfl) mM kM bM .nil pass0 (pa_cons (pv 0) (pa_cons (pe_ix ix_tup (pv 1) pe_int (fun _ _ => rfl)) pa_nil))) pa_nil)))
    (pa_cons (pe_call GL (hr.mono (by omega)) (by rfl) mL kL bL .nil pass0 (pa_cons (pv 0) (pa_cons (pe_call GM (hr.mono (by omega)) (by rfl) mM kM bM .nil pass0 (pa_cons (pv 0) (pa_cons (pe_ix ix_tup (pv 1) pe_int (fun _ _ => rfl)) pa_nil))) pa_nil))) pa_nil)))), ?_⟩
  refine mix_loose (K := K) (σ := [some (.ref p), some (.ref rt)]) (i := 0) rfl rfl g1 (atI_nat (j := 0) rfl) S (by omega) na1 na2 ha hx R.l1 fun v1 o1 ps n1 G1 pm1 st1 ov1 S1 hn1 B1 => ?_
  have tx1 := S.tx B1
  refine mix_loose (K := K) (σ := [some (.ref p), some (.ref rt)]) (i := 1) rfl rfl (tx1 _ _ g1) (atI_nat (j := 1) rfl) S1 (by omega) nb1 nb2 (B1 _ _ nb1 nb2 hb) (OVs.tx tx1 (prs_noL _) (prs_nod _) hy) R.l2 fun v2 o2 qs n2 G2 pm2 st2 ov2 S2 hn2 B2 => ?_
  have old := S.old
  have B12 := B1.trans B2
  have ov1' : OV G2 v1 o1 := (ov1.ext (Go.but B2 old.1 old.2).ex).ext hx_ex
  have ov2' : OV G2 v2 o2 := ov2.ext hx_ex
  intro x dx nx ndx hne
  have e1 : Ex G2 (upd G2 dx (.own x)) := Ex.new ndx
  have nx1 : (upd G2 dx (.own x)) x = none := by rw [upd_ne hne.symm]; exact nx
  have e2 : Ex G2 (upd (upd G2 dx (.own x)) x (.ins (CN K) dx [])) := e1.trans (Ex.new nx1)
  refine ⟨x, dx, v1, v2, o1, o2, ps, qs, ar, pr, rfl, upd_same, ov1'.ext e2, ov2'.ext e2, st1, st2, R.ok pm1 pm2, pm1, R.s1, pm2, R.s2, fun H' hN hk => ⟨rfl, ?_⟩⟩
  have e3 : Ex G2 H' := fun b u hb => hk b u (e2 _ _ hb) (ne_of_none hb nx)
  have hxH : H x = none := but_none B12 S2 nx
  exact k x n2 H' (hN.ext (hx_mono fun b hb => Old.ex e2 (Old.but B12 S2 hb))) hxH (S2.ext e3) (by omega) (B12.trans (But.of e3))
end
end K02

set_option Elab.async false
set_option linter.all false
set_option maxRecDepth 100000
set_option maxHeartbeats 4000000
/-! Lists spoiled. -/
namespace K02
open PySem PySem.Spec PyProof.Rows L2 Evl LamX
mutual
/-- lists in data -/
def O.lc : O → Nat
  | .non => 0 | .bl _ => 0 | .int _ => 0 | .str _ => 0 | .dct => 0 | .lst xs => O.lcs xs + 1 | .tup xs => O.lcs xs
def O.lcs : List O → Nat
  | [] => 0
  | x :: xs => x.lc + O.lcs xs
end
theorem lcs_app : ∀ (xs ys : List O), O.lcs (xs ++ ys) = O.lcs xs + O.lcs ys
  | [], ys => by show O.lcs ys = 0 + O.lcs ys; omega
  | x :: xs, ys => by show x.lc + O.lcs (xs ++ ys) = (x.lc + O.lcs xs) + O.lcs ys; rw [lcs_app xs ys]; omega
mutual
theorem lc_sz : ∀ o : O, o.lc ≤ o.sz
  | .non => Nat.zero_le _ | .bl _ => Nat.zero_le _ | .int _ => Nat.zero_le _ | .str _ => Nat.zero_le _ | .dct => Nat.zero_le _
  | .lst xs => Nat.succ_le_succ (lcs_sz xs)
  | .tup xs => Nat.le_succ_of_le (lcs_sz xs)
theorem lcs_sz : ∀ xs : List O, O.lcs xs ≤ O.szs xs
  | [] => Nat.le_refl _
  | x :: xs => Nat.add_le_add (lc_sz x) (lcs_sz xs)
end
open Classical in
/-- the heap, of its lists those of B alone -/
noncomputable def HB (B : Addr → Prop) (H : Hp) : Hp := fun b => match H b with
  | some (.lst xs) => if B b then some (.lst xs) else none
  | o => o
theorem hb_of {B : Addr → Prop} {H : Hp} {b : Addr} {o : HO} (h : H b = some o) (n : (∀ xs, o ≠ .lst xs) ∨ B b) : HB B H b = some o := by
  unfold HB
  rw [h]
  split
  · rename_i xs e
    rcases n with n | n
    · exact absurd (Option.some.inj e) (n xs)
    · rw [if_pos n]
      exact e.symm
  · rfl
theorem hb_to {B : Addr → Prop} {H : Hp} {b : Addr} {o : HO} (h : HB B H b = some o) : H b = some o ∧ ((∀ xs, o ≠ .lst xs) ∨ B b) := by
  unfold HB at h
  split at h
  · rename_i xs e
    by_cases n : B b
    · rw [if_pos n] at h
      exact ⟨by rw [e, h], .inr n⟩
    · rw [if_neg n] at h
      cases h
  · rename_i x hx
    exact ⟨h, .inl fun xs e => hx xs (by rw [h, e])⟩
theorem hb_ex {B : Addr → Prop} {H : Hp} : Ex (HB B H) H := fun b o h => (hb_to h).1
theorem hb_mono {B : Addr → Prop} {H G : Hp} (e : Ex H G) : Ex (HB B H) (HB B G) := fun b o h => hb_of (e _ _ (hb_to h).1) (hb_to h).2
/-- texts put behind the lists of B, n at most a list -/
structure Spl (B : Addr → Prop) (H G : Hp) (n : Nat) : Prop where
  go : ∀ b o, ¬ B b → H b = some o → G b = some o
  ls : ∀ b xs, B b → H b = some (.lst xs) → ∃ ys : List Str, G b = some (.lst (xs ++ sVs ys)) ∧ ys.length ≤ n
theorem Spl.of {B : Addr → Prop} {H G : Hp} (e : Ex H G) : Spl B H G 0 := ⟨fun b o _ h => e _ _ h, fun b xs _ h => ⟨[], by rw [e _ _ h]; simp [sVs], Nat.le_refl _⟩⟩
theorem Spl.trans {B : Addr → Prop} {H G J : Hp} {n m : Nat} (a : Spl B H G n) (b : Spl B G J m) : Spl B H J (n + m) :=
  ⟨fun c o nc h => b.go c o nc (a.go c o nc h), fun c xs hc h => by
    obtain ⟨ys, h1, l1⟩ := a.ls c xs hc h
    obtain ⟨zs, h2, l2⟩ := b.ls c _ hc h1
    exact ⟨ys ++ zs, by rw [h2, sVs_app, List.append_assoc], by rw [List.length_append]; omega⟩⟩
theorem Spl.put {B : Addr → Prop} {H : Hp} {a : Addr} {xs : List V} {s : Str} (hb : B a) (h : H a = some (.lst xs)) : Spl B H (upd H a (.lst (xs ++ [.str s]))) 1 :=
  ⟨fun b o nb hb' => by rw [upd_ne (fun z => nb (by rw [z]; exact hb))]; exact hb', fun b ys hb' hy => by
    by_cases e : b = a
    · subst e
      rw [h] at hy
      obtain rfl := HO.lst.inj (Option.some.inj hy)
      exact ⟨[s], upd_same, Nat.le_refl _⟩
    · exact ⟨[], by rw [upd_ne e, hy]; simp [sVs], Nat.zero_le _⟩⟩
theorem dps_strs : ∀ ys : List Str, O.dps (ys.map .str) = 0
  | [] => rfl
  | y :: ys => by show max 0 (O.dps (ys.map .str)) = 0; rw [dps_strs ys]; rfl
theorem lcs_strs : ∀ ys : List Str, O.lcs (ys.map .str) = 0
  | [] => rfl
  | y :: ys => by show 0 + O.lcs (ys.map .str) = 0; rw [lcs_strs ys]
theorem nods_strs : ∀ ys : List Str, O.nods (ys.map .str) = true
  | [] => rfl
  | y :: ys => by show (true && O.nods (ys.map .str)) = true; rw [nods_strs ys]; rfl
theorem dps_app : ∀ (xs ys : List O), O.dps (xs ++ ys) = max (O.dps xs) (O.dps ys)
  | [], ys => by show O.dps ys = max 0 (O.dps ys); omega
  | x :: xs, ys => by show max x.dp (O.dps (xs ++ ys)) = max (max x.dp (O.dps xs)) (O.dps ys); rw [dps_app xs ys]; omega
theorem nods_app2 : ∀ (xs ys : List O), O.nods (xs ++ ys) = (O.nods xs && O.nods ys)
  | [], ys => by show O.nods ys = (true && O.nods ys); simp
  | x :: xs, ys => by show (x.nod && O.nods (xs ++ ys)) = ((x.nod && O.nods xs) && O.nods ys); rw [nods_app2 xs ys, Bool.and_assoc]
mutual
/-- what is spoiled stays data, as deep, with as many lists -/
theorem spl_ov {B : Addr → Prop} {H G : Hp} {n : Nat} (S : Spl B H G n) (hB : ∀ b, B b → Old H b) : ∀ {o : O} {v : V}, OV (HB B H) v o → ∃ o', OV (HB B G) v o' ∧ o'.dp = o.dp ∧ o'.lc = o.lc ∧ o'.nod = o.nod
  | .non, v, h => ⟨.non, h, rfl, rfl, rfl⟩
  | .bl b, v, h => ⟨.bl b, h, rfl, rfl, rfl⟩
  | .int i, v, h => ⟨.int i, h, rfl, rfl, rfl⟩
  | .str s, v, h => ⟨.str s, h, rfl, rfl, rfl⟩
  | .dct, v, ⟨a, h1, h2⟩ => by
    obtain ⟨h3, h4⟩ := hb_to h2
    have nb : ¬ B a := fun z => by
      obtain ⟨xs, e⟩ := hB a z
      rw [h3] at e
      cases e
    exact ⟨.dct, ⟨a, h1, hb_of (S.go a _ nb h3) (.inl fun _ z => nomatch z)⟩, rfl, rfl, rfl⟩
  | .lst xs, v, ⟨a, vs, h1, h2, h3⟩ => by
    obtain ⟨h4, h5⟩ := hb_to h2
    have ba : B a := h5.resolve_left fun z => z vs rfl
    obtain ⟨os, k1, k2, k3, k4⟩ := spl_ovs S hB h3
    obtain ⟨ys, g1, _⟩ := S.ls a vs ba h4
    refine ⟨.lst (os ++ ys.map .str), ⟨a, _, h1, hb_of g1 (.inr ba), OVs.append k1 (strs_ov ys)⟩, ?_, ?_, ?_⟩
    · show O.dps _ + 1 = O.dps xs + 1
      rw [dps_app, dps_strs, k2]
      omega
    · show O.lcs _ + 1 = O.lcs xs + 1
      rw [lcs_app, lcs_strs, k3]
    · show O.nods _ = O.nods xs
      rw [nods_app2, nods_strs, k4, Bool.and_true]
  | .tup xs, v, ⟨a, vs, h1, h2, h3⟩ => by
    obtain ⟨h4, h5⟩ := hb_to h2
    have nb : ¬ B a := fun z => by
      obtain ⟨xs, e⟩ := hB a z
      rw [h4] at e
      cases e
    obtain ⟨os, k1, k2, k3, k4⟩ := spl_ovs S hB h3
    exact ⟨.tup os, ⟨a, vs, h1, hb_of (S.go a _ nb h4) (.inl fun _ z => nomatch z), k1⟩, by show O.dps os + 1 = O.dps xs + 1; rw [k2], k3, k4⟩
theorem spl_ovs {B : Addr → Prop} {H G : Hp} {n : Nat} (S : Spl B H G n) (hB : ∀ b, B b → Old H b) : ∀ {os : List O} {vs : List V}, OVs (HB B H) vs os → ∃ os', OVs (HB B G) vs os' ∧ O.dps os' = O.dps os ∧ O.lcs os' = O.lcs os ∧ O.nods os' = O.nods os
  | [], vs, h => ⟨[], h, rfl, rfl, rfl⟩
  | x :: xs, vs, ⟨v, us, h1, h2, h3⟩ => by
    obtain ⟨o, a1, a2, a3, a4⟩ := spl_ov S hB h2
    obtain ⟨os, k1, k2, k3, k4⟩ := spl_ovs S hB h3
    refine ⟨o :: os, ⟨v, us, h1, a1, k1⟩, ?_, ?_, ?_⟩
    · show max o.dp (O.dps os) = max x.dp (O.dps xs)
      rw [a2, k2]
    · show o.lc + O.lcs os = x.lc + O.lcs xs
      rw [a3, k3]
    · show (o.nod && O.nods os) = (x.nod && O.nods xs)
      rw [a4, k4]
end
def spSpl (m : Nat) : Sp := fun vs H Q _ => ∃ (v : V) (o : O) (B : Addr → Prop), vs = [v] ∧ (∀ b, B b → Old H b) ∧ OV (HB B H) v o ∧ o.nod = true ∧ o.dp < m ∧ (∀ b xs, B b → H b = some (.lst xs) → xs.length + o.lc ≤ 50000) ∧
  ∀ G, Spl B H G o.lc → Q .non G
abbrev nSl : List Str := ["_law_thing", "_law_part", "_law_key"]
theorem sc_sl : FnScope nSl ["_law_thing"] (defScope s__law_a_spoiled) := ⟨rfl, rfl, rfl, by decide +kernel, rfl, by decide +kernel, by decide +kernel⟩
theorem lcs_take {os : List O} {i : Nat} {x : O} (h : os[i]? = some x) : O.lcs (os.take (i + 1)) = O.lcs (os.take i) + x.lc := by
  rw [List.take_succ, h, lcs_app]
  show O.lcs (os.take i) + (x.lc + 0) = _
  omega
theorem lcs_take_le (os : List O) (i : Nat) : O.lcs (os.take i) ≤ O.lcs os := by
  have := lcs_app (os.take i) (os.drop i)
  rw [List.take_append_drop] at this
  omega
section
variable {P : Program} {w : World} {K : PySem.W.Frag} {mg : Str → Option Value} {base : Heap}
theorem ok_spoiled (T : T02 P w K mg base) : ∀ m, Ok P w K mg base CX0 "_law_a_spoiled" ["_law_thing"] (m + 1) (spSpl m)
  | 0 => T.ok 27 rfl sc_sl (fun vs H Q E h => by obtain ⟨v, o, B, rfl, _⟩ := h; rfl) (fun kV doc pm an cdv ct us hl => match us, hl with | [_], _ => rfl) (fun f cdv A outer s H vs Q E hr h => by obtain ⟨v, o, B, _, _, _, _, h0, _⟩ := h; exact absurd h0 (Nat.not_lt_zero _))
  | m + 1 => by
    obtain ⟨fR, dR, GR, bR, kR, mR⟩ := (ok_spoiled T m).ex
    refine T.ok 27 rfl sc_sl (fun vs H Q E h => by obtain ⟨v, o, B, rfl, _⟩ := h; rfl) (fun kV doc pm an cdv ct us hl => match us, hl with | [_], _ => rfl) (fun f cdv A outer s H vs Q E hr h => ?_)
    obtain ⟨v, o, B, rfl, hB, ho, hnd, hd, hl, k⟩ := h
    refine ⟨_, pss_cons (ps_if (pt_val (pe_isiLT T.isi T.list T.tuple (pv 0))) (pss_one (ps_for PassesOwn.never rfl (pi_list (pe_callTy call_list_of (by rfl) T.list PyProof.Rows.boot_list (pa_cons (pv 0) pa_nil))) (pg_name (i := 1) sc_sl.nd rfl (Or.inl rfl)) (pss_one (ps_expr (pe_call GR hr (by rfl) mR kR bR .nil pass0 (pa_cons (pv 1) pa_nil)))))) pss_nil)
      (pss_cons (ps_if (pt_val (pe_isiB T.isi T.dict boot_dict23 (pv 0))) (pss_cons ps_never (pss_one ps_never)) pss_nil)
      (pss_one (ps_if (pt_val (pe_isiB T.isi T.list PyProof.Rows.boot_list (pv 0))) (pss_one (ps_expr (pe_bm PySem.F.plainAttrs_list PySem.F.slot_list_append PySem.F.type_list_append mt_append (pv 0) (pa_cons pe_str pa_nil)))) pss_nil))), ?_⟩
    have hoH : OV H v o := ho.ext hb_ex
    cases hq : o.isLst || o.isTup with
    | false =>
      have h1 := Bool.or_eq_false_iff.mp hq
      refine q_if (b := false) (et_is (et_B (ev_isSeq (ev_var rfl) hoH)) hq) (fun z => nomatch z) fun _ H1 e1 => ?_
      refine q_when (b := false) (et_is (et_B (ev_isDct (ev_var rfl) (hoH.ext e1))) ?_) (fun z => nomatch z) fun _ H2 e2 => ?_
      · cases o with
        | dct => cases hnd
        | _ => rfl
      refine s_when (b := false) (et_is (et_B (ev_isLst (ev_var rfl) (hoH.ext (e1.trans e2)))) h1.1) (fun z => nomatch z) fun _ H3 e3 => ?_
      have : o.lc = 0 := by
        cases o with
        | lst xs => cases hq
        | tup xs => cases hq
        | _ => rfl
      rw [this] at k
      exact k _ (Spl.of ((e1.trans e2).trans e3))
    | true =>
      obtain ⟨b, os, rfl⟩ := O.seq_of hq
      obtain ⟨a, us, rfl, ha, hov⟩ := ho.seq
      obtain ⟨haH, haB⟩ := hb_to ha
      have haH' : SqB H b a us := haH
      have hlc : O.lcs os ≤ (O.seq b os).lc := by cases b <;> (show O.lcs os ≤ _ ; first | exact Nat.le_refl _ | exact Nat.le_succ _)
      have hdp : O.dps os < m := by
        have : (O.seq b os).dp = O.dps os + 1 := by cases b <;> rfl
        omega
      have hnds : O.nods os = true := by cases b <;> exact hnd
      refine q_if (b := true) (et_is (et_B (ev_isSeq (ev_var rfl) hoH)) hq) (fun _ H1 e1 => ?_) (fun z => nomatch z)
      refine ⟨_, rfl, a, us, rfl, ?_, fun c hc => ⟨c, rfl, ⟨us, sq_of upd_same⟩, ?_⟩⟩
      · cases b with
        | true => exact .inl (sq_of (e1 _ _ haH))
        | false => exact .inr (st_of (e1 _ _ haH))
      have hcH : H c = none := fresh_back e1 hc
      have ncB : ¬ B c := fun z => by
        obtain ⟨xs, e⟩ := hB c z
        rw [hcH] at e
        cases e
      have e2 : Ex H (upd H1 c (.lst us)) := e1.trans (Ex.new hc)
      refine for_it (walk_list (K := K) (a := c) (xs := us)) (fun i σ' G => (∃ x1, σ' = [some (.ref a), x1, none]) ∧ Spl B H G (O.lcs (os.take i)) ∧ G c = some (.lst us)) ⟨⟨none, rfl⟩, by rw [List.take_zero]; exact Spl.of e2, upd_same⟩ (fun i σ' G _ h => sq_of h.2.2) ?_ ?_
      · rintro i x σ' G G' hi ⟨⟨x1, rfl⟩, hS, hcG⟩ ⟨rfl, hx⟩
        obtain ⟨y, hy, hvy⟩ := hov.get hx
        have hy1 : y.dp ≤ O.dps os := O.dp_get hy
        have hy2 : y.nod = true := by
          have := List.mem_of_getElem? hy
          exact nods_all.mp hnds y this
        have htk := lcs_take hy
        have hle := lcs_take_le os (i + 1)
        obtain ⟨y', g1, g2, g3, g4⟩ := spl_ov hS hB hvy
        refine ⟨_, rfl, x, y', B, rfl, fun b' hb' => ?_, g1, by rw [g4]; exact hy2, by omega, fun b' xs' hb' hx' => ?_, fun J hJ => ?_⟩
        · obtain ⟨zs, hz⟩ := hB b' hb'
          obtain ⟨ys, h1, _⟩ := hS.ls b' zs hb' hz
          exact ⟨_, h1⟩
        · obtain ⟨zs, hz⟩ := hB b' hb'
          obtain ⟨ys, h1, h2⟩ := hS.ls b' zs hb' hz
          rw [hx'] at h1
          obtain rfl := HO.lst.inj (Option.some.inj h1)
          have h3 := hl b' zs hb' hz
          rw [List.length_append, sVs_len, g3]
          omega
        · have hS2 := hS.trans hJ
          rw [g3, ← htk] at hS2
          exact ⟨⟨some x, rfl⟩, hS2, hJ.go c _ ncB hcG⟩
      · rintro σ' G ⟨⟨x1, rfl⟩, hS, hcG⟩
        rw [hov.length, List.take_length] at hS
        obtain ⟨o', g1, g2, g3, g4⟩ := spl_ov hS hB ho
        have g1' : OV G (.ref a) o' := g1.ext hb_ex
        have hb' : SqB G b a us ∨ ∃ ys, b = true ∧ G a = some (.lst (us ++ sVs ys)) ∧ ys.length ≤ O.lcs os := by
          cases b with
          | false =>
            left
            have nb : ¬ B a := fun z => by
              obtain ⟨xs, e⟩ := hB a z
              rw [haH] at e
              cases e
            exact hS.go a _ nb haH
          | true =>
            right
            obtain ⟨ys, h1, h2⟩ := hS.ls a us (haB.resolve_left fun z => z us rfl) haH
            exact ⟨ys, rfl, h1, h2⟩
        have tyb : ∃ zs, SqB G b a zs ∧ (b = true → zs.length ≤ us.length + O.lcs os) := by
          rcases hb' with h | ⟨ys, rfl, h, hl'⟩
          · exact ⟨us, h, fun _ => by omega⟩
          · exact ⟨_, h, fun _ => by rw [List.length_append, sVs_len]; omega⟩
        obtain ⟨zs, hz, hzl⟩ := tyb
        dsimp only
        refine q_when (b := false) (et_is (et_B (ev_isi (ev_var rfl) (sqb_tyx hz) (show kitB _ "dict" = some false by cases b <;> decide +kernel))) rfl) (fun z => nomatch z) fun _ H2 e2 => ?_
        refine s_when (b := b) (et_B (ev_isLsb (ev_var rfl) (hz.ext e2))) (fun hb1 H3 e3 => ?_) fun hb1 H3 e3 => ?_
        · subst hb1
          have hz3 : H3 a = some (.lst zs) := e3 _ _ (e2 _ _ hz)
          have ba : B a := haB.resolve_left fun z => z us rfl
          have h5 := hl a us ba haH
          have h6 : (O.seq true os).lc = O.lcs os + 1 := rfl
          have h7 := hzl rfl
          refine ⟨_, rfl, .inl ⟨rfl, _, sq_of hz3⟩, a, zs, _, rfl, rfl, hz3, sz_lt (by omega), k _ ?_⟩
          have := (hS.trans (Spl.of (e2.trans e3))).trans (Spl.put (s := "late9") ba hz3)
          rw [h6]
          exact this
        · subst hb1
          have h6 : (O.seq false os).lc = O.lcs os := rfl
          rw [h6] at k
          have := hS.trans (Spl.of (B := B) (e2.trans e3))
          exact k _ this
end
end K02

set_option Elab.async false
set_option linter.all false
set_option maxRecDepth 100000
set_option maxHeartbeats 4000000
/-! Tuples for lists: what is asked of data stays. -/
namespace K02
open PySem PySem.Spec PyProof.Rows L2 Evl LamX
section
variable {ar pr : List (Str × Nat)} {sc : List Str}
theorem isStr_strip (x : O) : x.strip.isStr = x.isStr := by cases x <;> rfl
theorem isIn_strip (L : List Str) (x : O) : x.strip.isIn L = x.isIn L := by cases x <;> rfl
theorem varO_strip (x : O) : x.strip.varO = x.varO := by cases x <;> rfl
theorem txt_strip (x : O) : x.strip.txt = x.txt := by cases x <;> rfl
theorem nameO_strip (x : O) : x.strip.nameO = x.nameO := by cases x <;> rfl
theorem isSeq_strip (x : O) : x.strip.isSeq = x.isSeq := by cases x <;> rfl
theorem len_strips (xs : List O) : (O.strips xs).length = xs.length := by rw [strips_eq, List.length_map]
theorem headD_strip (x : O) (n : Nat) : headD ar x.strip n = headD ar x n := by cases x <;> rfl
theorem placesD_strips : ∀ xs : List O, K02.placesD pr (O.strips xs) = K02.placesD pr xs
  | [] => rfl
  | x :: xs => by
    show K02.placesD pr (x.strip :: O.strips xs) = _
    cases x with
    | str s => show decide (arl pr s = some (O.strips xs).length) = decide (arl pr s = some xs.length); rw [len_strips]
    | _ => rfl
theorem eqL_strips : ∀ xs : List O, eqL (O.strips xs) = eqL xs
  | [] => rfl
  | [x] => by cases x <;> rfl
  | [x, y] => by cases x <;> rfl
  | [x, y, z] => by cases x <;> rfl
  | x :: y :: z :: u :: r => by cases x <;> rfl
mutual
theorem fitD_strip : ∀ o : O, o.strip.fitD ar sc = o.fitD ar sc
  | .non => rfl | .bl _ => rfl | .int _ => rfl | .str _ => rfl | .dct => rfl
  | .lst xs => by show (O.tup (O.strips xs)).fitD ar sc = _; rw [O.fitD, O.fitD]; exact fitLD_strips xs
  | .tup xs => by show (O.tup (O.strips xs)).fitD ar sc = _; rw [O.fitD, O.fitD]; exact fitLD_strips xs
theorem fitLD_strips : ∀ xs : List O, O.fitLD ar sc (O.strips xs) = O.fitLD ar sc xs
  | [] => rfl
  | x :: xs => by
    show O.fitLD ar sc (x.strip :: O.strips xs) = _
    rw [O.fitLD, O.fitLD, headD_strip, len_strips, fitsD_strips xs]
theorem fitsD_strips : ∀ xs : List O, O.fitsD ar sc (O.strips xs) = O.fitsD ar sc xs
  | [] => rfl
  | x :: xs => by
    show O.fitsD ar sc (x.strip :: O.strips xs) = _
    rw [O.fitsD, O.fitsD, fitD_strip x, fitsD_strips xs]
end
theorem atomL_strips (xs : List O) : atomL ar pr (O.strips xs) sc = atomL ar pr xs sc := by
  unfold atomL
  rw [eqL_strips, placesD_strips]
  congr 1
  cases xs with
  | nil => rfl
  | cons x xs => exact fitsD_strips xs
mutual
theorem fitS_strip : ∀ (o : O) (sc : List Str), o.strip.fitS ar pr sc = o.fitS ar pr sc
  | .non, _ => rfl | .bl _, _ => rfl | .int _, _ => rfl | .str _, _ => rfl | .dct, _ => rfl
  | .lst xs, sc => by show (O.tup (O.strips xs)).fitS ar pr sc = _; rw [O.fitS, O.fitS]; exact fitSL_strips xs sc
  | .tup xs, sc => by show (O.tup (O.strips xs)).fitS ar pr sc = _; rw [O.fitS, O.fitS]; exact fitSL_strips xs sc
theorem fitSL_strips : ∀ (xs : List O) (sc : List Str), fitSL ar pr (O.strips xs) sc = fitSL ar pr xs sc
  | [], _ => rfl
  | [x], sc => by show fitSL ar pr [x.strip] sc = _; rw [fitSL, fitSL]; exact atomL_strips [x]
  | [x, y], sc => by
    show fitSL ar pr [x.strip, y.strip] sc = _
    rw [fitSL, fitSL, isIn_strip, fitS_strip y sc]
    rw [show atomL ar pr [x.strip, y.strip] sc = atomL ar pr [x, y] sc from atomL_strips [x, y]]
  | [x, y, z], sc => by
    show fitSL ar pr [x.strip, y.strip, z.strip] sc = _
    rw [fitSL, fitSL, isIn_strip, isIn_strip, varO_strip, txt_strip, fitS_strip y sc, fitS_strip z sc, fitS_strip z (sc ++ [y.txt])]
    rw [show atomL ar pr [x.strip, y.strip, z.strip] sc = atomL ar pr [x, y, z] sc from atomL_strips [x, y, z]]
  | x :: y :: z :: u :: r, sc => by
    show fitSL ar pr (x.strip :: y.strip :: z.strip :: u.strip :: O.strips r) sc = _
    rw [fitSL, fitSL]
    exact atomL_strips (x :: y :: z :: u :: r)
end
theorem ed_strips : ∀ o : O, o.strip.ed = o.ed := by
  have key : ∀ n : Nat, ∀ o : O, o.sz ≤ n → o.strip.ed = o.ed := by
    intro n
    induction n with
    | zero => intro o h; have := o.sz_pos; omega
    | succ n ih =>
      have ls : ∀ xs : List O, O.szs xs ≤ n → O.eds (O.strips xs) = O.eds xs := by
        intro xs
        induction xs with
        | nil => intro _; rfl
        | cons x xs ih2 =>
          intro h
          have h : x.sz + O.szs xs ≤ n := h
          show (x.strip.ed && O.eds (O.strips xs)) = (x.ed && O.eds xs)
          rw [ih x (by omega), ih2 (by omega)]
      intro o h
      cases o with
      | lst xs => exact ls xs (by have h : O.szs xs + 1 ≤ n + 1 := h; omega)
      | tup xs => exact ls xs (by have h : O.szs xs + 1 ≤ n + 1 := h; omega)
      | _ => rfl
  exact fun o => key o.sz o (Nat.le_refl _)
theorem hdL_strips : ∀ xs : List O, hdL (O.strips xs) = hdL xs
  | [] => rfl
  | [x] => by
    show (x.strip.isStr || (x.strip.ed && decide (x.strip.dp ≤ 60))) = _
    rw [isStr_strip, ed_strips, strip_dp]
    rfl
  | x :: y :: r => by show x.strip.isStr = x.isStr; rw [isStr_strip]
mutual
theorem hok_strip : ∀ o : O, o.strip.hok = o.hok
  | .non => rfl | .bl _ => rfl | .int _ => rfl | .str _ => rfl | .dct => rfl
  | .lst xs => by show (hdL (O.strips xs) && O.hoks (O.strips xs)) = (hdL xs && O.hoks xs); rw [hdL_strips, hoks_strips xs]
  | .tup xs => by show (hdL (O.strips xs) && O.hoks (O.strips xs)) = (hdL xs && O.hoks xs); rw [hdL_strips, hoks_strips xs]
theorem hoks_strips : ∀ xs : List O, O.hoks (O.strips xs) = O.hoks xs
  | [] => rfl
  | x :: xs => by show (x.strip.hok && O.hoks (O.strips xs)) = (x.hok && O.hoks xs); rw [hok_strip x, hoks_strips xs]
end
theorem items_strip (o : O) : o.strip.items = O.strips o.items := by cases o <;> rfl
theorem getD_strips : ∀ (xs : List O) (i : Nat), (O.strips xs).getD i .non = (xs.getD i .non).strip
  | [], i => by cases i <;> rfl
  | x :: xs, 0 => rfl
  | x :: xs, i + 1 => by
    have := getD_strips xs i
    show (x.strip :: O.strips xs).getD (i + 1) .non = _
    simpa using this
theorem h0_strip (o : O) : o.strip.h0 = o.h0.strip := by unfold O.h0; rw [items_strip, getD_strips]
theorem h1_strip (o : O) : o.strip.h1 = o.h1.strip := by unfold O.h1; rw [items_strip, getD_strips]
theorem isPair_strip (o : O) : o.strip.isPair = o.isPair := by
  have h := isSeq_strip o
  unfold O.isSeq at h
  unfold O.isPair
  rw [h, items_strip, len_strips]
theorem rowX_strip {f : O → Bool} (hf : ∀ x, f x.strip = f x) (bs : List Str) (x : O) : rowX f bs x.strip = rowX f bs x := by
  unfold rowX
  rw [isPair_strip, h0_strip, h1_strip, nameO_strip, txt_strip, hf]
theorem badRow_strips {f : O → Bool} (hf : ∀ x, f x.strip = f x) : ∀ (xs : List O) (bs : List Str) (i : Nat), badRow f bs i (O.strips xs) = badRow f bs i xs
  | [], _, _ => rfl
  | x :: xs, bs, i => by
    show badRow f bs i (x.strip :: O.strips xs) = _
    rw [badRow_cons, badRow_cons, rowX_strip hf, h0_strip, txt_strip, badRow_strips hf xs]
theorem badR_strip {f : O → Bool} (hf : ∀ x, f x.strip = f x) (bs : List Str) (o : O) : badR f bs o.strip = badR f bs o := by
  unfold badR
  rw [isSeq_strip, items_strip, badRow_strips hf]
theorem badAx_strip (o : O) : badAx ar pr o.strip = badAx ar pr o := badR_strip (fun x => fitS_strip x []) [] o
theorem sok_strip {o : O} : SOk o.strip ↔ SOk o := ⟨fun h => ⟨by rw [← strip_ss]; exact h.ss, by rw [← hok_strip]; exact h.hok, by rw [← strip_szz]; exact h.sz⟩, fun h => ⟨by rw [strip_ss]; exact h.ss, by rw [hok_strip]; exact h.hok, by rw [strip_szz]; exact h.sz⟩⟩
theorem axok_strip {o : O} (h : AxOk o.strip) : AxOk o := by
  refine ⟨?_, ?_, fun x hx hp => ?_⟩
  · rw [← strip_sss, ← items_strip]; exact h.ss
  · rw [← len_strips, ← items_strip]; exact h.len
  · refine sok_strip.mp ?_
    rw [← h1_strip]
    refine h.it _ ?_ (by rw [isPair_strip]; exact hp)
    rw [items_strip, strips_eq]
    exact List.mem_map_of_mem hx
/-! ### rows that are right -/
theorem axO_pair (r : Str × O) : (axO r).isPair = true ∧ (axO r).h0 = .str r.1 ∧ (axO r).h1 = r.2 := ⟨rfl, rfl, rfl⟩
theorem rows_none {f : O → Bool} : ∀ (rs : List (Str × O)) (bs : List Str) (i : Nat), (∀ r ∈ rs, nameB r.1 = true ∧ f r.2 = true) → (bs ++ rs.map (·.1)).Nodup → badRow f bs i (rs.map axO) = none
  | [], _, _, _, _ => rfl
  | r :: rs, bs, i, hr, nd => by
    obtain ⟨r1, r2⟩ := hr r (by simp)
    have nin : r.1 ∉ bs := fun m => (List.nodup_append.mp nd).2.2 _ m _ (by simp) rfl
    have hX : rowX f bs (axO r) = false := by
      unfold rowX
      rw [(axO_pair r).1, (axO_pair r).2.1, (axO_pair r).2.2, r2]
      show (!true || (!nameB r.1 || (bs.contains r.1 || !true))) = false
      rw [r1]
      have : bs.contains r.1 = false := by
        cases q : bs.contains r.1 with
        | false => rfl
        | true => exact absurd (List.contains_iff_mem.mp q) nin
      rw [this]
      rfl
    show badRow f bs i (axO r :: rs.map axO) = none
    rw [badRow_cons, hX, if_neg (by decide)]
    exact rows_none rs _ _ (fun q hq => hr q (by simp [hq])) (by
      have : bs ++ (r :: rs).map (·.1) = (bs ++ [r.1]) ++ rs.map (·.1) := by simp
      rw [this] at nd
      exact nd)
theorem poolA_nm {s : Str} (h : s ∈ poolA) : nameB s = true ∧ s ∈ SS := by
  have := List.all_eq_true.mp poolA_ok s h
  rw [Bool.and_eq_true] at this
  exact ⟨this.1, List.contains_iff_mem.mp this.2⟩
/-- rows whose sentences are right -/
structure RwR (ar pr : List (Str × Nat)) (rs : List (Str × O)) : Prop where
  nm : ∀ r ∈ rs, nameB r.1 = true ∧ r.1 ∈ SS
  sn : ∀ r ∈ rs, r.2.fitS ar pr [] = true
  dr : ∀ r ∈ rs, Dr r.2 61 1000
  nd : (rs.map (·.1)).Nodup
  len : rs.length ≤ 7
theorem RwR.bad (A : RwR ar pr rs) {o : O} (h : o.strip = .tup (rs.map axO)) : badAx ar pr o = none := by
  rw [← badAx_strip, h]
  unfold badAx badR
  rw [show (O.tup (rs.map axO)).isSeq = true from rfl, if_pos rfl]
  exact rows_none rs [] 0 (fun r hr => ⟨(A.nm r hr).1, A.sn r hr⟩) A.nd
theorem dr_sok {o : O} {d z : Nat} (h : Dr o d z) (hz : z ≤ 7000) : SOk o := ⟨h.ss, h.hok, Nat.le_trans h.sz hz⟩
theorem axs_sss : ∀ {rs : List (Str × O)}, (∀ r ∈ rs, r.1 ∈ SS) → (∀ r ∈ rs, r.2.ss = true) → O.sss (rs.map axO) = true
  | [], _, _ => rfl
  | r :: rs, h, k => by
    show ((SS.contains r.1 && (r.2.ss && true)) && O.sss (rs.map axO)) = true
    rw [List.contains_iff_mem.mpr (h r (by simp)), k r (by simp), axs_sss (fun q hq => h q (by simp [hq])) fun q hq => k q (by simp [hq])]
    rfl
theorem RwR.ok (A : RwR ar pr rs) {o : O} (h : o.strip = .tup (rs.map axO)) : AxOk o := by
  refine axok_strip ?_
  rw [h]
  refine ⟨axs_sss (fun r hr => (A.nm r hr).2) fun r hr => (A.dr r hr).ss, ?_, fun x hx hp => ?_⟩
  · show (rs.map axO).length ≤ 1000
    rw [List.length_map]
    have := A.len
    omega
  · obtain ⟨r, hr, rfl⟩ := List.mem_map.mp hx
    exact dr_sok (A.dr r hr) (by omega)
theorem RwR.axs (A : RwR ar pr rs) : AxS rs := ⟨fun a h => (A.nm a h).2, fun a h => wd_ed _ (A.dr a h).wd, fun a h => (A.dr a h).pu, fun a h => Nat.le_trans (A.dr a h).dp (by decide), fun a h => (A.dr a h).noL, fun a h => (A.dr a h).nod, by have := A.len; omega⟩
end
end K02

set_option Elab.async false
set_option linter.all false
set_option maxRecDepth 100000
set_option maxHeartbeats 4000000
/-! _law_told_right: what stands; its first statement. -/
namespace K02
open PySem PySem.Spec PyProof.Rows L2 Evl LamX
abbrev nTr : List Str := ["_law_stream", "_law_raw", "_law_rows", "_law_aim", "_law_base", "_law_handed", "_law_was", "_law_made", "_law_whole", "_law_twin", "_law_more", "_law_others", "_law_other"]
theorem sc_tr : FnScope nTr ["_law_stream", "_law_raw", "_law_rows", "_law_aim"] (defScope s__law_told_right) := ⟨rfl, rfl, rfl, by decide +kernel, rfl, by decide +kernel, by decide +kernel⟩
def stT (i : Nat) : Stmt := (defBody s__law_told_right).getD i (.Pass ⟨0, 0, 0, 0⟩)
abbrev XT (P : Program) (w : World) (K : PySem.W.Frag) (mg : Str → Option Value) (base : Heap) (f c : Addr) (A : Around) (outer : List Env) (s : Shared) (HX : Hp) : Cx := (cxOf CX0 P w K mg base nTr "_law_told_right" (defScope s__law_told_right) f (.ref c) A outer s HX E0).nox
/-! ### lists alone change -/
theorem ex_pq {R : Addr → Prop} {p q : Addr} {G1 G3 : Hp} (g : Go (PQ p q) G1 G3) (hR : ∀ b, R b → ¬ Old G1 b ∧ Old G3 b) : Ex (Hx (PQ p q) G1) (Hx (fun b => PQ p q b ∨ R b) G3) := fun b o h => by
  obtain ⟨h1, h2, h3⟩ := hx_to h
  have h4 := g b o h1 h2 h3
  refine hx_of ?_ h2 h4
  rintro (z | z)
  · exact h1 z
  · obtain ⟨a1, xs, a2⟩ := hR b z
    rw [h4] at a2
    exact a1 ⟨xs, by rw [h3]; exact a2⟩
/-- new data: its lists lie in R -/
theorem ov_hb0 {R : Addr → Prop} {Ga Gb G3 : Hp} {m : Nat} (hB : ∀ b o, ¬ Old Ga b → Gb b = some o → G3 b = some o) (hR : ∀ b xs, ¬ Old Ga b → G3 b = some (.lst xs) → xs.length ≤ m → R b) : ∀ k : Nat, ∀ (o : O) (v : V), o.sz ≤ k → o.mx ≤ m → OV (Hx (Old Ga) Gb) v o → OV (HB R G3) v o := by
  intro k
  induction k with
  | zero => intro o v h; have := o.sz_pos; omega
  | succ k ih =>
    have ihs : ∀ (os : List O) (vs : List V), O.szs os ≤ k → O.mxs os ≤ m → OVs (Hx (Old Ga) Gb) vs os → OVs (HB R G3) vs os := by
      intro os
      induction os with
      | nil => intro vs _ _ h; exact h
      | cons o os ih2 =>
        intro vs h1 h2 ⟨v, us, e, a1, a2⟩
        have h1 : o.sz + O.szs os ≤ k := h1
        have h2 : max o.mx (O.mxs os) ≤ m := h2
        exact ⟨v, us, e, ih o v (by omega) (by omega) a1, ih2 us (by omega) (by omega) a2⟩
    intro o v h1 h2 h
    cases o with
    | non => exact h
    | bl b => exact h
    | int i => exact h
    | str s => exact h
    | dct =>
      obtain ⟨a, e, ha⟩ := h
      obtain ⟨b1, b2, b3⟩ := hx_to ha
      exact ⟨a, e, hb_of (hB a _ b1 b3) (.inl fun _ z => nomatch z)⟩
    | lst xs =>
      obtain ⟨a, us, e, ha, hu⟩ := h
      obtain ⟨b1, b2, b3⟩ := hx_to ha
      have h2 : max xs.length (O.mxs xs) ≤ m := h2
      have h1 : O.szs xs + 1 ≤ k + 1 := h1
      have h4 := hB a _ b1 b3
      exact ⟨a, us, e, hb_of h4 (.inr (hR a us b1 h4 (by rw [hu.length]; omega))), ihs xs us (by omega) (by omega) hu⟩
    | tup xs =>
      obtain ⟨a, us, e, ha, hu⟩ := h
      obtain ⟨b1, b2, b3⟩ := hx_to ha
      have h2 : max xs.length (O.mxs xs) ≤ m := h2
      have h1 : O.szs xs + 1 ≤ k + 1 := h1
      exact ⟨a, us, e, hb_of (hB a _ b1 b3) (.inl fun _ z => nomatch z), ihs xs us (by omega) (by omega) hu⟩
theorem ov_hb {R : Addr → Prop} {p q : Addr} {Ga Gb G3 : Hp} {n : Int} {m : Nat} {o : O} {v : V} (S : Spr Ga p q n) (B : But p q Gb G3) (hR : ∀ b xs, ¬ Old Ga b → G3 b = some (.lst xs) → xs.length ≤ m → R b) (hm : o.mx ≤ m) (h : OV (Hx (Old Ga) Gb) v o) : OV (HB R G3) v o :=
  have old := S.old
  ov_hb0 (fun b o h1 h2 => B b o (fun z => h1 (z ▸ old.1)) (fun z => h1 (z ▸ old.2)) h2) hR o.sz o v (Nat.le_refl _) hm h
mutual
theorem mx_sz : ∀ o : O, o.mx ≤ o.sz
  | .non => Nat.zero_le _ | .bl _ => Nat.zero_le _ | .int _ => Nat.zero_le _ | .str _ => Nat.zero_le _ | .dct => Nat.zero_le _
  | .lst xs => Nat.max_le.mpr ⟨Nat.le_trans (O.len_szs xs) (Nat.le_succ _), Nat.le_trans (mxs_szs xs) (Nat.le_succ _)⟩
  | .tup xs => Nat.max_le.mpr ⟨Nat.le_trans (O.len_szs xs) (Nat.le_succ _), Nat.le_trans (mxs_szs xs) (Nat.le_succ _)⟩
theorem mxs_szs : ∀ xs : List O, O.mxs xs ≤ O.szs xs
  | [] => Nat.zero_le _
  | x :: xs => Nat.max_le.mpr ⟨Nat.le_trans (mx_sz x) (Nat.le_add_right _ _), Nat.le_trans (mxs_szs xs) (Nat.le_add_left _ _)⟩
end
mutual
theorem dq_dp : ∀ o : O, o.dq ≤ o.dp + 2
  | .non => Nat.zero_le _ | .bl _ => Nat.zero_le _ | .int _ => Nat.zero_le _ | .str _ => Nat.zero_le _ | .dct => Nat.le_add_left _ _
  | .lst xs => by have := dqs_dps xs; show O.dqs xs + 1 ≤ O.dps xs + 1 + 2; omega
  | .tup xs => by have := dqs_dps xs; show O.dqs xs + 1 ≤ O.dps xs + 1 + 2; omega
theorem dqs_dps : ∀ xs : List O, O.dqs xs ≤ O.dps xs + 2
  | [] => Nat.zero_le _
  | x :: xs => Nat.max_le.mpr ⟨Nat.le_trans (dq_dp x) (Nat.add_le_add_right (Nat.le_max_left _ _) 2), Nat.le_trans (dqs_dps xs) (Nat.add_le_add_right (Nat.le_max_right _ _) 2)⟩
end
/-- drawn names, rows, a goal; names made -/
structure TF (K : PySem.W.Frag) (H : Hp) (p q rt rw nb : Addr) (va : V) (ar pr : List (Str × Nat)) (rs : List (Str × O)) (g : O) : Prop where
  raw : RwV H p q rt ar pr
  rows : ∃ xs, H rw = some (.lst xs) ∧ OVs H xs (rs.map axO)
  aim : OV H va g
  nam : NmAt K H nb ar pr
theorem TF.ext {K : PySem.W.Frag} {H G : Hp} {p q rt rw nb : Addr} {va : V} {ar pr : List (Str × Nat)} {rs : List (Str × O)} {g : O} (h : TF K H p q rt rw nb va ar pr rs g) (e : Ex H G) : TF K G p q rt rw nb va ar pr rs g :=
  ⟨h.raw.ext e, let ⟨xs, a, b⟩ := h.rows; ⟨xs, e _ _ a, b.ext e⟩, h.aim.ext e, h.nam.ext e⟩
/-- a goal that is right -/
structure GoR (ar pr : List (Str × Nat)) (g : O) : Prop where
  fit : g.fitS ar pr [] = true
  dr : Dr g 61 1000
  tp : g.isTup = true
theorem axs_sz : ∀ {rs : List (Str × O)}, (∀ r ∈ rs, r.2.sz ≤ 1000) → O.szs (rs.map axO) ≤ 1002 * rs.length
  | [], _ => Nat.zero_le _
  | r :: rs, h => by
    have h1 := h r (by simp)
    have h2 := axs_sz (rs := rs) fun q hq => h q (by simp [hq])
    show (1 + (r.2.sz + 0) + 1) + O.szs (rs.map axO) ≤ 1002 * (rs.length + 1)
    omega
theorem axs_wd : ∀ {rs : List (Str × O)}, (∀ r ∈ rs, r.1 ∈ SS) → (∀ r ∈ rs, r.2.wd = true) → O.wds (rs.map axO) = true
  | [], _, _ => rfl
  | r :: rs, h, k => by
    show ((SS.contains r.1 && (r.2.wd && true)) && O.wds (rs.map axO)) = true
    rw [List.contains_iff_mem.mpr (h r (by simp)), k r (by simp), axs_wd (fun q hq => h q (by simp [hq])) fun q hq => k q (by simp [hq])]
    rfl
structure RwF (ar pr : List (Str × Nat)) (rs : List (Str × O)) : Prop where
  noL : O.hasLs (rs.map axO) = false
  nod : O.nods (rs.map axO) = true
  sz : O.szs (rs.map axO) ≤ 7014
  dp : O.dps (rs.map axO) ≤ 62
  wd : O.wds (rs.map axO) = true
  ed : O.eds (rs.map axO) = true
  st : O.strips (rs.map axO) = rs.map axO
theorem RwR.f {ar pr : List (Str × Nat)} {rs : List (Str × O)} (A : RwR ar pr rs) : RwF ar pr rs := by
  have n := axs_noL (axs := rs) fun a h => (A.dr a h).noL
  refine ⟨n, axs_nod fun a h => (A.dr a h).nod, ?_, ?_, axs_wd (fun r h => (A.nm r h).2) fun r h => (A.dr r h).wd, axs_ed (fun r h => (A.nm r h).2) fun r h => wd_ed _ (A.dr r h).wd, strips_id n⟩
  · have := axs_sz (rs := rs) fun a h => (A.dr a h).sz
    have := A.len
    omega
  · refine dps_all.mpr fun o ho => ?_
    obtain ⟨r, hr, rfl⟩ := List.mem_map.mp ho
    have := (A.dr r hr).dp
    show max 0 (max r.2.dp 0) + 1 ≤ 62
    omega
section
variable {P : Program} {w : World} {K : PySem.W.Frag} {mg : Str → Option Value} {base : Heap} {f c : Addr} {A : Around} {outer : List Env} {s : Shared} {HX : Hp}
theorem tb0 (T : TN P w K mg base) (hr : Room 80 (XT P w K mg base f c A outer s HX).A) : ∃ t, PS (XT P w K mg base f c A outer s HX) (stT 0) t ∧
    ∀ (D : Ends) (G : Hp) (p q rt rw : Addr) (va : V) (n : Int) (ar pr : List (Str × Nat)) (rs : List (Str × O)) (g : O) (c4 c5 c6 c7 c8 c9 c10 c11 c12 : Option V),
      Spr G p q n → n < 6500000 → Tabs (tabT K) G → RwV G p q rt ar pr → Raw ar pr → (∃ xs, G rw = some (.lst xs) ∧ OVs G xs (rs.map axO)) → rw ≠ p → rw ≠ q → OV G va g → RwR ar pr rs → GoR ar pr g →
      (∀ (G' : Hp) (R : Addr → Prop) (n' : Int) (nb hd : Addr) (r1 r2 : V) (o1 o2 : O), Spr G' p q n' → n' ≤ n + 9000 → Tabs (tabT K) G' → (∀ b, R b → ∃ zs, G' b = some (.lst zs) ∧ zs.length ≤ 10000) → (∀ b, R b → G b = none) → ¬ R p → ¬ R q → TF K (Hx (fun b => PQ p q b ∨ R b) G') p q rt rw nb va ar pr rs g →
        G' hd = some (.lst [r1, r2]) → R hd → OV (HB R G') r1 o1 → OV (HB R G') r2 o2 → o1.strip = .tup (rs.map axO) → o2.strip = g → But p q G G' → D.nx [some (.ref p), some (.ref rt), some (.ref rw), some va, some (.ref nb), some (.ref hd), c6, c7, c8, c9, c10, c11, c12] G') →
      t D [some (.ref p), some (.ref rt), some (.ref rw), some va, c4, c5, c6, c7, c8, c9, c10, c11, c12] G := by
  obtain ⟨fM, dM, GM, bM, kM, mM⟩ := (ok_a_made T).ex
  obtain ⟨fL, dL, GL, bL, kL, mL⟩ := (ok_loose2 T.toT02 64).ex
  refine ⟨_, ps_par (i := 4) (j := 5) rfl sc_tr.nd rfl rfl (by decide) rfl rfl (pa_cons (pe_call GM (hr.mono (by decide)) (by rfl) mM kM bM .nil pass0 (pa_cons (pv 0) (pa_cons (pv 1) pa_nil)))
    (pa_cons (pe_lst (pa_cons (pe_call GL (hr.mono (by decide)) (by rfl) mL kL bL .nil pass0 (pa_cons (pv 0) (pa_cons (pv 2) pa_nil))) (pa_cons (pe_call GL (hr.mono (by decide)) (by rfl) mL kL bL .nil pass0 (pa_cons (pv 0) (pa_cons (pv 3) pa_nil))) pa_nil))) pa_nil)) (by rfl), ?_⟩
  intro D G p q rt rw va n ar pr rs g c4 c5 c6 c7 c8 c9 c10 c11 c12 S hn hT hraw R hrows rp rq haim A0 g0 k
  obtain ⟨xs, hrw, hxs⟩ := hrows
  have F := A0.f
  refine ⟨_, rfl, _, rfl, p, q, rt, n, ar, pr, rfl, S, by omega, hraw, R, fun nb n1 G1 hN nbn S1 hn1 B1 => ?_⟩
  have tx1 := S.tx B1
  have oldG := S.old
  -- the rows handed loosely
  refine ⟨_, rfl, _, rfl, p, q, .ref rw, n1, .lst (rs.map axO), rfl, S1, ?_, ⟨rw, xs, rfl, hx_of (by rintro (z | z); exact rp z; exact rq z) lst_tbl (B1 _ _ rp rq hrw), OVs.tx (tx1.trans S1.txQ) F.noL F.nod hxs⟩, ?_, ?_, fun r1 G2 n2 o1 S2 hn2 B2 ov1 st1 => ?_⟩
  · have h := F.sz
    show n1 + ((O.szs (rs.map axO) + 1 : Nat) : Int) ≤ 9000000
    omega
  · have h := F.dp
    show O.dps (rs.map axO) + 1 < 64
    omega
  · have h := F.sz
    show O.szs (rs.map axO) + 1 ≤ 9000
    omega
  have hsz1 : ((O.lst (rs.map axO)).sz : Int) ≤ 7015 := by
    have h := F.sz
    show ((O.szs (rs.map axO) + 1 : Nat) : Int) ≤ 7015
    omega
  have st1 : o1.strip = .tup (rs.map axO) := by rw [st1]; show O.tup (O.strips _) = _; rw [F.st]
  -- the goal
  have hgz := g0.dr.sz
  refine ⟨_, rfl, _, rfl, p, q, va, n2, g, rfl, S2, by omega, OV.tx (((tx1.trans (S1.tx B2))).trans S2.txQ) g0.dr.noL g0.dr.nod haim, by have := g0.dr.dp; omega, by omega, fun r2 G3 n3 o2 S3 hn3 B3 ov2 st2 => ?_⟩
  rw [strip_id g0.dr.noL] at st2
  refine ⟨by show 2 ≤ sizeLine; decide, fun hd nhd => ?_⟩
  have x4 : Ex G3 (upd G3 hd (.lst [r1, r2])) := Ex.new nhd
  have hhd : (upd G3 hd (.lst [r1, r2])) hd = some (.lst [r1, r2]) := upd_same
  have S4 := S3.ext x4
  have hd0 : hd ≠ p ∧ hd ≠ q := S3.nep nhd
  have hdG1 : G1 hd = none := but_none (B2.trans B3) S3 nhd
  generalize upd G3 hd (.lst [r1, r2]) = G4 at x4 hhd S4 ⊢
  have B14 : But p q G1 G4 := (B2.trans B3).trans (But.of x4)
  have o1' : Old G1 p ∧ Old G1 q := S1.old
  refine ⟨_, _, rfl, k G4 (fun b => ¬ Old G1 b ∧ ∃ zs, G4 b = some (.lst zs) ∧ zs.length ≤ 10000) n3 nb hd r1 r2 o1 o2 S4 (by omega) (tabs_but (tabs_but hT B1 S) B14 S1) (fun b hb => hb.2) (fun b hb => ?_) (fun z => z.1 o1'.1) (fun z => z.1 o1'.2) ?_ hhd ⟨not_old hdG1, _, hhd, by show 2 ≤ 10000; decide⟩ ?_ ?_ st1 st2 (B1.trans B14)⟩
  · obtain ⟨h1, zs, h2, _⟩ := hb
    rcases hx : G b with _ | u
    · rfl
    · have n1 : b ≠ p := fun z => h1 (z ▸ o1'.1)
      have n2 : b ≠ q := fun z => h1 (z ▸ o1'.2)
      have h3 := B1 _ _ n1 n2 hx
      rw [B14 _ _ n1 n2 h3] at h2
      exact absurd ⟨zs, by rw [h3, h2]⟩ h1
  · have t1 : TF K (Hx (PQ p q) G1) p q rt rw nb va ar pr rs g := by
      obtain ⟨a, b, ys, zs, y1, na1, na2, nb1, nb2, ha, hb, hx, hy⟩ := hraw.ex
      have txq := tx1.trans S1.txQ
      exact ⟨⟨a, b, ys, zs, txq _ _ y1, na1, na2, nb1, nb2, hx_of (by rintro (z | z); exact na1 z; exact na2 z) lst_tbl (B1 _ _ na1 na2 ha), hx_of (by rintro (z | z); exact nb1 z; exact nb2 z) lst_tbl (B1 _ _ nb1 nb2 hb), OVs.tx txq (prs_noL _) (prs_nod _) hx, OVs.tx txq (prs_noL _) (prs_nod _) hy⟩,
        ⟨xs, hx_of (by rintro (z | z); exact rp z; exact rq z) lst_tbl (B1 _ _ rp rq hrw), OVs.tx txq F.noL F.nod hxs⟩, OV.tx txq g0.dr.noL g0.dr.nod haim, hN.ext (hx_mono fun b hb => by rcases hb with rfl | rfl; exact oldG.1; exact oldG.2)⟩
    exact t1.ext (ex_pq (go_pq B14) fun b hb => ⟨hb.1, let ⟨zs, h1, _⟩ := hb.2; ⟨zs, h1⟩⟩)
  · refine ov_hb (m := 10000) S1 (B3.trans (But.of x4)) (fun b zs h1 h2 h3 => ⟨h1, zs, h2, h3⟩) ?_ ov1
    have h1 := mx_sz o1
    have h2 := strip_szz o1
    rw [st1] at h2
    have h3 : (O.tup (rs.map axO)).sz = O.szs (rs.map axO) + 1 := rfl
    have h4 := F.sz
    omega
  · refine ov_hb (m := 10000) S2 (But.of x4) (fun b zs h1 h2 h3 => ⟨fun z => h1 (Old.but B2 S2 z), zs, h2, h3⟩) ?_ ov2
    have h1 := mx_sz o2
    have h2 := strip_szz o2
    rw [st2] at h2
    omega
end
end K02

set_option Elab.async false
set_option linter.all false
set_option maxRecDepth 100000
set_option maxHeartbeats 4000000
/-! Classes called with keywords; repr of deep data; _law_told_right: the theory, the problem. -/
namespace K02
open PySem PySem.Spec PyProof.Rows L2 Evl LamX
theorem vals_app {a b : List V} {c d : List Value} (h1 : Vals a c) (h2 : Vals b d) : Vals (a ++ b) (c ++ d) := by
  induction h1 with
  | nil => exact h2
  | cons h _ ih => exact .cons h ih
theorem vals_rev {a : List V} {c : List Value} (h1 : Vals a c) : Vals a.reverse c.reverse := by
  induction h1 with
  | nil => exact .nil
  | cons h _ ih =>
    rw [List.reverse_cons, List.reverse_cons]
    exact vals_app ih (.cons h .nil)
/-- a def with self and two more, both by keyword, the other way round -/
theorem kb_two {K : PySem.W.Frag} {x qual : Str} {st : Stmt} {f : Addr} {fd : FuncData} {s0 a b : Str} (F : FunD K x qual (defArgs st) (defBody st) (defScope st) [] [] f fd)
    (h : ∀ (kV doc pm : Value) (an : Option Addr) (cdv ct : Value) (u v z : Value), bindArgs (PySem.W.fnOf x qual (defArgs st) (defBody st) (defScope st) .none kV doc pm an cdv ct) ⟨[u], [(b, v), (a, z)]⟩ = pure [(s0, u), (a, z), (b, v)]) :
    KBn K fd [s0, a, b] 1 [b, a] (fun us ws => us ++ ws.reverse) (fun vs zs => vs ++ zs.reverse) := by
  obtain ⟨oc, od, dV, kV, doc, pm, an, cd, ct, osl, rfl, lk, hcd, hdv, hkv⟩ := F.ex
  have ed : dV = .none := by
    rcases hdv with ⟨_, h⟩ | ⟨h, _⟩
    · exact h
    · exact absurd rfl h
  subst ed
  refine ⟨fun s us ws hK hl hl2 => ?_, fun a b => vals_app a (vals_rev b)⟩
  match us, ws, hl, hl2 with
  | [u], [v, z], _, _ =>
    intro M A E Q q
    show wpAny M A (bindArgs _ ⟨[u], [(b, v), (a, z)]⟩) Q E s
    rw [h]
    exact wpAny_pure q
/-! ### repr, deeper -/
def rRepr2 (K : PySem.W.Frag) : List V → Hp → VK → Prop := fun xs H Q => ∃ (a : Addr) (d : PyData), xs = [.ref a] ∧ Dp K H (.ref a) d ∧ d.hasDict = false ∧ d.showable = true ∧ d.depth ≤ 64 ∧ d.shown.length ≤ sizeLine ∧ Q (.str d.shown) H
theorem call_repr2 {X : Cx} (hg : X.A.guards = some []) (hu : X.A.units + 100 < cLine) : CallR X (.builtin "repr") (rRepr2 X.K) := by
  intro pins s σ H xs us Q I r h
  obtain ⟨a, d, rfl, hd, h1, h2, h3, h4, q⟩ := h
  obtain ⟨u, rfl, r1⟩ := vals1 r
  obtain rfl : u = .ref a := r1
  obtain ⟨as, rd⟩ := Dp.reads I d _ _ hd rfl
  exact PySem.repr_of_reads' rd h2 (fun z => by rw [h1] at z; cases z) hg (by omega) (fun _ _ e => e) (fun h' t tk hk => ⟨.str _, H, I.kept hk, ⟨_, rfl⟩, q⟩) h4
abbrev tRp2 (K : PySem.W.Frag) (te : TE) : TE := tCB (rRepr2 K) (tCons te tNil)
theorem ev_repr2 {K : PySem.W.Frag} {σ : L2.St} {H : Hp} {te : TE} {a : Addr} {o : O} (h : Ev te σ H (.ref a)) (ov : OV H (.ref a) o) (hw : o.wd = true) (hd : o.dp ≤ 64) (hs : o.sz ≤ 20000) : Ev (tRp2 K te) σ H (.str o.py.shown) := fun H1 x Q q =>
  h H1 x _ fun H2 x2 => by
    obtain ⟨z1, z2, z3, z4, z5⟩ := O.py_nd hw
    exact ⟨a, o.py, rfl, OV.dpd (ov.ext (x.trans x2)) (wd_ed o hw), z1, z2, by omega, PyData.shown_fits (B := 8) (by decide) (by decide) z3 (by omega), q H2 x2⟩
/-! ### what a call of a class leaves -/
/-- a theory is made of right rows -/
theorem mk_theory {K : PySem.W.Frag} {H2 : Hp} {x dx n : Addr} {va : V} {o : O} {ar pr : List (Str × Nat)} {rs : List (Str × O)} {Q : Hp → Prop} {E : XK} (nx : H2 x = none) (ndx : H2 dx = none) (hne : dx ≠ x) (hT : Tabs (tabT K) H2) (hN : NmAt K H2 n ar pr) (R1 : (ar.map (·.1)).Nodup) (R2 : (pr.map (·.1)).Nodup) (A0 : RwR ar pr rs) (ho : OV H2 va o) (hst : o.strip = .tup (rs.map axO)) (hsz : o.sz ≤ 9000)
    (k : ∀ H', ThAt K (Hx (Old H2) H') x n rs → ExtN H2 H' → Tabs (tabT K) H' → Q H') : spTi K [.ref x, .ref n, va] (upd (upd H2 dx (.own x)) x (.ins (CT K) dx [])) (fun v H3 => v = .non ∧ Q H3) E := by
  have e1 : Ex H2 (upd H2 dx (.own x)) := Ex.new ndx
  have nx1 : (upd H2 dx (.own x)) x = none := by rw [upd_ne hne.symm]; exact nx
  have e2 : Ex H2 (upd (upd H2 dx (.own x)) x (.ins (CT K) dx [])) := e1.trans (Ex.new nx1)
  refine ⟨x, dx, .ref n, va, rfl, upd_same, hT.ext e2, .inr ⟨n, ar, pr, rfl, hN.ext e2, R1, R2, .inr ⟨o, ho.ext e2, A0.ok hst, .inr ⟨A0.bad hst, rs, hst, A0.axs, ?_, fun H' h1 h2 h3 => ⟨rfl, k H' ?_ ?_ h3⟩⟩⟩⟩⟩
  · have : O.szs o.items ≤ o.sz := by
      cases o with
      | lst xs => exact Nat.le_succ _
      | tup xs => exact Nat.le_succ _
      | _ => exact Nat.zero_le _
    omega
  · exact h1.ext (hx_mono fun b hb => Old.ex e2 hb)
  · exact fun b u hb hu => h2 b u (e2 _ _ hb) hu (ne_of_none hb nx)
/-- a problem is made of a right goal -/
theorem mk_problem {K : PySem.W.Frag} {H2 : Hp} {x dx t n : Addr} {vg : V} {o : O} {ar pr : List (Str × Nat)} {rs : List (Str × O)} {Q : Hp → Prop} {E : XK} (nx : H2 x = none) (ndx : H2 dx = none) (hne : dx ≠ x) (hN : Th K H2 t n ar pr rs) (R1 : (ar.map (·.1)).Nodup) (R2 : (pr.map (·.1)).Nodup) (ho : OV H2 vg o) (hf : o.fitS ar pr [] = true) (hs : SOk o) (hnd : o.nod = true)
    (k : ∀ H', PbAt K (Hx (Old H2) H') x t o.strip → Ex H2 H' → Q H') : spPbi K [.ref x, .ref t, vg] (upd (upd H2 dx (.own x)) x (.ins (CP K) dx [])) (fun v H3 => v = .non ∧ Q H3) E := by
  have e1 : Ex H2 (upd H2 dx (.own x)) := Ex.new ndx
  have nx1 : (upd H2 dx (.own x)) x = none := by rw [upd_ne hne.symm]; exact nx
  have e2 : Ex H2 (upd (upd H2 dx (.own x)) x (.ins (CP K) dx [])) := e1.trans (Ex.new nx1)
  exact ⟨x, dx, .ref t, vg, rfl, upd_same, .inr ⟨t, n, ar, pr, rs, rfl, hN.ext e2, R1, R2, .inr ⟨o, ho.ext e2, hs, .inr ⟨hf, hnd, fun H' h1 h2 => ⟨rfl, k H' (h1.ext (hx_mono fun b hb => Old.ex e2 hb)) fun b u hb => h2 b u (e2 _ _ hb) (ne_of_none hb nx)⟩⟩⟩⟩⟩
theorem go_extN {Z : Addr → Prop} {H G : Hp} (e : ExtN H G) : Go Z H G := Go.ofN e
theorem spr_extN {p q : Addr} {H G : Hp} {n : Int} (S : Spr H p q n) (e : ExtN H G) : Spr G p q n := S.keep (fun o h => e _ _ h (by obtain ⟨xs, ys, h1, h2⟩ := S.lst; intro ps z; rw [z, h1] at h; cases h)) (fun o h => e _ _ h (by obtain ⟨xs, ys, h1, h2⟩ := S.lst; intro ps z; rw [z, h2] at h; cases h))
section
variable {P : Program} {w : World} {K : PySem.W.Frag} {mg : Str → Option Value} {base : Heap} {f c : Addr} {A : Around} {outer : List Env} {s : Shared} {HX : Hp}
theorem tb1 (T : TN P w K mg base) (t2 : TabF K mg base) (hg : (XT P w K mg base f c A outer s HX).A.guards = some []) (hr : Room 80 (XT P w K mg base f c A outer s HX).A) : ∃ t, PS (XT P w K mg base f c A outer s HX) (stT 1) t ∧
    ∀ (D : Ends) (G : Hp) (nb hd : Addr) (r1 r2 : V) (o1 o2 : O) (ar pr : List (Str × Nat)) (rs : List (Str × O)) (c0 c1 c2 c3 c6 c7 c8 c9 c10 c11 c12 : Option V),
      Tabs (tabT K) G → NmAt K G nb ar pr → Raw ar pr → RwR ar pr rs → G hd = some (.lst [r1, r2]) → OV G r1 o1 → OV G r2 o2 → o1.strip = .tup (rs.map axO) → (O.lst [o1, o2]).wd = true → (O.lst [o1, o2]).dp ≤ 64 → (O.lst [o1, o2]).sz ≤ 9000 →
      (∀ (G' : Hp) (tm : Addr), ThAt K (Hx (Old G) G') tm nb rs → ExtN G G' → Tabs (tabT K) G' → D.nx [c0, c1, c2, c3, some (.ref nb), some (.ref hd), some (.str (O.lst [o1, o2]).py.shown), some (.ref tm), c8, c9, c10, c11, c12] G') →
      t D [c0, c1, c2, c3, some (.ref nb), some (.ref hd), c6, c7, c8, c9, c10, c11, c12] G := by
  obtain ⟨fI, fdI, MI, FI⟩ := T.mkT
  have GI := ok_tinit T t2 FI
  have bI := kb_two (s0 := "self") (a := "names") (b := "axioms") FI (fun kV doc pm an cdv ct u v z => rfl)
  have u := hr.un
  refine ⟨_, ps_asg (pe_tup (pa_cons (pe_callB (call_repr2 hg (by omega)) (by rfl) T.repr PyProof.Rows.boot_repr (pa_cons (pv 5) pa_nil)) (pa_cons (pe_makeK0 MI GI (hr.mono (by decide)) (by rfl) T.gT bI passX (pk_cons (pe_ix ix_list (pv 5) pe_int (fun _ _ => rfl)) (pk_cons (pv 4) pk_nil))) pa_nil)))
    (pg_tup rfl (pgs_cons (pg_name (i := 6) sc_tr.nd rfl (by first | exact Or.inl rfl | exact Or.inr rfl)) (pgs_cons (pg_name (i := 7) sc_tr.nd rfl (by first | exact Or.inl rfl | exact Or.inr rfl)) pgs_nil))), ?_⟩
  intro D G nb hd r1 r2 o1 o2 ar pr rs c0 c1 c2 c3 c6 c7 c8 c9 c10 c11 c12 hT hN R A0 hhd ov1 ov2 st1 hwd hdp hsz k
  have ovh : OV G (.ref hd) (.lst [o1, o2]) := ⟨hd, _, rfl, hhd, .cons ov1 (.cons ov2 .nil)⟩
  refine ev_repr2 (ev_var rfl) ovh hwd hdp (by omega) G (Ex.refl _) _ fun G1 e1 => ?_
  refine ⟨_, rfl, hd, _, 0, r1, rfl, rfl, sq_of (e1 _ _ hhd), rfl, ⟨_, rfl, rfl, rfl, fun x dx nx ndx hne => ?_⟩⟩
  have hsz1 : o1.sz ≤ 9000 := by
    have : (O.lst [o1, o2]).sz = (o1.sz + (o2.sz + 0)) + 1 := rfl
    omega
  refine mk_theory (o := o1) (rs := rs) nx ndx hne (hT.ext e1) (hN.ext e1) R.d1 R.d2 A0 (ov1.ext e1) st1 hsz1 fun G2 hth eN hT2 => ⟨by show 2 ≤ sizeLine; decide, fun t nt => ?_⟩
  have xt : Ex G2 (upd G2 t (.tup [.str (O.lst [o1, o2]).py.shown, .ref x])) := Ex.new nt
  exact ⟨t, _, rfl, st_of upd_same, rfl, _, _, rfl, _, _, rfl, rfl, k _ x ((hth.ext (Go.of xt).ex).ext (hx_mono fun b hb => Old.ex e1 hb)) (fun b u hb hu => xt _ _ (eN b u (e1 _ _ hb) hu)) (hT2.ext xt)⟩
theorem tb2 (T : TN P w K mg base) (hr : Room 80 (XT P w K mg base f c A outer s HX).A) : ∃ t, PS (XT P w K mg base f c A outer s HX) (stT 2) t ∧
    ∀ (D : Ends) (G : Hp) (nb hd tm : Addr) (r1 r2 : V) (g o2 : O) (ar pr : List (Str × Nat)) (rs : List (Str × O)) (c0 c1 c2 c3 c4 c6 c8 c9 c10 c11 c12 : Option V),
      Th K G tm nb ar pr rs → Raw ar pr → G hd = some (.lst [r1, r2]) → OV G r2 o2 → o2.strip = g → GoR ar pr g →
      (∀ (G' : Hp) (wh : Addr), PbAt K (Hx (Old G) G') wh tm g → Ex G G' → D.nx [c0, c1, c2, c3, c4, some (.ref hd), c6, some (.ref tm), some (.ref wh), c9, c10, c11, c12] G') →
      t D [c0, c1, c2, c3, c4, some (.ref hd), c6, some (.ref tm), c8, c9, c10, c11, c12] G := by
  obtain ⟨fI, fdI, MI, FI⟩ := T.mkP
  have GI := ok_pinit T FI
  have bI := kb_two (s0 := "self") (a := "theory") (b := "goal") FI (fun kV doc pm an cdv ct u v z => rfl)
  refine ⟨_, ps_set (i := 8) sc_tr.nd rfl (by first | exact Or.inl rfl | exact Or.inr rfl) (pe_makeK0 MI GI (hr.mono (by decide)) (by rfl) T.gP bI passX (pk_cons (pe_ix ix_list (pv 5) pe_int (fun _ _ => rfl)) (pk_cons (pv 7) pk_nil))), ?_⟩
  intro D G nb hd tm r1 r2 g o2 ar pr rs c0 c1 c2 c3 c4 c6 c8 c9 c10 c11 c12 hth R hhd ov2 st2 g0 k
  refine ⟨_, rfl, hd, _, 1, r2, rfl, rfl, sq_of hhd, rfl, ⟨_, rfl, rfl, rfl, fun x dx nx ndx hne => ?_⟩⟩
  have hf : o2.fitS ar pr [] = true := by rw [← fitS_strip, st2]; exact g0.fit
  have hso : SOk o2 := sok_strip.mp (by rw [st2]; exact dr_sok g0.dr (by decide))
  exact mk_problem (o := o2) nx ndx hne hth R.d1 R.d2 ov2 hf hso (by rw [← strip_nod, st2]; exact g0.dr.nod) fun G2 hpb e => k G2 x (by rw [← st2]; exact hpb) e
end
end K02

set_option Elab.async false
set_option linter.all false
set_option maxRecDepth 100000
set_option maxHeartbeats 4000000
/-! _law_told_right: what the theory and the problem tell. -/
namespace K02
open PySem PySem.Spec PyProof.Rows L2 Evl LamX
section
variable {K : PySem.W.Frag} {σ : L2.St} {H : Hp} {te ta tb : TE} {t n a : Addr} {axs : List (Str × O)} {ar pr : List (Str × Nat)} {g : O} {P : List V → Hp → Prop}
abbrev mAx (K : PySem.W.Frag) (te : TE) : TE := tMeth (CT K) "axioms" (spTa K) [] E0 te tNil
abbrev mNm (K : PySem.W.Frag) (te : TE) : TE := tMeth (CT K) "names" (spTn K) [] E0 te tNil
abbrev mFu (K : PySem.W.Frag) (te : TE) : TE := tMeth (CN K) "functions" (spNf K true) [] E0 te tNil
abbrev mTh (K : PySem.W.Frag) (te : TE) : TE := tMeth (CP K) "theory" (spPbt K) [] E0 te tNil
abbrev mGo (K : PySem.W.Frag) (te : TE) : TE := tMeth (CP K) "goal" (spPbg K) [] E0 te tNil
theorem elp_ax (h : Ev te σ H (.ref t)) (ht : ThAt K H t n axs) : EvLP (mAx K te) σ H (fun xs G => OVs G xs (axs.map axO)) := fun H1 e Q q => h H1 e _ fun H2 e2 => by
  have ht2 := ht.ext (e.trans e2)
  obtain ⟨dx, da, fs, xs, h1, h2, h3, h4, h5, h6, h7⟩ := ht2.ex
  exact ⟨t, dx, fs, rfl, h1, h5, t, n, axs, rfl, ht2, fun p xs G np eG hp hov => q p xs G (fresh_back e2 np) (e2.trans eG) hp hov⟩
theorem ev_nmM (h : Ev te σ H (.ref t)) (ht : ThAt K H t n axs) : Ev (mNm K te) σ H (.ref n) := fun H1 e Q q => h H1 e _ fun H2 e2 => by
  have ht2 := ht.ext (e.trans e2)
  obtain ⟨dx, da, fs, xs, h1, h2, h3, h4, h5, h6, h7⟩ := ht2.ex
  exact ⟨t, dx, fs, rfl, h1, h4, t, n, axs, rfl, ht2, fun H3 e3 => q H3 (e2.trans e3)⟩
theorem elp_fu (h : Ev te σ H (.ref n)) (hn : NmAt K H n ar pr) : EvLP (mFu K te) σ H (fun xs G => OVs G xs (ar.map prO)) := fun H1 e Q q => h H1 e _ fun H2 e2 => by
  have hn2 := hn.ext (e.trans e2)
  obtain ⟨dx, df, dp, fs, xs, ys, h1, h2, h3, h4, h5, _⟩ := hn2.ex
  exact ⟨n, dx, fs, rfl, h1, h4, n, ar, pr, rfl, hn2, fun p xs G np eG hp hov => q p xs G (fresh_back e2 np) (e2.trans eG) hp hov⟩
theorem ev_thM (h : Ev te σ H (.ref a)) (hp : PbAt K H a t g) : Ev (mTh K te) σ H (.ref t) := fun H1 e Q q => h H1 e _ fun H2 e2 => by
  obtain ⟨dx, fs, v, h1, h2, h3, h4, h5, h6⟩ := hp.ex
  have ee := e.trans e2
  exact ⟨a, dx, fs, rfl, ee _ _ h1, h4, a, t, g, rfl, ⟨dx, fs, v, ee _ _ h1, h2, h3, h4, h5, h6.ext ee⟩, fun H3 e3 => q H3 (e2.trans e3)⟩
theorem eo_goM (h : Ev te σ H (.ref a)) (hp : PbAt K H a t g) : EvO (mGo K te) σ H g := fun H1 e Q q => h H1 e _ fun H2 e2 => by
  obtain ⟨dx, fs, v, h1, h2, h3, h4, h5, h6⟩ := hp.ex
  have ee := e.trans e2
  exact ⟨a, dx, fs, rfl, ee _ _ h1, h5, a, t, g, rfl, ⟨dx, fs, v, ee _ _ h1, h2, h3, h4, h5, h6.ext ee⟩, fun u G eG hu => q u G (e2.trans eG) (hu.ext eG)⟩
theorem eo_ofLP {os : List O} (h : EvLP te σ H (fun xs G => OVs G xs os)) : EvO te σ H (.lst os) := fun H1 e Q q => h H1 e _ fun p xs H2 np e2 hp hov => q (.ref p) H2 e2 ⟨p, xs, rfl, hp, hov⟩
theorem ev_sameO {m : Nat} {o : O} (h1 : EvO ta σ H o) (h2 : EvO tb σ H o) (hd : o.dp + 2 < m) (hs : o.sz ≤ 40000) : Ev (tCall (spSm K m) [] E0 (tCons ta (tCons tb tNil))) σ H (.bl true) := fun H1 e Q q =>
  h1 H1 e _ fun u H2 e2 hu => h2 H2 (e.trans e2) _ fun v H3 e3 hv => ⟨u, v, rfl, sm_of (hu.ext e3) hv (by have := dq_dp o; omega) (by have := mx_sz o; omega), fun H4 e4 => q H4 ((e2.trans e3).trans e4)⟩
end
/-- what stands once the problem is made -/
structure TG (K : PySem.W.Frag) (H : Hp) (p q rt rw nb : Addr) (va : V) (ar pr : List (Str × Nat)) (rs : List (Str × O)) (g : O) (tm wh : Addr) : Prop where
  tf : TF K H p q rt rw nb va ar pr rs g
  th : ThAt K H tm nb rs
  pb : PbAt K H wh tm g
theorem TG.ext {K : PySem.W.Frag} {H G : Hp} {p q rt rw nb : Addr} {va : V} {ar pr : List (Str × Nat)} {rs : List (Str × O)} {g : O} {tm wh : Addr} (h : TG K H p q rt rw nb va ar pr rs g tm wh) (e : Ex H G) : TG K G p q rt rw nb va ar pr rs g tm wh := ⟨h.tf.ext e, h.th.ext e, h.pb.ext e⟩
theorem TG.t {K : PySem.W.Frag} {H : Hp} {p q rt rw nb : Addr} {va : V} {ar pr : List (Str × Nat)} {rs : List (Str × O)} {g : O} {tm wh : Addr} (h : TG K H p q rt rw nb va ar pr rs g tm wh) : Th K H tm nb ar pr rs := ⟨h.th, h.tf.nam⟩
/-- rows and a goal, as data -/
def twoO (rs : List (Str × O)) (g : O) : O := .lst [.lst (rs.map axO), g]
def threeO (rs : List (Str × O)) (g : O) : O := .lst [.lst (rs.map axO), g, .lst (rs.map axO)]
theorem two_ok {ar pr : List (Str × Nat)} {rs : List (Str × O)} {g : O} (A0 : RwR ar pr rs) (g0 : GoR ar pr g) : (twoO rs g).dp ≤ 64 ∧ (twoO rs g).sz ≤ 9000 ∧ (threeO rs g).dp ≤ 64 ∧ (threeO rs g).sz ≤ 20000 := by
  have F := A0.f
  have h1 := F.sz
  have h2 := F.dp
  have h3 := g0.dr.dp
  have h4 := g0.dr.sz
  refine ⟨?_, ?_, ?_, ?_⟩
  · show max (O.dps (rs.map axO) + 1) (max g.dp 0) + 1 ≤ 64
    omega
  · show ((O.szs (rs.map axO) + 1) + (g.sz + 0)) + 1 ≤ 9000
    omega
  · show max (O.dps (rs.map axO) + 1) (max g.dp (max (O.dps (rs.map axO) + 1) 0)) + 1 ≤ 64
    omega
  · show ((O.szs (rs.map axO) + 1) + (g.sz + ((O.szs (rs.map axO) + 1) + 0))) + 1 ≤ 20000
    omega
section
variable {P : Program} {w : World} {K : PySem.W.Frag} {mg : Str → Option Value} {base : Heap} {f c : Addr} {A : Around} {outer : List Env} {s : Shared} {HX : Hp}
theorem tb3 (T : TN P w K mg base) (hg : (XT P w K mg base f c A outer s HX).A.guards = some []) (hr : Room 80 (XT P w K mg base f c A outer s HX).A) : ∃ t, PS (XT P w K mg base f c A outer s HX) (stT 3) t ∧
    ∀ (D : Ends) (G : Hp) (p q rt rw nb : Addr) (va : V) (ar pr : List (Str × Nat)) (rs : List (Str × O)) (g : O) (tm wh hd : Addr) (o : O) (c0 c1 c4 c9 c10 c11 c12 : Option V),
      TG K G p q rt rw nb va ar pr rs g tm wh → RwR ar pr rs → GoR ar pr g → OV G (.ref hd) o → o.wd = true → o.dp ≤ 64 → o.sz ≤ 9000 →
      (∀ G', Ex G G' → D.nx [c0, c1, some (.ref rw), some va, c4, some (.ref hd), some (.str o.py.shown), some (.ref tm), some (.ref wh), c9, c10, c11, c12] G') →
      t D [c0, c1, some (.ref rw), some va, c4, some (.ref hd), some (.str o.py.shown), some (.ref tm), some (.ref wh), c9, c10, c11, c12] G := by
  obtain ⟨fS, dS, GS, bS, kS, mS⟩ := (ok_same2 T 70).ex
  obtain ⟨fA, fdA, MA, FA⟩ := T.mAx
  have GA := ok_taxioms T FA
  have bA := FA.bindsN (ps := ["self"]) fun kV doc pm an cdv ct us hl => match us, hl with | [_], _ => rfl
  obtain ⟨fG, fdG, MG, FG⟩ := T.mGo
  have GG := ok_pgoal T FG
  have bG := FG.bindsN (ps := ["self"]) fun kV doc pm an cdv ct us hl => match us, hl with | [_], _ => rfl
  have u := hr.un
  refine ⟨_, ps_if (PW.pt (pw_or (pt_not (pt_val (pe_call GS (hr.mono (by decide)) (by rfl) mS kS bS .nil pass0 (pa_cons (pe_lst (pa_cons (pe_meth0 (pv 7) T.iT.cl MA GA (hr.mono (by decide)) bA .nil pass0) (pa_cons (pe_meth0 (pv 8) T.iP.cl MG GG (hr.mono (by decide)) bG .nil pass0) pa_nil))) (pa_cons (pe_lst (pa_cons (pv 2) (pa_cons (pv 3) pa_nil))) pa_nil)))))
    (pw_or1 (pt_cmpR op_ne (pe_callB (call_repr2 hg (by omega)) (by rfl) T.repr PyProof.Rows.boot_repr (pa_cons (pv 5) pa_nil)) (pv 6) (nomark _))))) (pss_one ps_never) pss_nil, ?_⟩
  intro D G p q rt rw nb va ar pr rs g tm wh hd o c0 c1 c4 c9 c10 c11 c12 F A0 g0 ho hwd hdp hsz k
  obtain ⟨d1, d2, _⟩ := two_ok A0 g0
  obtain ⟨xs, hrw, hxs⟩ := F.tf.rows
  refine s_when (b := false) (et_is (et_or (a := false) (b := false) (et_is (et_not (a := true) (et_B (ev_sameO (o := twoO rs g) (eo_lst (eao_cons (eo_ofLP (elp_ax (ev_var rfl) F.th)) (eao_cons (eo_goM (ev_var rfl) F.pb) eao_nil)) (by show 2 ≤ 1000; decide)) (eo_lst (eao_cons (eo_var rfl ⟨rw, xs, rfl, hrw, hxs⟩) (eao_cons (eo_var rfl F.tf.aim) eao_nil)) (by show 2 ≤ 1000; decide)) (by omega) (by omega)))) rfl) fun _ =>
    et_is (et_test (ev_op (ev_repr2 (ev_var rfl) ho hwd hdp (by omega)) (ev_var rfl) (rv_ne rfl))) (by simp)) rfl) (fun z => nomatch z) fun _ G1 e1 => k G1 e1
theorem tb5 (T : TN P w K mg base) (hr : Room 80 (XT P w K mg base f c A outer s HX).A) : ∃ t, PS (XT P w K mg base f c A outer s HX) (stT 5) t ∧
    ∀ (D : Ends) (G : Hp) (p q rt rw nb : Addr) (va : V) (ar pr : List (Str × Nat)) (rs : List (Str × O)) (g : O) (tm wh : Addr) (c0 c1 c4 c5 c6 c9 c10 c11 c12 : Option V),
      TG K G p q rt rw nb va ar pr rs g tm wh → RwR ar pr rs → GoR ar pr g →
      (∀ G', Ex G G' → D.nx [c0, c1, some (.ref rw), some va, c4, c5, c6, some (.ref tm), some (.ref wh), c9, c10, c11, c12] G') →
      t D [c0, c1, some (.ref rw), some va, c4, c5, c6, some (.ref tm), some (.ref wh), c9, c10, c11, c12] G := by
  obtain ⟨fS, dS, GS, bS, kS, mS⟩ := (ok_same2 T 70).ex
  obtain ⟨fA, fdA, MA, FA⟩ := T.mAx
  have GA := ok_taxioms T FA
  have bA := FA.bindsN (ps := ["self"]) fun kV doc pm an cdv ct us hl => match us, hl with | [_], _ => rfl
  obtain ⟨fG, fdG, MG, FG⟩ := T.mGo
  have GG := ok_pgoal T FG
  have bG := FG.bindsN (ps := ["self"]) fun kV doc pm an cdv ct us hl => match us, hl with | [_], _ => rfl
  obtain ⟨fH, fdH, MH, FH⟩ := T.mTh
  have GH := ok_ptheory T FH
  have bH := FH.bindsN (ps := ["self"]) fun kV doc pm an cdv ct us hl => match us, hl with | [_], _ => rfl
  refine ⟨_, ps_if (pt_not (pt_val (pe_call GS (hr.mono (by decide)) (by rfl) mS kS bS .nil pass0 (pa_cons (pe_lst (pa_cons (pe_meth0 (pv 7) T.iT.cl MA GA (hr.mono (by decide)) bA .nil pass0) (pa_cons (pe_meth0 (pv 8) T.iP.cl MG GG (hr.mono (by decide)) bG .nil pass0)
      (pa_cons (pe_meth0 (pe_meth0 (pv 8) T.iP.cl MH GH (hr.mono (by decide)) bH .nil pass0) T.iT.cl MA GA (hr.mono (by decide)) bA .nil pass0) pa_nil)))) (pa_cons (pe_lst (pa_cons (pv 2) (pa_cons (pv 3) (pa_cons (pv 2) pa_nil)))) pa_nil))))) (pss_one ps_never) pss_nil, ?_⟩
  intro D G p q rt rw nb va ar pr rs g tm wh c0 c1 c4 c5 c6 c9 c10 c11 c12 F A0 g0 k
  obtain ⟨_, _, d1, d2⟩ := two_ok A0 g0
  obtain ⟨xs, hrw, hxs⟩ := F.tf.rows
  have hr0 : OV G (.ref rw) (.lst (rs.map axO)) := ⟨rw, xs, rfl, hrw, hxs⟩
  refine s_when (b := false) (et_is (et_not (a := true) (et_B (ev_sameO (o := threeO rs g) (eo_lst (eao_cons (eo_ofLP (elp_ax (ev_var rfl) F.th)) (eao_cons (eo_goM (ev_var rfl) F.pb) (eao_cons (eo_ofLP (elp_ax (ev_thM (ev_var rfl) F.pb) F.th)) eao_nil))) (by show 3 ≤ 1000; decide)) (eo_lst (eao_cons (eo_var rfl hr0) (eao_cons (eo_var rfl F.tf.aim) (eao_cons (eo_var rfl hr0) eao_nil))) (by show 3 ≤ 1000; decide)) (by omega) (by omega)))) rfl) (fun z => nomatch z) fun _ G1 e1 => k G1 e1
theorem tb6 (T : TN P w K mg base) (hr : Room 80 (XT P w K mg base f c A outer s HX).A) : ∃ t, PS (XT P w K mg base f c A outer s HX) (stT 6) t ∧
    ∀ (D : Ends) (G : Hp) (p q rt rw nb : Addr) (va : V) (ar pr : List (Str × Nat)) (rs : List (Str × O)) (g : O) (tm wh : Addr) (c0 c2 c3 c5 c6 c9 c10 c11 c12 : Option V),
      TG K G p q rt rw nb va ar pr rs g tm wh → Raw ar pr → RwR ar pr rs → GoR ar pr g →
      (∀ G', Ex G G' → D.nx [c0, some (.ref rt), c2, c3, some (.ref nb), c5, c6, some (.ref tm), some (.ref wh), c9, c10, c11, c12] G') →
      t D [c0, some (.ref rt), c2, c3, some (.ref nb), c5, c6, some (.ref tm), some (.ref wh), c9, c10, c11, c12] G := by
  obtain ⟨fS, dS, GS, bS, kS, mS⟩ := (ok_same2 T 70).ex
  obtain ⟨fA, fdA, MA, FA⟩ := T.mNm
  have GA := ok_tnames T FA
  have bA := FA.bindsN (ps := ["self"]) fun kV doc pm an cdv ct us hl => match us, hl with | [_], _ => rfl
  obtain ⟨fG, fdG, MG, FG⟩ := T.mFu
  have GG := ok_nfun T FG
  have bG := FG.bindsN (ps := ["self"]) fun kV doc pm an cdv ct us hl => match us, hl with | [_], _ => rfl
  obtain ⟨fH, fdH, MH, FH⟩ := T.mTh
  have GH := ok_ptheory T FH
  have bH := FH.bindsN (ps := ["self"]) fun kV doc pm an cdv ct us hl => match us, hl with | [_], _ => rfl
  obtain ⟨fN, fdN, MN, FN⟩ := T.mNe
  have GN := ok_neq T FN
  have bN := FN.bindsN (ps := ["self", "other"]) (fun kV doc pm an cdv ct us hl => match us, hl with | [_, _], _ => rfl)
  obtain ⟨fT, fdT, MT, FT⟩ := T.mTe
  have GT := ok_teq T FT
  have bT := FT.bindsN (ps := ["self", "other"]) (fun kV doc pm an cdv ct us hl => match us, hl with | [_, _], _ => rfl)
  refine ⟨_, ps_if (PW.pt (pw_or (pt_not (pt_cmpR (op_own GN (hr.mono (by decide)) MN.at_ MN.fn bN pass0) (pe_meth0 (pv 7) T.iT.cl MA GA (hr.mono (by decide)) bA .nil pass0) (pv 4) (nomark _)))
    (pw_or (pt_not (pt_cmpR (op_own GT (hr.mono (by decide)) MT.at_ MT.fn bT pass0) (pe_meth0 (pv 8) T.iP.cl MH GH (hr.mono (by decide)) bH .nil pass0) (pv 7) (nomark _)))
    (pw_or1 (pt_not (pt_val (pe_call GS (hr.mono (by decide)) (by rfl) mS kS bS .nil pass0 (pa_cons (pe_meth0 (pe_meth0 (pv 7) T.iT.cl MA GA (hr.mono (by decide)) bA .nil pass0) T.iN.cl MG GG (hr.mono (by decide)) bG .nil pass0) (pa_cons (pe_ix ix_tup (pv 1) pe_int (fun _ _ => rfl)) pa_nil))))))))) (pss_one ps_never) pss_nil, ?_⟩
  intro D G p q rt rw nb va ar pr rs g tm wh c0 c2 c3 c5 c6 c9 c10 c11 c12 F R A0 g0 k
  obtain ⟨a, b, ys, zs, y1, na1, na2, nb1, nb2, ha, hb, hx, hy⟩ := F.tf.raw.ex
  have hn := F.tf.nam
  have hdp := prs_dp ar
  have hsz := prs_sz ar
  have hl := R.l1
  refine s_when (b := false) (et_is (et_or (a := false) (b := false) (et_is (et_not (a := true) (et_is (et_test (ev_op (ev_nmM (ev_var rfl) F.th) (ev_var rfl) (rv_ownN hn hn R.nms R.nms))) (by rw [eqPs_self, eqPs_self]; rfl))) rfl) fun _ =>
    et_is (et_or (a := false) (b := false) (et_is (et_not (a := true) (et_is (et_test (ev_op (ev_thM (ev_var rfl) F.pb) (ev_var rfl) (rv_ownT F.t F.t R.nms R.nms A0.axs A0.axs))) (by rw [eqPs_self, eqPs_self, eqAx_self A0.axs]; rfl))) rfl) fun _ =>
    et_is (et_not (a := true) (et_B (ev_sameO (o := .lst (ar.map prO)) (eo_ofLP (elp_fu (ev_nmM (ev_var rfl) F.th) hn)) (eo_of (ev_op (ev_var rfl) ev_c (rv_ixT (st_of y1) (atI_nat (j := 0) rfl))) ⟨a, ys, rfl, ha, hx⟩) (by show O.dps _ + 1 + 2 < 70; omega) (by show O.szs _ + 1 ≤ 40000; omega)))) rfl) rfl) rfl) (fun z => nomatch z) fun _ G1 e1 => k G1 e1
end
end K02

set_option Elab.async false
set_option linter.all false
set_option maxRecDepth 100000
set_option maxHeartbeats 4000000
/-! _law_told_right: lists spoiled. -/
namespace K02
open PySem PySem.Spec PyProof.Rows L2 Evl LamX
theorem tx_hb {B : Addr → Prop} {H : Hp} : Tx H (HB B H) := fun a xs h => hb_of h (.inl fun _ z => nomatch z)
theorem hb_ex2 {R B : Addr → Prop} {H G : Hp} (e : Ex H G) (m : ∀ b, R b → B b) : Ex (HB R H) (HB B G) := fun b o h => hb_of (e _ _ (hb_to h).1) ((hb_to h).2.imp id (m b))
section
variable {P : Program} {w : World} {K : PySem.W.Frag} {mg : Str → Option Value} {base : Heap} {f c : Addr} {A : Around} {outer : List Env} {s : Shared} {HX : Hp}
theorem tb4 (T : TN P w K mg base) (hr : Room 80 (XT P w K mg base f c A outer s HX).A) : ∃ t, PS (XT P w K mg base f c A outer s HX) (stT 4) t ∧
    ∀ (D : Ends) (G : Hp) (p q rt rw nb : Addr) (va : V) (n : Int) (ar pr : List (Str × Nat)) (rs : List (Str × O)) (g : O) (tm wh hd : Addr) (R : Addr → Prop) (r1 r2 : V) (o1 o2 : O) (c0 c1 c2 c3 c4 c6 c9 c10 c11 c12 : Option V),
      TG K (Hx (fun b => PQ p q b ∨ R b) G) p q rt rw nb va ar pr rs g tm wh → Spr G p q n → Tabs (tabT K) G → Raw ar pr → RwR ar pr rs → GoR ar pr g → (∀ b, R b → ∃ zs, G b = some (.lst zs) ∧ zs.length ≤ 10000) → ¬ R p → ¬ R q →
      G hd = some (.lst [r1, r2]) → R hd → OV (HB R G) r1 o1 → OV (HB R G) r2 o2 → o1.strip = .tup (rs.map axO) → o2.strip = g →
      (∀ G', TG K (Hx (fun b => PQ p q b ∨ R b) G') p q rt rw nb va ar pr rs g tm wh → Spr G' p q n → Tabs (tabT K) G' → (∀ b u, ¬ R b → (∀ ps, u ≠ .tbl ps) → G b = some u → G' b = some u) → D.nx [c0, c1, c2, c3, c4, some (.ref hd), c6, some (.ref tm), some (.ref wh), c9, c10, c11, c12] G') →
      t D [c0, c1, c2, c3, c4, some (.ref hd), c6, some (.ref tm), some (.ref wh), c9, c10, c11, c12] G := by
  obtain ⟨fS, dS, GS, bS, kS, mS⟩ := (ok_spoiled T.toT02 70).ex
  obtain ⟨fA, fdA, MA, FA⟩ := T.mAx
  have GA := ok_taxioms T FA
  have bA := FA.bindsN (ps := ["self"]) fun kV doc pm an cdv ct us hl => match us, hl with | [_], _ => rfl
  obtain ⟨fN, fdN, MN, FN⟩ := T.mNm
  have GN := ok_tnames T FN
  have bN := FN.bindsN (ps := ["self"]) fun kV doc pm an cdv ct us hl => match us, hl with | [_], _ => rfl
  obtain ⟨fG, fdG, MG, FG⟩ := T.mFu
  have GG := ok_nfun T FG
  have bG := FG.bindsN (ps := ["self"]) fun kV doc pm an cdv ct us hl => match us, hl with | [_], _ => rfl
  obtain ⟨fH, fdH, MH, FH⟩ := T.mTh
  have GH := ok_ptheory T FH
  have bH := FH.bindsN (ps := ["self"]) fun kV doc pm an cdv ct us hl => match us, hl with | [_], _ => rfl
  refine ⟨_, ps_expr (pe_call GS (hr.mono (by decide)) (by rfl) mS kS bS .nil pass0 (pa_cons (pe_lst (pa_cons (pv 5) (pa_cons (pe_meth0 (pv 7) T.iT.cl MA GA (hr.mono (by decide)) bA .nil pass0) (pa_cons (pe_meth0 (pe_meth0 (pv 8) T.iP.cl MH GH (hr.mono (by decide)) bH .nil pass0) T.iT.cl MA GA (hr.mono (by decide)) bA .nil pass0)
    (pa_cons (pe_meth0 (pe_meth0 (pv 7) T.iT.cl MN GN (hr.mono (by decide)) bN .nil pass0) T.iN.cl MG GG (hr.mono (by decide)) bG .nil pass0) pa_nil))))) pa_nil)), ?_⟩
  intro D G p q rt rw nb va n ar pr rs g tm wh hd R r1 r2 o1 o2 c0 c1 c2 c3 c4 c6 c9 c10 c11 c12 F0 S hT R0 A0 g0 hR Rp Rq hhd Rhd ov1 ov2 st1 st2 k
  have F := F0.ext hx_ex
  have W := A0.f
  refine ⟨_, rfl, elp_ax (ev_var rfl) F.th G (Ex.refl _) _ fun a1 x1 G1 n1 e1 h1 v1 => ?_⟩
  have F1 := F.ext e1
  refine elp_ax (ev_thM (ev_var rfl) F1.pb) F1.th G1 (Ex.refl _) _ fun a2 x2 G2 n2 e2 h2 v2 => ?_
  have F2 := F1.ext e2
  refine elp_fu (ev_nmM (ev_var rfl) F2.th) F2.tf.nam G2 (Ex.refl _) _ fun a3 x3 G3 n3 e3 h3 v3 => ?_
  refine ⟨by show 4 ≤ sizeLine; decide, fun ou nou => ?_⟩
  have e4 : Ex G3 (upd G3 ou (.lst [.ref hd, .ref a1, .ref a2, .ref a3])) := Ex.new nou
  have h4 : (upd G3 ou (.lst [.ref hd, .ref a1, .ref a2, .ref a3])) ou = some (.lst [.ref hd, .ref a1, .ref a2, .ref a3]) := upd_same
  have m1 : G a1 = none := n1
  have m2 : G a2 = none := fresh_back e1 n2
  have m3 : G a3 = none := fresh_back (e1.trans e2) n3
  have m4 : G ou = none := fresh_back ((e1.trans e2).trans e3) nou
  generalize upd G3 ou (.lst [.ref hd, .ref a1, .ref a2, .ref a3]) = G4 at e4 h4 ⊢
  have e24 : Ex G2 G4 := e3.trans e4
  have e14 : Ex G1 G4 := e2.trans e24
  have e04 : Ex G G4 := e1.trans e14
  have hl1 : x1.length ≤ 7 := by rw [v1.length, List.length_map]; exact A0.len
  have hl2 : x2.length ≤ 7 := by rw [v2.length, List.length_map]; exact A0.len
  have hl3 : x3.length ≤ 12 := by rw [v3.length, List.length_map]; exact R0.l1
  have hnB : ∀ b u, G b = some u → ¬ R b → ¬ (R b ∨ b = a1 ∨ b = a2 ∨ b = a3 ∨ b = ou) := fun b u hb nR z => by
    rcases z with z | rfl | rfl | rfl | rfl
    · exact nR z
    · rw [m1] at hb; cases hb
    · rw [m2] at hb; cases hb
    · rw [m3] at hb; cases hb
    · rw [m4] at hb; cases hb
  have eR : Ex (HB R G) (HB (fun b => R b ∨ b = a1 ∨ b = a2 ∨ b = a3 ∨ b = ou) G4) := hb_ex2 e04 fun b h => .inl h
  have sz1 := strip_szz o1
  rw [st1] at sz1
  have sz1' : (O.tup (rs.map axO)).sz = O.szs (rs.map axO) + 1 := rfl
  have sz2 := strip_szz o2
  rw [st2] at sz2
  have lc1 := lc_sz o1
  have lc2 := lc_sz o2
  have lc3 := lcs_sz (rs.map axO)
  have lc4 := lcs_sz (ar.map prO)
  have hlc : (O.lst [.lst [o1, o2], .lst (rs.map axO), .lst (rs.map axO), .lst (ar.map prO)]).lc ≤ 30000 := by
    have e : (O.lst [.lst [o1, o2], .lst (rs.map axO), .lst (rs.map axO), .lst (ar.map prO)]).lc = ((o1.lc + (o2.lc + 0)) + 1 + ((O.lcs (rs.map axO) + 1) + ((O.lcs (rs.map axO) + 1) + ((O.lcs (ar.map prO) + 1) + 0)))) + 1 := rfl
    have w1 := W.sz
    have w2 := g0.dr.sz
    have w3 := prs_sz ar
    have w4 := R0.l1
    omega
  refine ⟨.ref ou, .lst [.lst [o1, o2], .lst (rs.map axO), .lst (rs.map axO), .lst (ar.map prO)], fun b => R b ∨ b = a1 ∨ b = a2 ∨ b = a3 ∨ b = ou, rfl, fun b hb => ?_, ?_, ?_, ?_, fun b zs hb hz => ?_, fun G5 hS => ?_⟩
  · rcases hb with hb | rfl | rfl | rfl | rfl
    · obtain ⟨zs, h, _⟩ := hR b hb
      exact ⟨zs, e04 _ _ h⟩
    · exact ⟨_, e14 _ _ h1⟩
    · exact ⟨_, e24 _ _ h2⟩
    · exact ⟨_, e4 _ _ h3⟩
    · exact ⟨_, h4⟩
  · refine ⟨ou, _, rfl, hb_of h4 (.inr (.inr (.inr (.inr (.inr rfl))))), .cons ⟨hd, _, rfl, hb_of (e04 _ _ hhd) (.inr (.inl Rhd)), .cons (ov1.ext eR) (.cons (ov2.ext eR) .nil)⟩ (.cons ⟨a1, _, rfl, hb_of (e14 _ _ h1) (.inr (.inr (.inl rfl))), OVs.tx tx_hb W.noL W.nod (v1.ext e14)⟩
      (.cons ⟨a2, _, rfl, hb_of (e24 _ _ h2) (.inr (.inr (.inr (.inl rfl)))), OVs.tx tx_hb W.noL W.nod (v2.ext e24)⟩ (.cons ⟨a3, _, rfl, hb_of (e4 _ _ h3) (.inr (.inr (.inr (.inr (.inl rfl))))), OVs.tx tx_hb (prs_noL _) (prs_nod _) (v3.ext e4)⟩ .nil)))⟩
  · have q1 : o1.nod = true := by rw [← strip_nod, st1]; exact W.nod
    have q2 : o2.nod = true := by rw [← strip_nod, st2]; exact g0.dr.nod
    show ((o1.nod && (o2.nod && true)) && (O.nods (rs.map axO) && (O.nods (rs.map axO) && (O.nods (ar.map prO) && true)))) = true
    rw [q1, q2, W.nod, prs_nod]
    rfl
  · have q1 : o1.dp = O.dps (rs.map axO) + 1 := by rw [← strip_dp, st1]; rfl
    have q2 : o2.dp = g.dp := by rw [← strip_dp, st2]
    have w1 := W.dp
    have w2 := g0.dr.dp
    have w3 := prs_dp ar
    show max (max o1.dp (max o2.dp 0) + 1) (max (O.dps (rs.map axO) + 1) (max (O.dps (rs.map axO) + 1) (max (O.dps (ar.map prO) + 1) 0))) + 1 < 70
    omega
  · have : zs.length ≤ 10000 := by
      rcases hb with hb | rfl | rfl | rfl | rfl
      · obtain ⟨ys, h, hl⟩ := hR b hb
        rw [e04 _ _ h] at hz
        obtain rfl := HO.lst.inj (Option.some.inj hz)
        exact hl
      · rw [e14 _ _ h1] at hz
        obtain rfl := HO.lst.inj (Option.some.inj hz)
        omega
      · rw [e24 _ _ h2] at hz
        obtain rfl := HO.lst.inj (Option.some.inj hz)
        omega
      · rw [e4 _ _ h3] at hz
        obtain rfl := HO.lst.inj (Option.some.inj hz)
        omega
      · rw [h4] at hz
        obtain rfl := HO.lst.inj (Option.some.inj hz)
        show 4 ≤ 10000
        decide
    omega
  · have stay : ∀ b u, G b = some u → ¬ R b → G5 b = some u := fun b u hb nR => hS.go b u (hnB b u hb nR) (e04 _ _ hb)
    have goZ : Go (fun b => PQ p q b ∨ R b) G G5 := fun b u nz _ hb => stay b u hb fun z => nz (.inr z)
    refine k G5 (F0.ext goZ.ex) (S.keep (fun o h => stay _ _ h Rp) (fun o h => stay _ _ h Rq)) (tabs_keep hT fun b u hb nl _ => stay b u hb fun z => ?_) fun b u nR _ hb => stay b u hb nR
    obtain ⟨zs, h, _⟩ := hR b z
    rw [h] at hb
    exact nl zs (Option.some.inj hb).symm
end
end K02

set_option Elab.async false
set_option linter.all false
set_option maxRecDepth 100000
set_option maxHeartbeats 4000000
/-! Names in their order; more names; theories and problems compared. -/
namespace K02
open PySem PySem.Spec PyProof.Rows L2 Evl LamX
def leB (r q : Str × Nat) : Bool := !PyProof.Rows.lexLt PyProof.Rows.itemOrd (kSI (pI q)) (kSI (pI r))
theorem sort_ex (ps : List (Str × Nat)) : ∃ ar : List (Str × Nat), ps.Perm ar ∧ Sd ar := by
  refine ⟨ps.mergeSort leB, (List.mergeSort_perm ps leB).symm, ?_⟩
  have := List.pairwise_mergeSort (le := leB) (fun a b c h1 h2 => ?_) (fun a b => ?_) ps
  · unfold Sd
    rw [List.pairwise_map]
    refine this.imp fun {a b} h => ?_
    unfold leB at h
    unfold leSI
    simpa using h
  · unfold leB at h1 h2 ⊢
    cases hx : PyProof.Rows.lexLt PyProof.Rows.itemOrd (kSI (pI c)) (kSI (pI a)) with
    | false => rfl
    | true =>
      rcases PyProof.Rows.lex_negTrans _ (kSI (pI b)) _ hx with h | h
      · rw [h] at h2; cases h2
      · rw [h] at h1; cases h1
  · unfold leB
    cases h1 : PyProof.Rows.lexLt PyProof.Rows.itemOrd (kSI (pI b)) (kSI (pI a)) with
    | false => rfl
    | true =>
      cases h2 : PyProof.Rows.lexLt PyProof.Rows.itemOrd (kSI (pI a)) (kSI (pI b)) with
      | false => rfl
      | true =>
        have := PyProof.Rows.lex_trans _ _ _ h1 h2
        rw [PyProof.Rows.lex_irrefl] at this
        cases this
section
variable {ar pr pr' : List (Str × Nat)}
theorem placesD_monoP (h : ∀ s n, arl pr s = some n → arl pr' s = some n) : ∀ xs : List O, K02.placesD pr xs = true → K02.placesD pr' xs = true
  | [], k => k
  | x :: xs, k => by
    cases x with
    | str s =>
      have k : decide (arl pr s = some xs.length) = true := k
      show decide (arl pr' s = some xs.length) = true
      exact decide_eq_true (h _ _ (of_decide_eq_true k))
    | _ => cases k
theorem atomL_monoP (h : ∀ s n, arl pr s = some n → arl pr' s = some n) {xs : List O} {sc : List Str} (k : atomL ar pr xs sc = true) : atomL ar pr' xs sc = true := by
  unfold atomL at k ⊢
  rw [Bool.and_eq_true, Bool.or_eq_true] at k ⊢
  exact ⟨k.1.imp id (placesD_monoP h xs), k.2⟩
mutual
theorem fitS_monoP (h : ∀ s n, arl pr s = some n → arl pr' s = some n) : ∀ (o : O) {sc : List Str}, o.fitS ar pr sc = true → o.fitS ar pr' sc = true
  | .lst xs, sc, k => by rw [O.fitS] at k ⊢; exact fitSL_monoP h xs k
  | .tup xs, sc, k => by rw [O.fitS] at k ⊢; exact fitSL_monoP h xs k
  | .str _, _, k => by rw [O.fitS] at k; cases k
  | .non, _, k => by rw [O.fitS] at k; cases k
  | .bl _, _, k => by rw [O.fitS] at k; cases k
  | .int _, _, k => by rw [O.fitS] at k; cases k
  | .dct, _, k => by rw [O.fitS] at k; cases k
theorem fitSL_monoP (h : ∀ s n, arl pr s = some n → arl pr' s = some n) : ∀ (xs : List O) {sc : List Str}, fitSL ar pr xs sc = true → fitSL ar pr' xs sc = true
  | [], _, k => by rw [fitSL] at k; cases k
  | [x], _, k => by rw [fitSL] at k ⊢; exact atomL_monoP h k
  | [x, y], _, k => by
    rw [fitSL] at k ⊢
    split
    · rename_i hx
      rw [if_pos hx] at k
      exact fitS_monoP h y k
    · rename_i hx
      rw [if_neg hx] at k
      exact atomL_monoP h k
  | [x, y, z], sc, k => by
    rw [fitSL] at k ⊢
    split
    · rename_i hx
      rw [if_pos hx, Bool.and_eq_true] at k
      rw [Bool.and_eq_true]
      exact ⟨fitS_monoP h y k.1, fitS_monoP h z k.2⟩
    · rename_i hx
      rw [if_neg hx] at k
      split
      · rename_i hy
        rw [if_pos hy] at k
        exact fitS_monoP h z k
      · rename_i hy
        rw [if_neg hy] at k
        exact atomL_monoP h k
  | x :: y :: z :: u :: r, _, k => by rw [fitSL] at k ⊢; exact atomL_monoP h k
end
end
abbrev l9 : Str × Nat := ("late9", 0)
/-- names with one predicate more -/
structure Mo (ar pr pr' : List (Str × Nat)) : Prop where
  pm : (pr ++ [l9]).Perm pr'
  sd : Sd pr'
theorem Mo.ok {ar pr pr' : List (Str × Nat)} (M : Mo ar pr pr') (R : Raw ar pr) : NsOk ar (pr ++ [l9]) ∧ (pr'.map (·.1)).Nodup ∧ NmS ar pr' ∧ eqPs pr pr' = false ∧ ∀ s n, arl pr s = some n → arl pr' s = some n := by
  have h9 : nameB "late9" = true ∧ ("late9" : Str) ∈ SS ∧ ("late9" : Str) ∉ pool1 ∧ ("late9" : Str) ∉ pool2 := by decide +kernel
  have nd : ((ar ++ (pr ++ [l9])).map (·.1)).Nodup := by
    rw [← List.append_assoc, List.map_append, List.nodup_append]
    refine ⟨R.nd, by simp, fun a ha b hb e => ?_⟩
    obtain rfl : b = "late9" := by simpa using hb
    obtain ⟨r, hr, he⟩ := List.mem_map.mp ha
    rcases List.mem_append.mp hr with hr | hr
    · exact h9.2.2.1 (by rw [← e, ← he]; exact (R.n1 r hr).1)
    · exact h9.2.2.2 (by rw [← e, ← he]; exact (R.n2 r hr).1)
  have nd2 : (pr'.map (·.1)).Nodup := by
    rw [← (M.pm.map (·.1)).nodup_iff]
    rw [List.map_append] at nd
    exact (List.nodup_append.mp nd).2.1
  have ns : NmS ar pr' := fun r hr => by
    rcases List.mem_append.mp hr with h | h
    · exact (R.ns (s := r.1) (n := r.2) (List.mem_append_left _ h)).2.1
    · rcases List.mem_append.mp (M.pm.mem_iff.mpr h) with h | h
      · exact (R.ns (s := r.1) (n := r.2) (List.mem_append_right _ h)).2.1
      · obtain rfl := List.mem_singleton.mp h
        exact h9.2.1
  refine ⟨⟨fun r hr => ?_, nd, by have := R.l1; omega, by rw [List.length_append]; have := R.l2; show pr.length + 1 ≤ 50; omega⟩, nd2, ns, ?_, fun s n h => ?_⟩
  · rcases List.mem_append.mp hr with h | h
    · have := R.ns (s := r.1) (n := r.2) (List.mem_append_left _ h)
      exact ⟨this.1, this.2.1, by omega⟩
    · rcases List.mem_append.mp h with h | h
      · have := R.ns (s := r.1) (n := r.2) (List.mem_append_right _ h)
        exact ⟨this.1, this.2.1, by omega⟩
      · obtain rfl := List.mem_singleton.mp h
        exact ⟨h9.1, h9.2.1, by decide⟩
  · refine eqPs_ne fun e => ?_
    have h1 : l9 ∈ pr := by rw [e]; exact M.pm.mem_iff.mp (by simp)
    exact h9.2.2.2 (R.n2 _ h1).1
  · exact arl_mem nd2 (M.pm.mem_iff.mp (List.mem_append_left _ (arl_some h)))
theorem Mo.rows {ar pr pr' : List (Str × Nat)} {rs : List (Str × O)} (M : Mo ar pr pr') (R : Raw ar pr) (A0 : RwR ar pr rs) : RwR ar pr' rs :=
  ⟨A0.nm, fun r hr => fitS_monoP (M.ok R).2.2.2.2 _ (A0.sn r hr), A0.dr, A0.nd, A0.len⟩
theorem Mo.goal {ar pr pr' : List (Str × Nat)} {g : O} (M : Mo ar pr pr') (R : Raw ar pr) (g0 : GoR ar pr g) : GoR ar pr' g := ⟨fitS_monoP (M.ok R).2.2.2.2 _ g0.fit, g0.dr, g0.tp⟩
/-! ### compared -/
section
variable {P : Program} {w : World} {K : PySem.W.Frag} {mg : Str → Option Value} {base : Heap} {H : Hp} {σ : L2.St} {ta tb : TE} {E : XK}
theorem rv_neT {a b n m : Addr} {ar pr ar' pr' : List (Str × Nat)} {axs bxs : List (Str × O)} (h1 : Th K H a n ar pr axs) (h2 : Th K H b m ar' pr' bxs) (s1 : NmS ar pr) (s2 : NmS ar' pr') (S1 : AxS axs) (S2 : AxS bxs) :
    RV (rOwnNe K (CT K) (spTe K) E) (.ref a) (.ref b) H (.bl (!((eqPs ar ar' && eqPs pr pr') && eqAx axs bxs))) := fun H1 e Q q => by
  have h1 := h1.ext e
  have h2 := h2.ext e
  obtain ⟨dx, da, fs, xs, g1, _⟩ := h1.th.ex
  exact ⟨a, dx, fs, rfl, g1, h2.th.rt, a, n, ar, pr, axs, _, rfl, h1, s1, S1, .inl ⟨b, m, ar', pr', bxs, rfl, h2, s2, S2, fun H2 e2 => ⟨_, rfl, q H2 e2⟩⟩⟩
/-- a theory and what is none -/
theorem rv_eqTN {a n : Addr} {y : V} {ar pr : List (Str × Nat)} {axs : List (Str × O)} (h1 : Th K H a n ar pr axs) (s1 : NmS ar pr) (S1 : AxS axs) (hy : ∀ G, Ex H G → Rt K (CT K) G y ∧ NoC K G y (CT K)) : RV (rOwn K (CT K) (spTe K) E) (.ref a) y H (.bl false) := fun H1 e Q q => by
  have h1 := h1.ext e
  obtain ⟨dx, da, fs, xs, g1, _⟩ := h1.th.ex
  exact ⟨a, dx, fs, rfl, g1, (hy H1 e).1, a, n, ar, pr, axs, _, rfl, h1, s1, S1, .inr ⟨(hy H1 e).2, fun H2 e2 => ⟨_, rfl, q H2 e2⟩⟩⟩
/-- problems compared -/
theorem PbAt.rt {o t : Addr} {g : O} (h : PbAt K H o t g) : Rt K (CP K) H (.ref o) := by
  obtain ⟨dx, fs, v, h1, _⟩ := h.ex
  exact .ins h1 (.inl rfl)
theorem rv_eqP {a b t u n m : Addr} {ar pr ar' pr' : List (Str × Nat)} {axs bxs : List (Str × O)} {g g' : O} (h1 : PbAt K H a t g) (t1 : Th K H t n ar pr axs) (h2 : PbAt K H b u g') (t2 : Th K H u m ar' pr' bxs) (s1 : NmS ar pr) (s2 : NmS ar' pr') (S1 : AxS axs) (S2 : AxS bxs) (G1 : GoS g) (G2 : GoS g') :
    RV (rOwn K (CP K) (spPbe K) E) (.ref a) (.ref b) H (.bl (((eqPs ar ar' && eqPs pr pr') && eqAx axs bxs) && g.eqv g')) := fun H1 e Q q => by
  have h1 := h1.ext e
  have h2 := h2.ext e
  obtain ⟨dx, fs, v, g1, _⟩ := h1.ex
  exact ⟨a, dx, fs, rfl, g1, h2.rt, a, t, n, ar, pr, axs, g, _, rfl, h1, t1.ext e, s1, S1, G1, .inl ⟨b, u, m, ar', pr', bxs, g', rfl, h2, t2.ext e, s2, S2, G2, fun H2 e2 => ⟨_, rfl, q H2 e2⟩⟩⟩
theorem rv_neP {a b t u n m : Addr} {ar pr ar' pr' : List (Str × Nat)} {axs bxs : List (Str × O)} {g g' : O} (h1 : PbAt K H a t g) (t1 : Th K H t n ar pr axs) (h2 : PbAt K H b u g') (t2 : Th K H u m ar' pr' bxs) (s1 : NmS ar pr) (s2 : NmS ar' pr') (S1 : AxS axs) (S2 : AxS bxs) (G1 : GoS g) (G2 : GoS g') :
    RV (rOwnNe K (CP K) (spPbe K) E) (.ref a) (.ref b) H (.bl (!(((eqPs ar ar' && eqPs pr pr') && eqAx axs bxs) && g.eqv g'))) := fun H1 e Q q => by
  have h1 := h1.ext e
  have h2 := h2.ext e
  obtain ⟨dx, fs, v, g1, _⟩ := h1.ex
  exact ⟨a, dx, fs, rfl, g1, h2.rt, a, t, n, ar, pr, axs, g, _, rfl, h1, t1.ext e, s1, S1, G1, .inl ⟨b, u, m, ar', pr', bxs, g', rfl, h2, t2.ext e, s2, S2, G2, fun H2 e2 => ⟨_, rfl, q H2 e2⟩⟩⟩
theorem rv_eqPN {a t n : Addr} {y : V} {ar pr : List (Str × Nat)} {axs : List (Str × O)} {g : O} (h1 : PbAt K H a t g) (t1 : Th K H t n ar pr axs) (s1 : NmS ar pr) (S1 : AxS axs) (G1 : GoS g) (hy : ∀ G, Ex H G → Rt K (CP K) G y ∧ NoC K G y (CP K)) : RV (rOwn K (CP K) (spPbe K) E) (.ref a) y H (.bl false) := fun H1 e Q q => by
  have h1 := h1.ext e
  obtain ⟨dx, fs, v, g1, _⟩ := h1.ex
  exact ⟨a, dx, fs, rfl, g1, (hy H1 e).1, a, t, n, ar, pr, axs, g, _, rfl, h1, t1.ext e, s1, S1, G1, .inr ⟨(hy H1 e).2, fun H2 e2 => ⟨_, rfl, q H2 e2⟩⟩⟩
theorem rv_nePN {a t n : Addr} {y : V} {ar pr : List (Str × Nat)} {axs : List (Str × O)} {g : O} (h1 : PbAt K H a t g) (t1 : Th K H t n ar pr axs) (s1 : NmS ar pr) (S1 : AxS axs) (G1 : GoS g) (hy : ∀ G, Ex H G → Rt K (CP K) G y ∧ NoC K G y (CP K)) : RV (rOwnNe K (CP K) (spPbe K) E) (.ref a) y H (.bl true) := fun H1 e Q q => by
  have h1 := h1.ext e
  obtain ⟨dx, fs, v, g1, _⟩ := h1.ex
  exact ⟨a, dx, fs, rfl, g1, (hy H1 e).1, a, t, n, ar, pr, axs, g, _, rfl, h1, t1.ext e, s1, S1, G1, .inr ⟨(hy H1 e).2, fun H2 e2 => ⟨_, rfl, q H2 e2⟩⟩⟩
theorem GoR.s {ar pr : List (Str × Nat)} {g : O} (h : GoR ar pr g) : GoS g := ⟨wd_ed _ h.dr.wd, h.dr.pu, Nat.le_trans h.dr.dp (by decide)⟩
theorem pb_noT (T : TN P w K mg base) {o t : Addr} {g : O} (h : PbAt K H o t g) : Rt K (CT K) H (.ref o) ∧ NoC K H (.ref o) (CT K) := by
  obtain ⟨dx, fs, v, h1, _⟩ := h.ex
  exact ⟨.ins h1 (T.sb (x := "Problem") (y := "Theory") (by decide) (by decide)), .inr ⟨CP K, h.ins T, T.ot "Problem" (by decide) "Theory" (by decide) (by decide)⟩⟩
theorem th_noP (T : TN P w K mg base) {o n : Addr} {axs : List (Str × O)} (h : ThAt K H o n axs) : Rt K (CP K) H (.ref o) ∧ NoC K H (.ref o) (CP K) := by
  obtain ⟨dx, da, fs, xs, h1, _⟩ := h.ex
  exact ⟨.ins h1 (T.sb (x := "Theory") (y := "Problem") (by decide) (by decide)), .inr ⟨CT K, h.ins T, T.ot "Theory" (by decide) "Problem" (by decide) (by decide)⟩⟩
end
end K02

set_option Elab.async false
set_option linter.all false
set_option maxRecDepth 100000
set_option maxHeartbeats 4000000
/-! _law_told_right: a twin, more names, other theories. -/
namespace K02
open PySem PySem.Spec PyProof.Rows L2 Evl LamX
/-- names are made -/
theorem mk_names {K : PySem.W.Frag} {H2 : Hp} {x dx : Addr} {v1 v2 : V} {o1 o2 : O} {ps qs ar pr : List (Str × Nat)} {Q : Hp → Prop} {E : XK} (nx : H2 x = none) (ndx : H2 dx = none) (hne : dx ≠ x) (ov1 : OV H2 v1 o1) (ov2 : OV H2 v2 o2) (s1 : o1.strip = .tup (ps.map prO)) (s2 : o2.strip = .tup (qs.map prO)) (N : NsOk ps qs) (pm1 : ps.Perm ar) (sd1 : Sd ar) (pm2 : qs.Perm pr) (sd2 : Sd pr)
    (k : ∀ H', NmAt K (Hx (Old H2) H') x ar pr → Ex H2 H' → Q H') : spNi K [.ref x, v1, v2] (upd (upd H2 dx (.own x)) x (.ins (CN K) dx [])) (fun v H3 => v = .non ∧ Q H3) E := by
  have e1 : Ex H2 (upd H2 dx (.own x)) := Ex.new ndx
  have nx1 : (upd H2 dx (.own x)) x = none := by rw [upd_ne hne.symm]; exact nx
  have e2 : Ex H2 (upd (upd H2 dx (.own x)) x (.ins (CN K) dx [])) := e1.trans (Ex.new nx1)
  exact ⟨x, dx, v1, v2, o1, o2, ps, qs, ar, pr, rfl, upd_same, ov1.ext e2, ov2.ext e2, s1, s2, N, pm1, sd1, pm2, sd2, fun H' hN hk => ⟨rfl, k H' (hN.ext (hx_mono fun b hb => Old.ex e2 hb)) fun b u hb => hk b u (e2 _ _ hb) (ne_of_none hb nx)⟩⟩
theorem pq_old {p q : Addr} {H : Hp} {n : Int} (S : Spr H p q n) : ∀ b, PQ p q b → Old H b := fun b hb => by
  have o := S.old
  rcases hb with rfl | rfl
  · exact o.1
  · exact o.2
/-- what stands: a twin, more names too -/
structure TW (K : PySem.W.Frag) (H : Hp) (p q rt rw nb : Addr) (va : V) (ar pr : List (Str × Nat)) (rs : List (Str × O)) (g : O) (tm wh tw n2 mo : Addr) (pr' : List (Str × Nat)) : Prop where
  tg : TG K H p q rt rw nb va ar pr rs g tm wh
  tw : Th K H tw n2 ar pr rs
  mo : NmAt K H mo ar pr'
theorem TW.ext {K : PySem.W.Frag} {H G : Hp} {p q rt rw nb : Addr} {va : V} {ar pr : List (Str × Nat)} {rs : List (Str × O)} {g : O} {tm wh tw n2 mo : Addr} {pr' : List (Str × Nat)} (h : TW K H p q rt rw nb va ar pr rs g tm wh tw n2 mo pr') (e : Ex H G) : TW K G p q rt rw nb va ar pr rs g tm wh tw n2 mo pr' := ⟨h.tg.ext e, h.tw.ext e, h.mo.ext e⟩
section
variable {P : Program} {w : World} {K : PySem.W.Frag} {mg : Str → Option Value} {base : Heap} {f c : Addr} {A : Around} {outer : List Env} {s : Shared} {HX : Hp}
theorem tb7 (T : TN P w K mg base) (t2 : TabF K mg base) (hr : Room 80 (XT P w K mg base f c A outer s HX).A) : ∃ t, PS (XT P w K mg base f c A outer s HX) (stT 7) t ∧
    ∀ (D : Ends) (G : Hp) (p q rt rw nb : Addr) (va : V) (n : Int) (ar pr : List (Str × Nat)) (rs : List (Str × O)) (g : O) (tm wh : Addr) (c3 c4 c5 c6 c7 c8 c9 c10 c11 c12 : Option V),
      TG K (Hx (PQ p q) G) p q rt rw nb va ar pr rs g tm wh → Spr G p q n → n < 6900000 → Tabs (tabT K) G → Raw ar pr → RwR ar pr rs → GoR ar pr g →
      (∀ (G' : Hp) (n' : Int) (tw n2 mo : Addr) (pr' : List (Str × Nat)), Mo ar pr pr' → TW K (Hx (PQ p q) G') p q rt rw nb va ar pr rs g tm wh tw n2 mo pr' → Spr G' p q n' → n' ≤ n + 500 → Tabs (tabT K) G' → Go (PQ p q) G G' → D.nx [some (.ref p), some (.ref rt), some (.ref rw), c3, c4, c5, c6, c7, c8, some (.ref tw), some (.ref mo), c11, c12] G') →
      t D [some (.ref p), some (.ref rt), some (.ref rw), c3, c4, c5, c6, c7, c8, c9, c10, c11, c12] G := by
  obtain ⟨fM, dM, GM, bM, kM, mM⟩ := (ok_a_made T).ex
  obtain ⟨fI, fdI, MI, FI⟩ := T.mkT
  have GI := ok_tinit T t2 FI
  have bI := FI.bindsN (ps := ["self", "names", "axioms"]) (fun kV doc pm an cdv ct us hl => match us, hl with | [_, _, _], _ => rfl)
  obtain ⟨fN, fdN, MN, FN⟩ := T.mkN
  have GN := ok_ninit T FN
  have bN := FN.bindsN (ps := ["self", "functions", "predicates"]) (fun kV doc pm an cdv ct us hl => match us, hl with | [_, _, _], _ => rfl)
  refine ⟨_, ps_par (i := 9) (j := 10) rfl sc_tr.nd rfl rfl (by decide) rfl rfl (pa_cons (pe_make MI GI (hr.mono (by decide)) (by rfl) T.gT bI .nil passX (pa_cons (pe_call GM (hr.mono (by decide)) (by rfl) mM kM bM .nil pass0 (pa_cons (pv 0) (pa_cons (pv 1) pa_nil))) (pa_cons (pv 2) pa_nil)))
    (pa_cons (pe_make MN GN (hr.mono (by decide)) (by rfl) T.gN bN .nil pass0 (pa_cons (pe_ix ix_tup (pv 1) pe_int (fun _ _ => rfl)) (pa_cons (pe_op op_cat (pe_ix ix_tup (pv 1) pe_int (fun _ _ => rfl)) (pe_lst (pa_cons (pe_tup (pa_cons pe_str (pa_cons pe_int pa_nil))) pa_nil))) pa_nil))) pa_nil)) (by rfl), ?_⟩
  intro D G p q rt rw nb va n ar pr rs g tm wh c3 c4 c5 c6 c7 c8 c9 c10 c11 c12 F0 S hn hT R A0 g0 k
  have F := F0.ext hx_ex
  refine ⟨_, rfl, _, rfl, p, q, rt, n, ar, pr, rfl, S, by omega, F.tf.raw, R, fun n2 n1 G1 hN nbn S1 hn1 B1 => ⟨_, rfl, fun x dx nx ndx hne => ?_⟩⟩
  have F01 := F0.ext (go_pq B1).ex
  have F1 := F01.ext hx_ex
  obtain ⟨xs, hrw, hxs⟩ := F1.tf.rows
  have W := A0.f
  refine mk_theory (o := .lst (rs.map axO)) (rs := rs) nx ndx hne (tabs_but hT B1 S) (hN.ext hx_ex) R.d1 R.d2 A0 ⟨rw, xs, rfl, hrw, hxs⟩ (by show O.tup (O.strips _) = _; rw [W.st]) (by have := W.sz; show O.szs _ + 1 ≤ 9000; omega) fun G2 hth eN hT2 => ?_
  have g12 : Go (PQ p q) G1 G2 := Go.ofN eN
  have F02 := F01.ext g12.ex
  have F2 := F02.ext hx_ex
  have S2 := spr_extN S1 eN
  have hN2 : NmAt K (Hx (PQ p q) G2) n2 ar pr := (hN.ext (hx_mono (pq_old S))).ext g12.ex
  have hth2 : ThAt K (Hx (PQ p q) G2) x n2 rs := hth.ext (hx_mono (pq_old S1))
  obtain ⟨a, b, ys, zs, y1, na1, na2, nb1, nb2, ha, hb, hx, hy⟩ := F2.tf.raw.ex
  obtain ⟨pr', pm, sd⟩ := sort_ex (pr ++ [l9])
  have M : Mo ar pr pr' := ⟨pm, sd⟩
  refine ⟨_, rfl, rt, _, 0, .ref a, rfl, rfl, st_of y1, rfl, ?_⟩
  refine ⟨_, rfl, rt, _, 1, .ref b, rfl, rfl, st_of y1, rfl, ?_⟩
  refine ⟨by show 2 ≤ sizeLine; decide, fun t1 nt1 => ⟨by show 1 ≤ sizeLine; decide, fun t3 nt3 => ?_⟩⟩
  have e1 : Ex G2 (upd G2 t1 (.tup [.str "late9", .int 0])) := Ex.new nt1
  have e2 : Ex (upd G2 t1 (.tup [.str "late9", .int 0])) (upd (upd G2 t1 (.tup [.str "late9", .int 0])) t3 (.lst [.ref t1])) := Ex.new nt3
  have h1 : (upd (upd G2 t1 (.tup [.str "late9", .int 0])) t3 (.lst [.ref t1])) t1 = some (.tup [.str "late9", .int 0]) := e2 _ _ upd_same
  have h3 : (upd (upd G2 t1 (.tup [.str "late9", .int 0])) t3 (.lst [.ref t1])) t3 = some (.lst [.ref t1]) := upd_same
  generalize upd (upd G2 t1 (.tup [.str "late9", .int 0])) t3 (.lst [.ref t1]) = G3 at e2 h1 h3 ⊢
  have e23 := e1.trans e2
  have hyl : zs.length ≤ 12 := by rw [hy.length, List.length_map]; exact R.l2
  refine ⟨b, t3, zs, [.ref t1], rfl, rfl, e23 _ _ hb, h3, sz_of (by show zs.length + 1 ≤ 100000; omega), fun l nl => ?_⟩
  have e4 : Ex G3 (upd G3 l (.lst (zs ++ [.ref t1]))) := Ex.new nl
  have h4 : (upd G3 l (.lst (zs ++ [.ref t1]))) l = some (.lst (zs ++ [.ref t1])) := upd_same
  generalize upd G3 l (.lst (zs ++ [.ref t1])) = G4 at e4 h4 ⊢
  have e24 := e23.trans e4
  intro x2 dx2 nx2 ndx2 hne2
  refine mk_names (o1 := .lst (ar.map prO)) (o2 := .lst ((pr ++ [l9]).map prO)) (ps := ar) (qs := pr ++ [l9]) nx2 ndx2 hne2 ⟨a, ys, rfl, e24 _ _ ha, hx.ext e24⟩ ⟨l, _, rfl, h4, ?_⟩ (by show O.tup (O.strips _) = _; rw [prs_strip]) (by show O.tup (O.strips _) = _; rw [prs_strip]) (M.ok R).1 (.refl _) R.s1 pm sd fun G5 hM e5 => ?_
  · rw [List.map_append]
    exact OVs.append (hy.ext e24) (.cons ⟨t1, _, rfl, e4 _ _ h1, .cons rfl (.cons rfl .nil)⟩ .nil)
  have e25 := e24.trans e5
  have g25 : Go (PQ p q) G2 G5 := Go.of e25
  have S5 := S2.ext e25
  exact ⟨_, _, rfl, k G5 n1 x n2 x2 pr' M ⟨F02.ext g25.ex, ⟨hth2.ext g25.ex, hN2.ext g25.ex⟩, hM.ext (hx_mono (pq_old (S2.ext e24)))⟩ S5 (by omega) (hT2.ext e25) (((go_pq B1).trans g12).trans g25)⟩
end
end K02

set_option Elab.async false
set_option linter.all false
set_option maxRecDepth 100000
set_option maxHeartbeats 4000000
/-! _law_told_right: other theories. -/
namespace K02
open PySem PySem.Spec PyProof.Rows L2 Evl LamX
theorem atI_last {α : Type} {xs : List α} {v : α} (h : xs.getLast? = some v) : atI xs (-1) = some v := by
  cases xs with
  | nil => cases h
  | cons x xs =>
    unfold atI ixN
    rw [List.getLast?_eq_getElem?] at h
    have e : (x :: xs).length = xs.length + 1 := rfl
    rw [e] at h ⊢
    rw [if_neg (by decide), if_pos (by omega)]
    have e2 : (-1 + ((xs.length + 1 : Nat) : Int)).toNat = xs.length := by omega
    rw [e2]
    exact h
theorem cut_dl (xs : List V) : cutV xs none (some (-1)) = xs.dropLast := by
  unfold cutV
  rw [List.dropLast_eq_take]
  have : HT.sIx xs.length xs.length (some (-1)) = xs.length - 1 := by
    unfold HT.sIx
    simp only [show (-1 : Int) < 0 by decide, if_true]
    omega
  rw [this, HT.sIx_none]
  simp
theorem OVs.drop {G : Hp} : ∀ {k : Nat} {xs : List V} {os : List O}, OVs G xs os → OVs G (xs.drop k) (os.drop k)
  | 0, xs, os, h => h
  | k + 1, xs, [], h => by
    obtain rfl : xs = [] := h
    exact .nil
  | k + 1, xs, o :: os, ⟨v, us, e, h1, h2⟩ => by
    subst e
    exact OVs.drop (k := k) h2
theorem OVs.take {G : Hp} : ∀ {k : Nat} {xs : List V} {os : List O}, OVs G xs os → OVs G (xs.take k) (os.take k)
  | 0, xs, os, h => .nil
  | k + 1, xs, [], h => by
    obtain rfl : xs = [] := h
    exact .nil
  | k + 1, xs, o :: os, ⟨v, us, e, h1, h2⟩ => by
    subst e
    exact .cons h1 (OVs.take (k := k) h2)
/-- rows as they are drawn -/
structure RwS (ar pr : List (Str × Nat)) (rs : List (Str × O)) : Prop where
  r : RwR ar pr rs
  nine : ∀ a ∈ rs, a.1 ≠ "late9"
  len : rs.length ≤ 5
  dr : ∀ a ∈ rs, Dr a.2 60 900
abbrev lateR (g : O) : Str × O := ("late9", g)
structure GoT (ar pr : List (Str × Nat)) (g : O) : Prop where
  r : GoR ar pr g
  dr : Dr g 60 900
theorem go_not {ar pr : List (Str × Nat)} {g : O} (h : SnP ar pr [] 60 900 g) : GoR ar pr (.tup [.str "not", g]) := by
  have := sn_not h
  exact ⟨this.fit, this.dr.mono (by decide) (by decide), rfl⟩
theorem GoT.sn {ar pr : List (Str × Nat)} {g : O} (h : GoT ar pr g) : SnP ar pr [] 60 900 g := ⟨h.r.fit, h.dr, h.r.tp⟩
section
variable {ar pr : List (Str × Nat)} {rs : List (Str × O)} {g : O}
theorem RwS.sub (A : RwS ar pr rs) {qs : List (Str × O)} (hs : ∀ a ∈ qs, a ∈ rs) (nd : (qs.map (·.1)).Nodup) (hl : qs.length ≤ 7) : RwR ar pr qs := ⟨fun r h => A.r.nm r (hs r h), fun r h => A.r.sn r (hs r h), fun r h => A.r.dr r (hs r h), nd, hl⟩
theorem RwS.late (A : RwS ar pr rs) (g0 : GoT ar pr g) : RwR ar pr (rs ++ [lateR g]) := by
  have h9 : nameB "late9" = true ∧ ("late9" : Str) ∈ SS := by decide +kernel
  refine ⟨fun r h => ?_, fun r h => ?_, fun r h => ?_, ?_, by rw [List.length_append]; have := A.len; show rs.length + 1 ≤ 7; omega⟩
  · rcases List.mem_append.mp h with h | h
    · exact A.r.nm r h
    · obtain rfl := List.mem_singleton.mp h
      exact h9
  · rcases List.mem_append.mp h with h | h
    · exact A.r.sn r h
    · obtain rfl := List.mem_singleton.mp h
      exact g0.r.fit
  · rcases List.mem_append.mp h with h | h
    · exact A.r.dr r h
    · obtain rfl := List.mem_singleton.mp h
      exact g0.r.dr
  · rw [List.map_append, List.nodup_append]
    refine ⟨A.r.nd, by simp, fun a ha b hb e => ?_⟩
    obtain rfl : b = "late9" := by simpa using hb
    obtain ⟨r, hr, he⟩ := List.mem_map.mp ha
    exact A.nine r hr (he.trans e)
theorem RwS.tail (A : RwS ar pr rs) : RwR ar pr (rs.drop 1) := A.sub (fun a h => List.mem_of_mem_drop h) (by rw [List.map_drop]; exact (List.drop_sublist _ _).nodup A.r.nd) (by have := A.len; rw [List.length_drop]; omega)
theorem RwS.turn (A : RwS ar pr rs) : RwR ar pr (rs.drop 1 ++ rs.take 1) := by
  have pm : (rs.drop 1 ++ rs.take 1).Perm rs := by
    have := List.perm_append_comm (l₁ := rs.drop 1) (l₂ := rs.take 1)
    rw [List.take_append_drop] at this
    exact this
  exact A.sub (fun a h => pm.mem_iff.mp h) ((pm.map (·.1)).nodup_iff.mpr A.r.nd) (by have := A.len; rw [pm.length_eq]; omega)
theorem turn_ne (A : RwS ar pr rs) (h : 1 < rs.length) : rs.drop 1 ++ rs.take 1 ≠ rs := by
  match rs, h with
  | a :: b :: l, _ =>
    intro e
    have e : b :: l ++ [a] = a :: b :: l := e
    have e1 : b = a := (List.cons.inj e).1
    have := A.r.nd
    rw [e1] at this
    simp at this
/-- the last row, its sentence with not -/
def notLast (rs : List (Str × O)) : List (Str × O) := rs.dropLast ++ (rs.getLast?.map fun r => (r.1, .tup [.str "not", r.2])).toList
theorem notLast_eq {qs : List (Str × O)} {r : Str × O} : notLast (qs ++ [r]) = qs ++ [(r.1, .tup [.str "not", r.2])] := by
  unfold notLast
  rw [List.dropLast_concat, List.getLast?_concat]
  rfl
theorem notLast_ok {qs : List (Str × O)} {r : Str × O} (A : RwS ar pr (qs ++ [r])) : RwR ar pr (qs ++ [(r.1, .tup [.str "not", r.2])]) ∧ qs ++ [(r.1, .tup [.str "not", r.2])] ≠ qs ++ [r] := by
  have hr : r ∈ qs ++ [r] := by simp
  have hl := A.len
  rw [List.length_append] at hl
  have hl : qs.length + 1 ≤ 5 := hl
  have hn := go_not (g := r.2) ⟨A.r.sn r hr, A.dr r hr, by
    have := A.r.sn r hr
    cases h : r.2 with
    | tup xs => rfl
    | lst xs => have := (A.dr r hr).noL; rw [h] at this; cases this
    | _ => rw [h, O.fitS] at this; cases this⟩
  refine ⟨⟨fun a h => ?_, fun a h => ?_, fun a h => ?_, ?_, by rw [List.length_append]; show qs.length + 1 ≤ 7; omega⟩, fun e => ?_⟩
  · rcases List.mem_append.mp h with h | h
    · exact A.r.nm a (List.mem_append_left _ h)
    · obtain rfl := List.mem_singleton.mp h
      exact A.r.nm r hr
  · rcases List.mem_append.mp h with h | h
    · exact A.r.sn a (List.mem_append_left _ h)
    · obtain rfl := List.mem_singleton.mp h
      exact hn.fit
  · rcases List.mem_append.mp h with h | h
    · exact A.r.dr a (List.mem_append_left _ h)
    · obtain rfl := List.mem_singleton.mp h
      exact hn.dr
  · have := A.r.nd
    rw [List.map_append] at this ⊢
    exact this
  · have e := List.append_cancel_left e
    have e : ((r.1, O.tup [.str "not", r.2]) : Str × O) = r := (List.cons.inj e).1
    have e2 : O.tup [.str "not", r.2] = r.2 := congrArg Prod.snd e
    have e3 := congrArg O.dp e2
    have e4 : (O.tup [.str "not", r.2]).dp = max 0 (max r.2.dp 0) + 1 := rfl
    omega
end
/-- other theories of the same names -/
def OthS (K : PySem.W.Frag) (H : Hp) (nb : Addr) (ar pr : List (Str × Nat)) (rs : List (Str × O)) (ys : List V) : Prop := ∀ y ∈ ys, ∃ t axs, y = .ref t ∧ ThAt K H t nb axs ∧ AxS axs ∧ axs ≠ rs
theorem OthS.ext {K : PySem.W.Frag} {H G : Hp} {nb : Addr} {ar pr : List (Str × Nat)} {rs : List (Str × O)} {ys : List V} (h : OthS K H nb ar pr rs ys) (e : Ex H G) : OthS K G nb ar pr rs ys := fun y hy => let ⟨t, axs, a, b, c, d⟩ := h y hy; ⟨t, axs, a, b.ext e, c, d⟩
theorem OthS.put {K : PySem.W.Frag} {H : Hp} {nb : Addr} {ar pr : List (Str × Nat)} {rs : List (Str × O)} {ys : List V} {t : Addr} {axs : List (Str × O)} (h : OthS K H nb ar pr rs ys) (h1 : ThAt K H t nb axs) (h2 : AxS axs) (h3 : axs ≠ rs) : OthS K H nb ar pr rs (ys ++ [.ref t]) := fun y hy => by
  rcases List.mem_append.mp hy with hy | hy
  · exact h y hy
  · obtain rfl := List.mem_singleton.mp hy
    exact ⟨t, axs, rfl, h1, h2, h3⟩
section
variable {K : PySem.W.Frag} {σ : L2.St} {H : Hp}
theorem rv_neD {u v : V} {a b : O} (h1 : OV H u a) (h2 : OV H v b) (e1 : a.ed = true) (e2 : b.ed = true) (d1 : a.dp ≤ 64) (d2 : b.dp ≤ 64) : RV (rNeD K) u v H (.bl (!a.eqv b)) := fun H1 e Q q =>
  ⟨a.py, b.py, OV.dpd (h1.ext e) e1, OV.dpd (h2.ext e) e2, O.shaped64 e1 d1, O.shaped64 e2 d2, q H1 (Ex.refl _)⟩
theorem et_neE {i : Nat} {c : Addr} {xs : List V} {os : List O} (hs : σ[i]? = some (some (.ref c))) (hc : H c = some (.lst xs)) (ho : OVs H xs os) (he : O.eds os = true) (hd : O.dps os ≤ 62) : EvT (tTest (tOp (rNeD K) (tVar i) (tLst tNil))) σ H (!os.isEmpty) := by
  refine et_is (et_test (ev_opO (a := .lst os) (b := .lst []) (eo_var hs ⟨c, xs, rfl, hc, ho⟩) (eo_lst eao_nil (by decide)) fun u w G eG hu hw' => rv_neD hu hw' he rfl (by show O.dps os + 1 ≤ 64; omega) (by decide))) ?_
  rw [eqv_nilL]
end
section
variable {P : Program} {w : World} {K : PySem.W.Frag} {mg : Str → Option Value} {base : Heap} {f c : Addr} {A : Around} {outer : List Env} {s : Shared} {HX : Hp}
abbrev tMk2 (K : PySem.W.Frag) (t1 t2 : TE) : TE := tMake (CT K) (spTi K) [] E0 (tCons t1 (tCons t2 tNil))
/-- Theory(names, rows) told -/
theorem mkT {σ : L2.St} {H : Hp} {t1 t2 : TE} {n a : Addr} {xs : List V} {ar pr : List (Str × Nat)} {rs : List (Str × O)} {Q : VK} (h1 : Ev t1 σ H (.ref n)) (h2 : EvLP t2 σ H (fun xs G => OVs G xs (rs.map axO))) (hT : Tabs (tabT K) H) (hN : NmAt K H n ar pr) (R1 : (ar.map (·.1)).Nodup) (R2 : (pr.map (·.1)).Nodup) (A0 : RwR ar pr rs)
    (k : ∀ x H', H x = none → ThAt K (Hx (Old H) H') x n rs → ExtN H H' → Tabs (tabT K) H' → Q (.ref x) H') : tMk2 K t1 t2 σ H Q :=
  h1 H (Ex.refl _) _ fun G1 e1 => h2 G1 e1 _ fun p xs G2 np e2 hp hov => fun x dx nx ndx hne => by
    have W := A0.f
    have e12 := e1.trans e2
    exact mk_theory (o := .lst (rs.map axO)) (rs := rs) nx ndx hne (hT.ext e12) (hN.ext e12) R1 R2 A0 ⟨p, xs, rfl, hp, hov⟩ (by show O.tup (O.strips _) = _; rw [W.st]) (by have := W.sz; show O.szs _ + 1 ≤ 9000; omega) fun G3 hth eN hT2 => k x G3 (fresh_back e12 nx) (hth.ext (hx_mono fun b hb => Old.ex e12 hb)) (fun b u hb hu => eN b u (e12 _ _ hb) hu) hT2
theorem mkTv {σ : L2.St} {H : Hp} {t1 t2 : TE} {n a : Addr} {xs : List V} {ar pr : List (Str × Nat)} {rs : List (Str × O)} {Q : VK} (h1 : Ev t1 σ H (.ref n)) (h2 : Ev t2 σ H (.ref a)) (ha : H a = some (.lst xs)) (hx : OVs H xs (rs.map axO)) (hT : Tabs (tabT K) H) (hN : NmAt K H n ar pr) (R1 : (ar.map (·.1)).Nodup) (R2 : (pr.map (·.1)).Nodup) (A0 : RwR ar pr rs)
    (k : ∀ x H', H x = none → ThAt K (Hx (Old H) H') x n rs → ExtN H H' → Tabs (tabT K) H' → Q (.ref x) H') : tMk2 K t1 t2 σ H Q :=
  h1 H (Ex.refl _) _ fun G1 e1 => h2 G1 e1 _ fun G2 e2 => fun x dx nx ndx hne => by
    have W := A0.f
    have e12 := e1.trans e2
    exact mk_theory (o := .lst (rs.map axO)) (rs := rs) nx ndx hne (hT.ext e12) (hN.ext e12) R1 R2 A0 ⟨a, xs, rfl, e12 _ _ ha, hx.ext e12⟩ (by show O.tup (O.strips _) = _; rw [W.st]) (by have := W.sz; show O.szs _ + 1 ≤ 9000; omega) fun G3 hth eN hT2 => k x G3 (fresh_back e12 nx) (hth.ext (hx_mono fun b hb => Old.ex e12 hb)) (fun b u hb hu => eN b u (e12 _ _ hb) hu) hT2
theorem s_asgR {σ : L2.St} {H : Hp} {te : TE} {D : Ends} {i : Nat} (h : te σ H fun v H1 => D.nx (σ.set i (some v)) H1) : tAsg te (gName i) D σ H := h
theorem lst2 {σ : L2.St} {H : Hp} {t1 t2 : TE} {Q : VK} (h : t1 σ H fun v H1 => t2 σ H1 fun w H2 => 2 ≤ sizeLine ∧ ∀ p, H2 p = none → Q (.ref p) (upd H2 p (.lst [v, w]))) : tLst (tCons t1 (tCons t2 tNil)) σ H Q := h
/-- nothing stands there but a table -/
def NoO (H : Hp) (b : Addr) : Prop := ∀ u, (∀ ps, u ≠ .tbl ps) → H b ≠ some u
theorem noo_of {p q b : Addr} {H G : Hp} {n : Int} (S : Spr G p q n) (g : Go (PQ p q) H G) (h : G b = none) : NoO H b := fun u hu hb => by
  have nn := S.nep h
  rw [g b u (by rintro (z | z); exact nn.1 z; exact nn.2 z) hu hb] at h
  cases h
theorem tb8 (T : TN P w K mg base) (t2 : TabF K mg base) (hr : Room 80 (XT P w K mg base f c A outer s HX).A) : ∃ t, PS (XT P w K mg base f c A outer s HX) (stT 8) t ∧
    ∀ (D : Ends) (G : Hp) (p q rt rw nb : Addr) (va : V) (n : Int) (ar pr pr' : List (Str × Nat)) (rs : List (Str × O)) (g : O) (tm wh tw n2 mo : Addr) (c0 c1 c5 c6 c7 c8 c9 c11 c12 : Option V),
      TW K (Hx (PQ p q) G) p q rt rw nb va ar pr rs g tm wh tw n2 mo pr' → Spr G p q n → Tabs (tabT K) G → Raw ar pr → Mo ar pr pr' → RwS ar pr rs → GoT ar pr g →
      (∀ (G' : Hp) (ot o0 : Addr) (ys : List V), NoO G ot → G' ot = some (.lst (.ref o0 :: ys)) → ys.length ≤ 1 → TW K (Hx (fun b => PQ p q b ∨ b = ot) G') p q rt rw nb va ar pr rs g tm wh tw n2 mo pr' → ThAt K (Hx (fun b => PQ p q b ∨ b = ot) G') o0 mo rs → OthS K (Hx (fun b => PQ p q b ∨ b = ot) G') nb ar pr rs ys → Tabs (tabT K) G' → Go (PQ p q) G G' → Spr G' p q n →
        D.nx [c0, c1, some (.ref rw), some va, some (.ref nb), c5, c6, c7, c8, c9, some (.ref mo), some (.ref ot), c12] G') →
      t D [c0, c1, some (.ref rw), some va, some (.ref nb), c5, c6, c7, c8, c9, some (.ref mo), c11, c12] G := by
  obtain ⟨fI, fdI, MI, FI⟩ := T.mkT
  have GI := ok_tinit T t2 FI
  have bI := FI.bindsN (ps := ["self", "names", "axioms"]) (fun kV doc pm an cdv ct us hl => match us, hl with | [_, _, _], _ => rfl)
  refine ⟨_, ps_set (i := 11) sc_tr.nd rfl (by first | exact Or.inl rfl | exact Or.inr rfl) (pe_lst (pa_cons (pe_make MI GI (hr.mono (by decide)) (by rfl) T.gT bI .nil passX (pa_cons (pv 10) (pa_cons (pv 2) pa_nil)))
    (pa_cons (pe_make MI GI (hr.mono (by decide)) (by rfl) T.gT bI .nil passX (pa_cons (pv 4) (pa_cons (pe_op op_cat (pv 2) (pe_lst (pa_cons (pe_tup (pa_cons pe_str (pa_cons (pv 3) pa_nil))) pa_nil))) pa_nil))) pa_nil))), ?_⟩
  intro D G p q rt rw nb va n ar pr pr' rs g tm wh tw n2 mo c0 c1 c5 c6 c7 c8 c9 c11 c12 F0 S hT R M A0 g0 k
  have F := F0.ext hx_ex
  have Mk := M.ok R
  obtain ⟨xs, hrw, hxs⟩ := F.tg.tf.rows
  refine s_asgR (lst2 ?_)
  refine mkTv (K := K) (σ := [c0, c1, some (.ref rw), some va, some (.ref nb), c5, c6, c7, c8, c9, some (.ref mo), c11, c12]) (a := rw) (ev_var (i := 10) rfl) (ev_var (i := 2) rfl) hrw hxs hT F.mo R.d1 Mk.2.1 (M.rows R A0.r) fun o0 G1 n0 h0 e1 hT1 => ?_
  have g1 : Go (PQ p q) G G1 := Go.ofN e1
  have F01 := F0.ext g1.ex
  have F1 := F01.ext hx_ex
  obtain ⟨xs1, hrw1, hxs1⟩ := F1.tg.tf.rows
  have h01 : ThAt K (Hx (PQ p q) G1) o0 mo rs := h0.ext (hx_mono (pq_old S))
  have S1 := spr_extN S e1
  refine mkT (K := K) (σ := [c0, c1, some (.ref rw), some va, some (.ref nb), c5, c6, c7, c8, c9, some (.ref mo), c11, c12]) (n := nb) (a := rw) (xs := []) (rs := rs ++ [lateR g]) (t2 := tOp rCat (tVar 2) (tLst (tCons (tTup (tCons (tC (.str "late9")) (tCons (tVar 3) tNil))) tNil))) (ev_var (i := 4) rfl) ?_ hT1 F1.tg.tf.nam R.d1 R.d2 (A0.late g0) fun o1 G2 n1 h1 e2 hT2 => ?_
  · have := elp_catV (σ := [c0, c1, some (.ref rw), some va, some (.ref nb), c5, c6, c7, c8, c9, some (.ref mo), c11, c12]) (ta := tVar 2) (tb := tLst (tCons (tTup (tCons (tC (.str "late9")) (tCons (tVar 3) tNil))) tNil)) (P := fun zs G => OVs G zs [axO (lateR g)]) (ev_var rfl) hrw1 (fun H1 e Q q => eao_cons (eo_tup (eao_cons eo_str (eao_cons (eo_var (i := 3) rfl F1.tg.tf.aim) eao_nil)) (by show 2 ≤ 1000; decide)) eao_nil H1 e _ fun zs H2 e2 hz => ⟨sz_of (by rw [hz.length]; show 1 ≤ 100000; decide), fun p hp => q p zs _ (fresh_back e2 hp) (e2.trans (Ex.new hp)) upd_same (hz.ext (Ex.new hp))⟩) (fun _ => up_ovs) (fun ys J h => by
        have h1 := hxs1.length
        rw [List.length_map] at h1
        have h2 := h.length
        have h3 : ([axO (lateR g)] : List O).length = 1 := rfl
        have := A0.len
        omega)
    exact fun J e Q q => this J e Q fun a zs J2 ha e' hx ⟨ys, hy, hov⟩ => q a zs J2 ha e' hx (by rw [hy, List.map_append]; exact OVs.append (hxs1.ext (e.trans e')) hov)
  have g2 : Go (PQ p q) G1 G2 := Go.ofN e2
  have F02 := F01.ext g2.ex
  refine ⟨by show 2 ≤ sizeLine; decide, fun ot not => ?_⟩
  have eo : Ex G2 (upd G2 ot (.lst [.ref o0, .ref o1])) := Ex.new not
  have hsub : Ex (Hx (PQ p q) G2) (Hx (fun b => PQ p q b ∨ b = ot) (upd G2 ot (.lst [.ref o0, .ref o1]))) := fun b u h => by
    obtain ⟨a1, a2, a3⟩ := hx_to h
    exact hx_of (fun z => z.elim a1 fun z => by rw [z, not] at a3; cases a3) a2 (eo _ _ a3)
  have not0 : NoO G ot := noo_of (spr_extN S1 e2) (g1.trans g2) not
  refine k _ ot o0 [.ref o1] not0 upd_same (Nat.le_refl _) (F02.ext hsub) ((h01.ext g2.ex).ext hsub) (fun y hy => ?_) (hT2.ext eo) ((g1.trans g2).trans (Go.of eo)) ((spr_extN S1 e2).ext eo)
  obtain rfl := List.mem_singleton.mp hy
  exact ⟨o1, _, rfl, (h1.ext (hx_mono (pq_old S1))).ext hsub, (A0.late g0).axs, fun e => by have := congrArg List.length e; rw [List.length_append] at this; have h : rs.length + 1 = rs.length := this; omega⟩
end
end K02

set_option Elab.async false
set_option linter.all false
set_option maxRecDepth 100000
set_option maxHeartbeats 4000000
/-! _law_told_right: other theories put behind. -/
namespace K02
open PySem PySem.Spec PyProof.Rows L2 Evl LamX
abbrev Zo (p q ot : Addr) (b : Addr) : Prop := PQ p q b ∨ b = ot
/-- what stands, the others at ot -/
structure OF (K : PySem.W.Frag) (G : Hp) (p q : Addr) (n : Int) (rt rw nb : Addr) (va : V) (ar pr : List (Str × Nat)) (rs : List (Str × O)) (g : O) (tm wh tw n2 mo : Addr) (pr' : List (Str × Nat)) (ot o0 : Addr) (ys : List V) (m : Nat) : Prop where
  lst : G ot = some (.lst (.ref o0 :: ys))
  tw : TW K (Hx (Zo p q ot) G) p q rt rw nb va ar pr rs g tm wh tw n2 mo pr'
  o0 : ThAt K (Hx (Zo p q ot) G) o0 mo rs
  oth : OthS K (Hx (Zo p q ot) G) nb ar pr rs ys
  len : ys.length ≤ m
  spr : Spr G p q n
  tabs : Tabs (tabT K) G
  np : ot ≠ p
  nq : ot ≠ q
theorem elp_ofE {σ : L2.St} {H : Hp} {te : TE} {xs : List V} {P : List V → Hp → Prop} (h : EvL te σ H xs) (hp : ∀ G, Ex H G → P xs G) : EvLP te σ H P := fun H1 e Q q => h H1 e _ fun p H2 np e2 h2 => q p _ _ np e2 h2 (hp _ (e.trans e2))
theorem EvLP.mono {σ : L2.St} {H G : Hp} {te : TE} {P : List V → Hp → Prop} (h : EvLP te σ H P) (e : Ex H G) : EvLP te σ G P := fun H1 e1 => h H1 (e.trans e1)
section
variable {K : PySem.W.Frag} {σ : L2.St} {G : Hp} {p q : Addr} {n : Int} {rt rw nb : Addr} {va : V} {ar pr : List (Str × Nat)} {rs qs : List (Str × O)} {g : O} {tm wh tw n2 mo : Addr} {pr' : List (Str × Nat)} {ot o0 : Addr} {ys : List V} {m : Nat} {D : Ends} {t : TT} {te : TE} {b : Bool}
theorem lst1 {H : Hp} {t1 : TE} {Q : VK} (h : t1 σ H fun v H1 => 1 ≤ sizeLine ∧ ∀ p, H1 p = none → Q (.ref p) (upd H1 p (.lst [v]))) : tLst (tCons t1 tNil) σ H Q := h
theorem elp_lit1 {te : TE} {o : O} (h : EvO te σ G o) : EvLP (tLst (tCons te tNil)) σ G (fun zs J => OVs J zs [o]) := fun H1 e Q q => h H1 e _ fun v H2 e2 hv => ⟨by show 1 ≤ sizeLine; decide, fun p hp => q p [v] _ (fresh_back e2 hp) (e2.trans (Ex.new hp)) upd_same (.cons (hv.ext (Ex.new hp)) .nil)⟩
abbrev tNeg1 : TE := tUn (rU fun i => .int (-i)) (tC (.int 1))
theorem ev_neg1 : Ev tNeg1 σ G (.int (-1)) := fun H1 e Q q => ⟨1, rfl, q H1 (Ex.refl _)⟩
/-- one more at most -/
theorem of_put {G' : Hp} {x : Addr} (F : OF K G p q n rt rw nb va ar pr rs g tm wh tw n2 mo pr' ot o0 ys m) (e : ExtN G G') (hx : ThAt K (Hx (Old G) G') x nb qs) (A0 : RwR ar pr qs) (ne : qs ≠ rs) (hT : Tabs (tabT K) G') : OF K (upd G' ot (.lst (.ref o0 :: (ys ++ [.ref x])))) p q n rt rw nb va ar pr rs g tm wh tw n2 mo pr' ot o0 (ys ++ [.ref x]) (m + 1) ∧ Go (Zo p q ot) G (upd G' ot (.lst (.ref o0 :: (ys ++ [.ref x])))) := by
  have g1 : Go (Zo p q ot) G G' := Go.ofN e
  have g2 : Go (Zo p q ot) G' (upd G' ot (.lst (.ref o0 :: (ys ++ [.ref x])))) := Go.upd (.inr rfl)
  have gg := g1.trans g2
  have zo : ∀ b, Zo p q ot b → Old G b := fun b hb => by
    rcases hb with hb | rfl
    · exact pq_old F.spr b hb
    · exact ⟨_, F.lst⟩
  have S1 := spr_extN F.spr e
  refine ⟨⟨upd_same, F.tw.ext gg.ex, F.o0.ext gg.ex, (F.oth.ext gg.ex).put ((hx.ext (hx_mono zo)).ext g2.ex) A0.axs ne, by rw [List.length_append]; have := F.len; show ys.length + 1 ≤ m + 1; omega, S1.set F.np F.nq, tabs_keep hT fun b u hb nl _ => ?_, F.np, F.nq⟩, gg⟩
  have h4 := e _ _ F.lst lst_tbl
  rw [upd_ne (fun z => by rw [z, h4] at hb; exact nl _ (Option.some.inj hb).symm)]
  exact hb
theorem of_ext {G' : Hp} (F : OF K G p q n rt rw nb va ar pr rs g tm wh tw n2 mo pr' ot o0 ys m) (e : Ex G G') : OF K G' p q n rt rw nb va ar pr rs g tm wh tw n2 mo pr' ot o0 ys m :=
  have g1 : Go (Zo p q ot) G G' := Go.of e
  ⟨e _ _ F.lst, F.tw.ext g1.ex, F.o0.ext g1.ex, F.oth.ext g1.ex, F.len, F.spr.ext e, F.tabs.ext e, F.np, F.nq⟩
theorem OF.mono {m' : Nat} (F : OF K G p q n rt rw nb va ar pr rs g tm wh tw n2 mo pr' ot o0 ys m) (h : m ≤ m') : OF K G p q n rt rw nb va ar pr rs g tm wh tw n2 mo pr' ot o0 ys m' := ⟨F.lst, F.tw, F.o0, F.oth, Nat.le_trans F.len h, F.spr, F.tabs, F.np, F.nq⟩
theorem upd_id {H : Hp} {a : Addr} {o : HO} (h : H a = some o) : upd H a o = H := by
  funext b
  by_cases e : b = a
  · rw [e, upd_same, h]
  · rw [upd_ne e]
theorem ext_th (F : OF K G p q n rt rw nb va ar pr rs g tm wh tw n2 mo pr' ot o0 ys m) (hm : m ≤ 10) (R : Raw ar pr) (i11 : σ[11]? = some (some (.ref ot))) (i4 : σ[4]? = some (some (.ref nb))) (hb : EvT t σ G b) (h2 : b = true → EvLP te σ G (fun xs J => OVs J xs (qs.map axO)) ∧ RwR ar pr qs ∧ qs ≠ rs)
    (k : ∀ G' ys', OF K G' p q n rt rw nb va ar pr rs g tm wh tw n2 mo pr' ot o0 ys' (m + 1) → Go (Zo p q ot) G G' → D.nx σ G') : tDrop (tBM K "list" rExtend (tVar 11) (tCons (tIf t (tLst (tCons (tMk2 K (tVar 4) te) tNil)) (tLst tNil)) tNil)) D σ G :=
  ⟨_, i11, .inl ⟨rfl, _, sq_of F.lst⟩, hb G (Ex.refl _) _ fun G1 e1 => by
    have F1 := of_ext F e1
    have hlen := F.len
    cases b with
    | true =>
      rw [if_pos rfl]
      obtain ⟨h2, A0, ne⟩ := h2 rfl
      refine lst1 (mkT (K := K) (σ := σ) (a := ot) (xs := []) (rs := qs) (t2 := te) (ev_var i4) (h2.mono e1) F1.tabs (F1.tw.tg.tf.nam.ext hx_ex) R.d1 R.d2 A0 fun x G2 nx hth e2 hT2 => ⟨by show 1 ≤ sizeLine; decide, fun l nl => ?_⟩)
      have el : Ex G2 (upd G2 l (.lst [.ref x])) := Ex.new nl
      have e12 : ExtN G1 (upd G2 l (.lst [.ref x])) := fun b u hb hu => el _ _ (e2 _ _ hb hu)
      have := of_put F1 e12 (hth.ext (Go.of el).ex) A0 ne (hT2.ext el)
      exact ⟨ot, l, .ref o0 :: ys, [.ref x], rfl, rfl, e12 _ _ F1.lst lst_tbl, upd_same, sz_of (by show ys.length + 1 + 1 ≤ 100000; omega), k _ _ this.1 ((Go.of e1).trans this.2)⟩
    | false =>
      rw [if_neg (by decide)]
      refine ⟨by show 0 ≤ sizeLine; omega, fun l nl => ?_⟩
      have el : Ex G1 (upd G1 l (.lst [])) := Ex.new nl
      have F2 := of_ext F1 el
      refine ⟨ot, l, .ref o0 :: ys, [], rfl, rfl, F2.lst, upd_same, sz_of (by show ys.length + 1 + 0 ≤ 100000; omega), ?_⟩
      rw [List.append_nil, upd_id F2.lst]
      exact k _ ys (F2.mono (by omega)) (Go.of (e1.trans el))⟩
end
section
variable {P : Program} {w : World} {K : PySem.W.Frag} {mg : Str → Option Value} {base : Heap} {f c : Addr} {A : Around} {outer : List Env} {s : Shared} {HX : Hp}
theorem tb9 (T : TN P w K mg base) (t2 : TabF K mg base) (hr : Room 80 (XT P w K mg base f c A outer s HX).A) : ∃ t, PS (XT P w K mg base f c A outer s HX) (stT 9) t ∧
    ∀ (D : Ends) (G : Hp) (p q rt rw nb : Addr) (va : V) (n : Int) (ar pr pr' : List (Str × Nat)) (rs : List (Str × O)) (g : O) (tm wh tw n2 mo ot o0 : Addr) (ys : List V) (c0 c1 c3 c5 c6 c7 c8 c9 c10 c12 : Option V),
      OF K G p q n rt rw nb va ar pr rs g tm wh tw n2 mo pr' ot o0 ys 1 → Raw ar pr → RwS ar pr rs →
      (∀ G' ys', OF K G' p q n rt rw nb va ar pr rs g tm wh tw n2 mo pr' ot o0 ys' 2 → Go (Zo p q ot) G G' → D.nx [c0, c1, some (.ref rw), c3, some (.ref nb), c5, c6, c7, c8, c9, c10, some (.ref ot), c12] G') →
      t D [c0, c1, some (.ref rw), c3, some (.ref nb), c5, c6, c7, c8, c9, c10, some (.ref ot), c12] G := by
  obtain ⟨fI, fdI, MI, FI⟩ := T.mkT
  have GI := ok_tinit T t2 FI
  have bI := FI.bindsN (ps := ["self", "names", "axioms"]) (fun kV doc pm an cdv ct us hl => match us, hl with | [_, _, _], _ => rfl)
  refine ⟨_, ps_expr (pe_bm PySem.F.plainAttrs_list PySem.F.slot_list_extend PySem.F.type_list_extend mt_extend (pv 11) (pa_cons (pe_ifExp (pt_cmpR (op_neD hr.units) (pv 2) (pe_lst pa_nil) (nomark _))
    (pe_lst (pa_cons (pe_make MI GI (hr.mono (by decide)) (by rfl) T.gT bI .nil passX (pa_cons (pv 4) (pa_cons (pe_slice sl_list (pv 2) (po_some pe_int) po_none) pa_nil))) pa_nil)) (pe_lst pa_nil)) pa_nil)), ?_⟩
  intro D G p q rt rw nb va n ar pr pr' rs g tm wh tw n2 mo ot o0 ys c0 c1 c3 c5 c6 c7 c8 c9 c10 c12 F R A0 k
  obtain ⟨xs, hrw, hxs⟩ := F.tw.tg.tf.rows
  have hrw := hx_ex _ _ hrw
  have hxs := hxs.ext hx_ex
  have W := A0.r.f
  refine ext_th (qs := rs.drop 1) F (by decide) R rfl rfl (et_neE (os := rs.map axO) rfl hrw hxs W.ed W.dp) (fun hb => ⟨?_, A0.tail, fun e => ?_⟩) k
  · have := elp_ofE (P := fun xs J => OVs J xs ((rs.drop 1).map axO)) (el_sl (K := K) (σ := [c0, c1, some (.ref rw), c3, some (.ref nb), c5, c6, c7, c8, c9, c10, some (.ref ot), c12]) (te := tVar 2) (ev_var rfl) (eo_some (i := 1) ev_c) eo_none (sq_of hrw)) fun J eJ => by
      rw [show (1 : Int) = ((1 : Nat) : Int) from rfl, cut_from, List.map_drop]
      exact (hxs.ext eJ).drop
    exact this
  · have h1 := congrArg List.length e
    rw [List.length_drop] at h1
    cases rs with
    | nil => cases hb
    | cons r rs => rw [List.length_cons] at h1; omega
theorem tb10 (T : TN P w K mg base) (t2 : TabF K mg base) (hr : Room 80 (XT P w K mg base f c A outer s HX).A) : ∃ t, PS (XT P w K mg base f c A outer s HX) (stT 10) t ∧
    ∀ (D : Ends) (G : Hp) (p q rt rw nb : Addr) (va : V) (n : Int) (ar pr pr' : List (Str × Nat)) (rs : List (Str × O)) (g : O) (tm wh tw n2 mo ot o0 : Addr) (ys : List V) (c0 c1 c3 c5 c6 c7 c8 c9 c10 c12 : Option V),
      OF K G p q n rt rw nb va ar pr rs g tm wh tw n2 mo pr' ot o0 ys 2 → Raw ar pr → RwS ar pr rs →
      (∀ G' ys', OF K G' p q n rt rw nb va ar pr rs g tm wh tw n2 mo pr' ot o0 ys' 3 → Go (Zo p q ot) G G' → D.nx [c0, c1, some (.ref rw), c3, some (.ref nb), c5, c6, c7, c8, c9, c10, some (.ref ot), c12] G') →
      t D [c0, c1, some (.ref rw), c3, some (.ref nb), c5, c6, c7, c8, c9, c10, some (.ref ot), c12] G := by
  obtain ⟨fI, fdI, MI, FI⟩ := T.mkT
  have GI := ok_tinit T t2 FI
  have bI := FI.bindsN (ps := ["self", "names", "axioms"]) (fun kV doc pm an cdv ct us hl => match us, hl with | [_, _, _], _ => rfl)
  refine ⟨_, ps_expr (pe_bm PySem.F.plainAttrs_list PySem.F.slot_list_extend PySem.F.type_list_extend mt_extend (pv 11) (pa_cons (pe_ifExp (pt_cmpR op_gt (pe_callB call_len (by rfl) T.len PySem.boot_len (pa_cons (pv 2) pa_nil)) pe_int (nomark _))
    (pe_lst (pa_cons (pe_make MI GI (hr.mono (by decide)) (by rfl) T.gT bI .nil passX (pa_cons (pv 4) (pa_cons (pe_op op_cat (pe_slice sl_list (pv 2) (po_some pe_int) po_none) (pe_slice sl_list (pv 2) po_none (po_some pe_int))) pa_nil))) pa_nil)) (pe_lst pa_nil)) pa_nil)), ?_⟩
  intro D G p q rt rw nb va n ar pr pr' rs g tm wh tw n2 mo ot o0 ys c0 c1 c3 c5 c6 c7 c8 c9 c10 c12 F R A0 k
  obtain ⟨xs, hrw, hxs⟩ := F.tw.tg.tf.rows
  have hrw := hx_ex _ _ hrw
  have hxs := hxs.ext hx_ex
  have hxl := hxs.length
  rw [List.length_map] at hxl
  have hl5 := A0.len
  refine ext_th (qs := rs.drop 1 ++ rs.take 1) F (by decide) R rfl rfl (et_test (ev_op (ev_lenL (ev_var rfl) (sq_of hrw)) ev_c rv_I0)) (fun hb => ⟨?_, A0.turn, turn_ne A0 (by have := of_decide_eq_true hb; omega)⟩) k
  have := elp_cat (elp_ofE (P := fun xs J => OVs J xs ((rs.drop 1).map axO)) (el_sl (K := K) (σ := [c0, c1, some (.ref rw), c3, some (.ref nb), c5, c6, c7, c8, c9, c10, some (.ref ot), c12]) (te := tVar 2) (ev_var rfl) (eo_some (i := 1) ev_c) eo_none (sq_of hrw)) fun J eJ => by
      rw [show (1 : Int) = ((1 : Nat) : Int) from rfl, cut_from, List.map_drop]
      exact (hxs.ext eJ).drop) (elp_ofE (P := fun xs J => OVs J xs ((rs.take 1).map axO)) (el_sl (K := K) (σ := [c0, c1, some (.ref rw), c3, some (.ref nb), c5, c6, c7, c8, c9, c10, some (.ref ot), c12]) (te := tVar 2) (ev_var rfl) eo_none (eo_some (i := 1) ev_c) (sq_of hrw)) fun J eJ => by
      rw [show (1 : Int) = ((1 : Nat) : Int) from rfl, cut_to, List.map_take]
      exact (hxs.ext eJ).take) (fun _ => up_ovs) (fun _ => up_ovs) fun us ws J h1 h2 => by
      have h1 := h1.length
      have h2 := h2.length
      rw [List.length_map, List.length_drop] at h1
      rw [List.length_map, List.length_take] at h2
      omega
  exact fun J e Q q' => this J e Q fun a zs J2 ha e' hx ⟨us, ws, hy, h1, h2⟩ => q' a zs J2 ha e' hx (by rw [hy, List.map_append]; exact OVs.append h1 h2)
theorem tb11 (T : TN P w K mg base) (t2 : TabF K mg base) (hr : Room 80 (XT P w K mg base f c A outer s HX).A) : ∃ t, PS (XT P w K mg base f c A outer s HX) (stT 11) t ∧
    ∀ (D : Ends) (G : Hp) (p q rt rw nb : Addr) (va : V) (n : Int) (ar pr pr' : List (Str × Nat)) (rs : List (Str × O)) (g : O) (tm wh tw n2 mo ot o0 : Addr) (ys : List V) (c0 c1 c3 c5 c6 c7 c8 c9 c10 c12 : Option V),
      OF K G p q n rt rw nb va ar pr rs g tm wh tw n2 mo pr' ot o0 ys 3 → Raw ar pr → RwS ar pr rs →
      (∀ G' ys', OF K G' p q n rt rw nb va ar pr rs g tm wh tw n2 mo pr' ot o0 ys' 4 → Go (Zo p q ot) G G' → D.nx [c0, c1, some (.ref rw), c3, some (.ref nb), c5, c6, c7, c8, c9, c10, some (.ref ot), c12] G') →
      t D [c0, c1, some (.ref rw), c3, some (.ref nb), c5, c6, c7, c8, c9, c10, some (.ref ot), c12] G := by
  obtain ⟨fI, fdI, MI, FI⟩ := T.mkT
  have GI := ok_tinit T t2 FI
  have bI := FI.bindsN (ps := ["self", "names", "axioms"]) (fun kV doc pm an cdv ct us hl => match us, hl with | [_, _, _], _ => rfl)
  refine ⟨_, ps_if (pt_cmpR (op_neD hr.units) (pv 2) (pe_lst pa_nil) (nomark _)) (pss_one (ps_expr (pe_bm PySem.F.plainAttrs_list PySem.F.slot_list_append PySem.F.type_list_append mt_append (pv 11) (pa_cons
    (pe_make MI GI (hr.mono (by decide)) (by rfl) T.gT bI .nil passX (pa_cons (pv 4) (pa_cons (pe_op op_cat (pe_slice sl_list (pv 2) po_none (po_some (pe_un un_neg pe_int))) (pe_lst (pa_cons (pe_tup (pa_cons (pe_ix ix_tup (pe_ix ix_list (pv 2) (pe_un un_neg pe_int) (fun _ _ => rfl)) pe_int (fun _ _ => rfl)) (pa_cons (pe_tup (pa_cons pe_str (pa_cons (pe_ix ix_tup (pe_ix ix_list (pv 2) (pe_un un_neg pe_int) (fun _ _ => rfl)) pe_int (fun _ _ => rfl)) pa_nil))) pa_nil))) pa_nil))) pa_nil))) pa_nil)))) pss_nil, ?_⟩
  intro D G p q rt rw nb va n ar pr pr' rs g tm wh tw n2 mo ot o0 ys c0 c1 c3 c5 c6 c7 c8 c9 c10 c12 F R A0 k
  obtain ⟨xs, hrw, hxs⟩ := F.tw.tg.tf.rows
  have hrw := hx_ex _ _ hrw
  have hxs := hxs.ext hx_ex
  have W := A0.r.f
  have hxl := hxs.length
  rw [List.length_map] at hxl
  have hl5 := A0.len
  refine s_when (b := !(rs.map axO).isEmpty) (et_neE (os := rs.map axO) rfl hrw hxs W.ed W.dp) (fun hb G1 e1 => ?_) fun hb G1 e1 => k G1 ys ((of_ext F e1).mono (by decide)) (Go.of e1)
  have F1 := of_ext F e1
  have hrw1 := e1 _ _ hrw
  have hxs1 := hxs.ext e1
  rcases List.eq_nil_or_concat rs with h0 | ⟨qs, r, h0⟩
  · rw [h0] at hb
    cases hb
  rw [List.concat_eq_append] at h0
  subst h0
  have hlen : xs.length = qs.length + 1 := by rw [hxl, List.length_append]; rfl
  have hv : xs[qs.length]? = some xs[qs.length] := List.getElem?_eq_getElem (by omega)
  obtain ⟨o, ho, hov⟩ := hxs1.get hv
  rw [List.getElem?_map, List.getElem?_append_right (Nat.le_refl _), Nat.sub_self] at ho
  obtain rfl : axO r = o := by simpa using ho
  obtain ⟨t, ws, hvt, ht, w1, ws1, rfl, ow1, w2, ws2, rfl, ow2, h0⟩ := hov
  obtain rfl : ws2 = [] := h0
  obtain rfl : w1 = .str r.1 := ow1
  have hlast : xs.getLast? = some (.ref t) := by
    rw [List.getLast?_eq_getElem?, hlen, Nat.add_sub_cancel, hv, hvt]
  obtain ⟨A1, ne⟩ := notLast_ok A0
  have evl : Ev (tOp (rIxL K) (tVar 2) tNeg1) [c0, c1, some (.ref rw), c3, some (.ref nb), c5, c6, c7, c8, c9, c10, some (.ref ot), c12] G1 (.ref t) := ev_op (ev_var rfl) ev_neg1 (rv_ixL (sq_of hrw1) (atI_last hlast))
  refine ⟨_, rfl, .inl ⟨rfl, _, sq_of F1.lst⟩, ?_⟩
  refine mkT (K := K) (σ := [c0, c1, some (.ref rw), c3, some (.ref nb), c5, c6, c7, c8, c9, c10, some (.ref ot), c12]) (n := nb) (a := ot) (xs := []) (rs := qs ++ [(r.1, .tup [.str "not", r.2])]) (t2 := tOp rCat (tSl (rSlL K) (tVar 2) tNoPart (tPart tNeg1)) (tLst (tCons (tTup (tCons (tOp (rIxT K) (tOp (rIxL K) (tVar 2) tNeg1) (tC (.int 0))) (tCons (tTup (tCons (tC (.str "not")) (tCons (tOp (rIxT K) (tOp (rIxL K) (tVar 2) tNeg1) (tC (.int 1))) tNil))) tNil))) tNil))) (ev_var (i := 4) rfl) ?_ F1.tabs (F1.tw.tg.tf.nam.ext hx_ex) R.d1 R.d2 A1 fun x G2 nx hth e2 hT2 => ?_
  · have := elp_cat (elp_ofE (P := fun zs J => OVs J zs (qs.map axO)) (el_sl (K := K) (σ := [c0, c1, some (.ref rw), c3, some (.ref nb), c5, c6, c7, c8, c9, c10, some (.ref ot), c12]) (te := tVar 2) (ev_var rfl) eo_none (eo_some (i := -1) ev_neg1) (sq_of hrw1)) fun J eJ => by
      rw [cut_dl, List.dropLast_eq_take, hlen, Nat.add_sub_cancel]
      have := (hxs1.ext eJ).take (k := qs.length)
      rw [← List.map_take, List.take_left] at this
      exact this) (elp_lit1 (o := .tup [.str r.1, .tup [.str "not", r.2]]) (eo_tup (eao_cons (eo_of (ev_op evl ev_c (rv_ixT (K := K) (st_of ht) (atI_nat (j := 0) rfl))) rfl) (eao_cons (eo_tup (eao_cons eo_str (eao_cons (eo_of (ev_op evl ev_c (rv_ixT (K := K) (st_of ht) (atI_nat (j := 1) rfl))) ow2) eao_nil)) (by show 2 ≤ 1000; decide)) eao_nil)) (by show 2 ≤ 1000; decide))) (fun _ => up_ovs) (fun _ => up_ovs) fun us ws J h1 h2 => by
        have h1 := h1.length
        have h2 := h2.length
        rw [List.length_map] at h1
        rw [List.length_append] at hl5
        have h3 : ([O.tup [.str r.1, .tup [.str "not", r.2]]] : List O).length = 1 := rfl
        omega
    exact fun J e Q q' => this J e Q fun a zs J2 ha e' hx ⟨us, ws, hy, h1, h2⟩ => q' a zs J2 ha e' hx (by rw [hy, List.map_append]; exact OVs.append h1 h2)
  · have hp := of_put F1 e2 hth A1 ne hT2
    have hm := F1.len
    exact ⟨ot, .ref o0 :: ys, .ref x, rfl, rfl, e2 _ _ F1.lst lst_tbl, sz_lt (by show ys.length + 1 < 100000; omega), k _ _ hp.1 ((Go.of e1).trans hp.2)⟩
end
end K02

set_option Elab.async false
set_option linter.all false
set_option maxRecDepth 100000
set_option maxHeartbeats 4000000
/-! _law_told_right: what is equal, what is not. -/
namespace K02
open PySem PySem.Spec PyProof.Rows L2 Evl LamX
theorem ev_anyL {K : PySem.W.Frag} {σ : L2.St} {H : Hp} {te : TE} {bs : List Bool} (h : EvL te σ H (bs.map V.bl)) : Ev (tCB (rAny K) (tCons te tNil)) σ H (.bl (bs.any id)) := fun H1 e Q q => h H1 e _ fun p H2 _ e2 h2 => ⟨p, bs, rfl, sq_of h2, q H2 e2⟩
theorem given_no (n : Nat) : given n (fun _ => true) (fun _ => V.bl false) = (List.replicate n false).map V.bl := by
  unfold given
  rw [filter_true, List.map_const', List.length_range, List.map_replicate]
theorem any_no (n : Nat) : (List.replicate n false).any id = false := by
  induction n with
  | zero => rfl
  | succ n ih => rw [List.replicate_succ, List.any_cons, ih]; rfl
abbrev tMkP (K : PySem.W.Frag) (t1 t2 : TE) : TE := tMake (CP K) (spPbi K) [] E0 (tCons t1 (tCons t2 tNil))
section
variable {P : Program} {w : World} {K : PySem.W.Frag} {mg : Str → Option Value} {base : Heap} {f c : Addr} {A : Around} {outer : List Env} {s : Shared} {HX : Hp}
/-- Problem(theory, goal) told -/
theorem mkP {σ : L2.St} {H : Hp} {t1 t2 : TE} {t n : Addr} {g : O} {ar pr : List (Str × Nat)} {rs : List (Str × O)} {Q : VK} (h1 : Ev t1 σ H (.ref t)) (h2 : EvO t2 σ H g) (hT : Th K H t n ar pr rs) (R1 : (ar.map (·.1)).Nodup) (R2 : (pr.map (·.1)).Nodup) (g0 : GoR ar pr g)
    (k : ∀ x H', Ex H H' → PbAt K H' x t g → Q (.ref x) H') : tMkP K t1 t2 σ H Q :=
  h1 H (Ex.refl _) _ fun G1 e1 => h2 G1 e1 _ fun v G2 e2 hv => fun x dx nx ndx hne => by
    have e12 := e1.trans e2
    exact mk_problem (o := g) nx ndx hne (hT.ext e12) R1 R2 hv g0.fit (dr_sok g0.dr (by decide)) g0.dr.nod fun G3 hp e3 => k x G3 (e12.trans e3) (by rw [strip_id g0.dr.noL] at hp; exact hp.ext hx_ex)
/-- problem == Problem(theory, goal) -/
theorem ev_eqMk {σ : L2.St} {H : Hp} {t0 t1 t2 : TE} {wh tm nb t n : Addr} {g g' : O} {ar pr ar' pr' : List (Str × Nat)} {rs qs : List (Str × O)} {b : Bool} (h0 : Ev t0 σ H (.ref wh)) (h1 : Ev t1 σ H (.ref t)) (h2 : EvO t2 σ H g') (hp : PbAt K H wh tm g) (hm : Th K H tm nb ar pr rs) (hT : Th K H t n ar' pr' qs)
    (R1 : (ar'.map (·.1)).Nodup) (R2 : (pr'.map (·.1)).Nodup) (g0 : GoR ar' pr' g') (s1 : NmS ar pr) (s2 : NmS ar' pr') (S1 : AxS rs) (S2 : AxS qs) (G1 : GoS g) (hb : (((eqPs ar ar' && eqPs pr pr') && eqAx rs qs) && g.eqv g') = b) : Ev (tOp (rOwn K (CP K) (spPbe K) E0) t0 (tMkP K t1 t2)) σ H (.bl b) := fun H1 e Q q =>
  h0 H1 e _ fun H2 e2 => mkP (h1.mono (e.trans e2)) (fun J eJ => h2 J ((e.trans e2).trans eJ)) (hT.ext (e.trans e2)) R1 R2 g0 fun x H3 e3 hx => by
    have eA := (e.trans e2).trans e3
    exact rv_eqP (hp.ext eA) (hm.ext eA) hx (hT.ext eA) s1 s2 S1 S2 G1 g0.s H3 (Ex.refl _) _ fun H4 e4 => by rw [hb]; exact q H4 ((e2.trans e3).trans e4)
theorem ev_neMk {σ : L2.St} {H : Hp} {t0 t1 t2 : TE} {wh tm nb t n : Addr} {g g' : O} {ar pr ar' pr' : List (Str × Nat)} {rs qs : List (Str × O)} {b : Bool} (h0 : Ev t0 σ H (.ref wh)) (h1 : Ev t1 σ H (.ref t)) (h2 : EvO t2 σ H g') (hp : PbAt K H wh tm g) (hm : Th K H tm nb ar pr rs) (hT : Th K H t n ar' pr' qs)
    (R1 : (ar'.map (·.1)).Nodup) (R2 : (pr'.map (·.1)).Nodup) (g0 : GoR ar' pr' g') (s1 : NmS ar pr) (s2 : NmS ar' pr') (S1 : AxS rs) (S2 : AxS qs) (G1 : GoS g) (hb : (!(((eqPs ar ar' && eqPs pr pr') && eqAx rs qs) && g.eqv g')) = b) : Ev (tOp (rOwnNe K (CP K) (spPbe K) E0) t0 (tMkP K t1 t2)) σ H (.bl b) := fun H1 e Q q =>
  h0 H1 e _ fun H2 e2 => mkP (h1.mono (e.trans e2)) (fun J eJ => h2 J ((e.trans e2).trans eJ)) (hT.ext (e.trans e2)) R1 R2 g0 fun x H3 e3 hx => by
    have eA := (e.trans e2).trans e3
    exact rv_neP (hp.ext eA) (hm.ext eA) hx (hT.ext eA) s1 s2 S1 S2 G1 g0.s H3 (Ex.refl _) _ fun H4 e4 => by rw [hb]; exact q H4 ((e2.trans e3).trans e4)
theorem no_lst {C : Addr} {H : Hp} {a : Addr} {xs : List V} {os : List O} (h : H a = some (.lst xs)) (ho : OVs H xs os) : ∀ G, Ex H G → Rt K C G (.ref a) ∧ NoC K G (.ref a) C := fun G e => ⟨.lst (e _ _ h), .inl ⟨.lst os, a, xs, rfl, e _ _ h, ho.ext e⟩⟩
theorem tb12 (T : TN P w K mg base) (hr : Room 80 (XT P w K mg base f c A outer s HX).A) : ∃ t, PS (XT P w K mg base f c A outer s HX) (stT 12) t ∧
    ∀ (D : Ends) (G : Hp) (p q rt rw nb : Addr) (va : V) (ar pr pr' : List (Str × Nat)) (rs : List (Str × O)) (g : O) (tm wh tw n2 mo : Addr) (c0 c1 c3 c4 c5 c6 c10 c11 c12 : Option V),
      TW K G p q rt rw nb va ar pr rs g tm wh tw n2 mo pr' → Raw ar pr → RwR ar pr rs → GoR ar pr g →
      (∀ G', Ex G G' → D.nx [c0, c1, some (.ref rw), c3, c4, c5, c6, some (.ref tm), some (.ref wh), some (.ref tw), c10, c11, c12] G') →
      t D [c0, c1, some (.ref rw), c3, c4, c5, c6, some (.ref tm), some (.ref wh), some (.ref tw), c10, c11, c12] G := by
  obtain ⟨fT, fdT, MT, FT⟩ := T.mTe
  have GT := ok_teq T FT
  have bT := FT.bindsN (ps := ["self", "other"]) (fun kV doc pm an cdv ct us hl => match us, hl with | [_, _], _ => rfl)
  obtain ⟨fP, fdP, MP, FP⟩ := T.mPe
  have GP := ok_peq T FP
  have bP := FP.bindsN (ps := ["self", "other"]) (fun kV doc pm an cdv ct us hl => match us, hl with | [_, _], _ => rfl)
  refine ⟨_, ps_if (PW.pt (pw_or (pt_not (pt_cmpR (op_own GT (hr.mono (by decide)) MT.at_ MT.fn bT pass0) (pv 7) (pv 9) (nomark _)))
    (pw_or (pt_cmpR (op_ownNe GT (hr.mono (by decide)) (T.ne "Theory" (by decide)) (T.sub "Theory" (by decide)) MT.at_ MT.fn bT pass0) (pv 7) (pv 9) (nomark _))
    (pw_or (pt_cmpR (op_own GT (hr.mono (by decide)) MT.at_ MT.fn bT pass0) (pv 7) (pv 8) (nomark _))
    (pw_or (pt_cmpR (op_own GP (hr.mono (by decide)) MP.at_ MP.fn bP pass0) (pv 8) (pv 7) (nomark _))
    (pw_or1 (pt_cmpR (op_own GT (hr.mono (by decide)) MT.at_ MT.fn bT pass0) (pv 7) (pv 2) (nomark _)))))))) (pss_one ps_never) pss_nil, ?_⟩
  intro D G p q rt rw nb va ar pr pr' rs g tm wh tw n2 mo c0 c1 c3 c4 c5 c6 c10 c11 c12 F R A0 g0 k
  obtain ⟨xs, hrw, hxs⟩ := F.tg.tf.rows
  have X := A0.axs
  have eqs : ((eqPs ar ar && eqPs pr pr) && eqAx rs rs) = true := by rw [eqPs_self, eqPs_self, eqAx_self X]; rfl
  refine s_when (b := false) (et_is (et_or (a := false) (b := false) (et_is (et_not (a := true) (et_is (et_test (ev_op (ev_var rfl) (ev_var rfl) (rv_ownT F.tg.t F.tw R.nms R.nms X X))) eqs)) rfl) fun _ =>
    et_is (et_or (a := false) (b := false) (et_is (et_test (ev_op (ev_var rfl) (ev_var rfl) (rv_neT F.tg.t F.tw R.nms R.nms X X))) (by rw [eqs]; rfl)) fun _ =>
    et_is (et_or (a := false) (b := false) (et_test (ev_op (ev_var rfl) (ev_var rfl) (rv_eqTN F.tg.t R.nms X fun J eJ => pb_noT T (F.tg.pb.ext eJ)))) fun _ =>
    et_is (et_or (a := false) (b := false) (et_test (ev_op (ev_var rfl) (ev_var rfl) (rv_eqPN F.tg.pb F.tg.t R.nms X g0.s fun J eJ => th_noP T (F.tg.th.ext eJ)))) fun _ =>
    et_test (ev_op (ev_var rfl) (ev_var rfl) (rv_eqTN F.tg.t R.nms X (no_lst hrw hxs)))) rfl) rfl) rfl) rfl) (fun z => nomatch z) fun _ G1 e1 => k G1 e1
abbrev tAnB (K : PySem.W.Frag) : TE := tOrV (tOp (rOwn K (CT K) (spTe K) E0) (tVar 7) (tVar 12)) (tOrV (tNotV (tOp (rOwnNe K (CT K) (spTe K) E0) (tVar 7) (tVar 12))) (tOp (rOwn K (CP K) (spPbe K) E0) (tVar 8) (tMkP K (tVar 12) (tVar 3))))
theorem tb13 (T : TN P w K mg base) (hr : Room 80 (XT P w K mg base f c A outer s HX).A) : ∃ t, PS (XT P w K mg base f c A outer s HX) (stT 13) t ∧
    ∀ (D : Ends) (G : Hp) (p q rt rw nb : Addr) (va : V) (n : Int) (ar pr pr' : List (Str × Nat)) (rs : List (Str × O)) (g : O) (tm wh tw n2 mo ot o0 : Addr) (ys : List V) (c0 c1 c2 c4 c5 c6 c9 c10 c12 : Option V),
      OF K G p q n rt rw nb va ar pr rs g tm wh tw n2 mo pr' ot o0 ys 4 → Raw ar pr → RwR ar pr rs → GoR ar pr g →
      (∀ G', Ex G G' → D.nx [c0, c1, c2, some va, c4, c5, c6, some (.ref tm), some (.ref wh), c9, c10, some (.ref ot), c12] G') →
      t D [c0, c1, c2, some va, c4, c5, c6, some (.ref tm), some (.ref wh), c9, c10, some (.ref ot), c12] G := by
  obtain ⟨fT, fdT, MT, FT⟩ := T.mTe
  have GT := ok_teq T FT
  have bT := FT.bindsN (ps := ["self", "other"]) (fun kV doc pm an cdv ct us hl => match us, hl with | [_, _], _ => rfl)
  obtain ⟨fP, fdP, MP, FP⟩ := T.mPe
  have GP := ok_peq T FP
  have bP := FP.bindsN (ps := ["self", "other"]) (fun kV doc pm an cdv ct us hl => match us, hl with | [_, _], _ => rfl)
  obtain ⟨fI, fdI, MI, FI⟩ := T.mkP
  have GI := ok_pinit T FI
  have bI := FI.bindsN (ps := ["self", "theory", "goal"]) (fun kV doc pm an cdv ct us hl => match us, hl with | [_, _, _], _ => rfl)
  refine ⟨_, ps_if (pt_val (pe_callB (cr_any rfl) (by rfl) T.any (by decide +kernel) (pa_cons (pe_lc (own := [("_law_other", 12)]) (g := gName 12) (tt := tYes) (te := tAnB K) rfl sc_tr.nd (pi_list (pe_slice sl_list (pv 11) (po_some pe_int) po_none)) (blkOk_by (N := nTr) (sc := defScope s__law_told_right) (by decide +kernel))
    (fun _ _ _ _ _ => pg_name (i := 12) sc_tr.nd rfl (Or.inl rfl)) (fun _ _ _ _ _ => pts_nil) (fun _ _ _ _ _ => pe_or (pe_cmpR (op_own GT (hr.mono (by decide)) MT.at_ MT.fn bT pass0) (pv 7) (pv 12) (nomark _))
      (pe_or (pe_not (pe_cmpR (op_ownNe GT (hr.mono (by decide)) (T.ne "Theory" (by decide)) (T.sub "Theory" (by decide)) MT.at_ MT.fn bT pass0) (pv 7) (pv 12) (nomark _)))
      (pe_one (pe_cmpR (op_own GP (hr.mono (by decide)) MP.at_ MP.fn bP pass0) (pv 8) (pe_make MI GI (hr.mono (by decide)) (by rfl) T.gP bI .nil passX (pa_cons (pv 12) (pa_cons (pv 3) pa_nil))) (nomark _)))))) pa_nil))) (pss_one ps_never) pss_nil, ?_⟩
  intro D G p q rt rw nb va n ar pr pr' rs g tm wh tw n2 mo ot o0 ys c0 c1 c2 c4 c5 c6 c9 c10 c12 F R A0 g0 k
  have W := F.tw.ext hx_ex
  have OO := F.oth.ext hx_ex
  have X := A0.axs
  have hl := F.len
  have key := el_lcNL (K := K) (σ := [c0, c1, c2, some va, c4, c5, c6, some (.ref tm), some (.ref wh), c9, c10, some (.ref ot), c12]) (te := tAnB K) (t := tYes) (j := 12) (vs := [12]) (fun _ => true) (fun _ => .bl false) (el_sl (K := K) (te := tVar 11) (ev_var rfl) (eo_some (i := 1) ev_c) eo_none (sq_of F.lst)) (by
    rw [show (1 : Int) = ((1 : Nat) : Int) from rfl, cut_from]
    show ys.length ≤ 40000
    omega) (fun x => rfl) (fun i x H1 e1 hx => et_yes) (fun i x H1 e1 hx _ => by
      rw [show (1 : Int) = ((1 : Nat) : Int) from rfl, cut_from] at hx
      have hx : x ∈ ys := List.mem_of_getElem? hx
      obtain ⟨t, axs, rfl, ht, Y, ne⟩ := OO x hx
      have W1 := W.ext e1
      have ht1 : Th K H1 t nb ar pr axs := ⟨ht.ext e1, W1.tg.tf.nam⟩
      have eqs : ((eqPs ar ar && eqPs pr pr) && eqAx rs axs) = false := by rw [eqAx_ne X Y (fun z => ne z.symm), Bool.and_false]
      exact ev_is (ev_orV (a := false) (b := false) (ev_is (ev_op (ev_var rfl) (ev_var rfl) (rv_ownT W1.tg.t ht1 R.nms R.nms X Y)) (by rw [eqs])) fun _ =>
        ev_is (ev_orV (a := false) (b := false) (ev_is (ev_notV (a := true) (ev_is (ev_op (ev_var rfl) (ev_var rfl) (rv_neT W1.tg.t ht1 R.nms R.nms X Y)) (by rw [eqs]; rfl))) rfl) fun _ =>
          ev_eqMk (ev_var rfl) (ev_var rfl) (eo_var rfl W1.tg.tf.aim) W1.tg.pb W1.tg.t ht1 R.d1 R.d2 g0 R.nms R.nms X Y g0.s (by rw [eqs]; rfl)) rfl) rfl)
  rw [given_no] at key
  exact s_when (b := false) (et_is (et_B (ev_anyL key)) (any_no _)) (fun z => nomatch z) fun _ G1 e1 => k G1 e1
theorem not_ne (g : O) : g ≠ .tup [.str "not", g] := fun e => by
  have e3 := congrArg O.dp e
  have e4 : (O.tup [.str "not", g]).dp = max 0 (max g.dp 0) + 1 := rfl
  omega
theorem tb14 (T : TN P w K mg base) (hr : Room 80 (XT P w K mg base f c A outer s HX).A) : ∃ t, PS (XT P w K mg base f c A outer s HX) (stT 14) t ∧
    ∀ (D : Ends) (G : Hp) (p q rt rw nb : Addr) (va : V) (n : Int) (ar pr pr' : List (Str × Nat)) (rs : List (Str × O)) (g : O) (tm wh tw n2 mo ot o0 : Addr) (ys : List V) (c0 c1 c2 c4 c5 c6 c9 c10 c12 : Option V),
      OF K G p q n rt rw nb va ar pr rs g tm wh tw n2 mo pr' ot o0 ys 4 → Raw ar pr → Mo ar pr pr' → RwR ar pr rs → GoT ar pr g →
      (∀ G', Ex G G' → D.nx [c0, c1, c2, some va, c4, c5, c6, some (.ref tm), some (.ref wh), c9, c10, some (.ref ot), c12] G') →
      t D [c0, c1, c2, some va, c4, c5, c6, some (.ref tm), some (.ref wh), c9, c10, some (.ref ot), c12] G := by
  obtain ⟨fT, fdT, MT, FT⟩ := T.mTe
  have GT := ok_teq T FT
  have bT := FT.bindsN (ps := ["self", "other"]) (fun kV doc pm an cdv ct us hl => match us, hl with | [_, _], _ => rfl)
  obtain ⟨fP, fdP, MP, FP⟩ := T.mPe
  have GP := ok_peq T FP
  have bP := FP.bindsN (ps := ["self", "other"]) (fun kV doc pm an cdv ct us hl => match us, hl with | [_, _], _ => rfl)
  obtain ⟨fI, fdI, MI, FI⟩ := T.mkP
  have GI := ok_pinit T FI
  have bI := FI.bindsN (ps := ["self", "theory", "goal"]) (fun kV doc pm an cdv ct us hl => match us, hl with | [_, _, _], _ => rfl)
  refine ⟨_, ps_if (PW.pt (pw_or (pt_cmpR (op_own GT (hr.mono (by decide)) MT.at_ MT.fn bT pass0) (pv 7) (pe_ix ix_list (pv 11) pe_int (fun _ _ => rfl)) (nomark _))
    (pw_or (pt_cmpR (op_own GP (hr.mono (by decide)) MP.at_ MP.fn bP pass0) (pv 8) (pe_make MI GI (hr.mono (by decide)) (by rfl) T.gP bI .nil passX (pa_cons (pv 7) (pa_cons (pe_tup (pa_cons pe_str (pa_cons (pv 3) pa_nil))) pa_nil))) (nomark _))
    (pw_or1 (pt_not (pt_cmpR (op_ownNe GP (hr.mono (by decide)) (T.ne "Problem" (by decide)) (T.sub "Problem" (by decide)) MP.at_ MP.fn bP pass0) (pv 8) (pe_make MI GI (hr.mono (by decide)) (by rfl) T.gP bI .nil passX (pa_cons (pe_ix ix_list (pv 11) pe_int (fun _ _ => rfl)) (pa_cons (pv 3) pa_nil))) (nomark _))))))) (pss_one ps_never) pss_nil, ?_⟩
  intro D G p q rt rw nb va n ar pr pr' rs g tm wh tw n2 mo ot o0 ys c0 c1 c2 c4 c5 c6 c9 c10 c12 F R M A0 g0 k
  have W := F.tw.ext hx_ex
  have X := A0.axs
  have Mk := M.ok R
  have h0 : Th K G o0 mo ar pr' rs := ⟨F.o0.ext hx_ex, W.mo⟩
  have eqs : ((eqPs ar ar && eqPs pr pr') && eqAx rs rs) = false := by rw [Mk.2.2.2.1, Bool.and_false]; rfl
  have gn := go_not g0.sn
  have ev0 : Ev (tOp (rIxL K) (tVar 11) (tC (.int 0))) [c0, c1, c2, some va, c4, c5, c6, some (.ref tm), some (.ref wh), c9, c10, some (.ref ot), c12] G (.ref o0) := ev_op (ev_var rfl) ev_c (rv_ixL (sq_of F.lst) (atI_nat (j := 0) rfl))
  exact s_when (b := false) (et_is (et_or (a := false) (b := false) (et_is (et_test (ev_op (ev_var rfl) ev0 (rv_ownT W.tg.t h0 R.nms Mk.2.2.1 X X))) eqs) fun _ =>
    et_is (et_or (a := false) (b := false) (et_test (ev_eqMk (ev_var rfl) (ev_var rfl) (eo_tup (eao_cons eo_str (eao_cons (eo_var rfl W.tg.tf.aim) eao_nil)) (by show 2 ≤ 1000; decide)) W.tg.pb W.tg.t W.tg.t R.d1 R.d2 gn R.nms R.nms X X g0.r.s (by rw [eqv_ne g0.r.s.pu gn.s.pu (not_ne g), Bool.and_false]))) fun _ =>
    et_is (et_not (a := true) (et_test (ev_neMk (ev_var rfl) ev0 (eo_var rfl W.tg.tf.aim) W.tg.pb W.tg.t h0 R.d1 Mk.2.1 (M.goal R g0.r) R.nms Mk.2.2.1 X X g0.r.s (by rw [eqs]; rfl)))) rfl) rfl) rfl) (fun z => nomatch z) fun _ G1 e1 => k G1 e1
theorem tb15 (T : TN P w K mg base) (hr : Room 80 (XT P w K mg base f c A outer s HX).A) : ∃ t, PS (XT P w K mg base f c A outer s HX) (stT 15) t ∧
    ∀ (D : Ends) (G : Hp) (p q rt rw nb : Addr) (va : V) (ar pr pr' : List (Str × Nat)) (rs : List (Str × O)) (g : O) (tm wh tw n2 mo : Addr) (c0 c1 c2 c4 c5 c6 c7 c10 c11 c12 : Option V),
      TW K G p q rt rw nb va ar pr rs g tm wh tw n2 mo pr' → Raw ar pr → RwR ar pr rs → GoR ar pr g →
      (∀ G', Ex G G' → D.rt (.bl true) G') →
      t D [c0, c1, c2, some va, c4, c5, c6, c7, some (.ref wh), some (.ref tw), c10, c11, c12] G := by
  obtain ⟨fP, fdP, MP, FP⟩ := T.mPe
  have GP := ok_peq T FP
  have bP := FP.bindsN (ps := ["self", "other"]) (fun kV doc pm an cdv ct us hl => match us, hl with | [_, _], _ => rfl)
  obtain ⟨fI, fdI, MI, FI⟩ := T.mkP
  have GI := ok_pinit T FI
  have bI := FI.bindsN (ps := ["self", "theory", "goal"]) (fun kV doc pm an cdv ct us hl => match us, hl with | [_, _, _], _ => rfl)
  refine ⟨_, ps_ret (pe_and (pe_cmpR (op_own GP (hr.mono (by decide)) MP.at_ MP.fn bP pass0) (pv 8) (pe_make MI GI (hr.mono (by decide)) (by rfl) T.gP bI .nil passX (pa_cons (pv 9) (pa_cons (pv 3) pa_nil))) (nomark _))
    (pe_and (pe_not (pe_cmpR (op_ownNe GP (hr.mono (by decide)) (T.ne "Problem" (by decide)) (T.sub "Problem" (by decide)) MP.at_ MP.fn bP pass0) (pv 8) (pe_make MI GI (hr.mono (by decide)) (by rfl) T.gP bI .nil passX (pa_cons (pv 9) (pa_cons (pv 3) pa_nil))) (nomark _)))
    (pe_one (pe_cmpR (op_ownNe GP (hr.mono (by decide)) (T.ne "Problem" (by decide)) (T.sub "Problem" (by decide)) MP.at_ MP.fn bP pass0) (pv 8) pe_int (nomark _))))), ?_⟩
  intro D G p q rt rw nb va ar pr pr' rs g tm wh tw n2 mo c0 c1 c2 c4 c5 c6 c7 c10 c11 c12 W R A0 g0 k
  have X := A0.axs
  have eqs : (((eqPs ar ar && eqPs pr pr) && eqAx rs rs) && g.eqv g) = true := by rw [eqPs_self, eqPs_self, eqAx_self X, eqv_self g0.s.pu]; rfl
  exact s_ret (ev_andV (a := true) (b := true) (ev_eqMk (ev_var rfl) (ev_var rfl) (eo_var rfl W.tg.tf.aim) W.tg.pb W.tg.t W.tw R.d1 R.d2 g0 R.nms R.nms X X g0.s eqs) fun _ =>
    ev_andV (a := true) (b := true) (ev_notV (a := false) (ev_neMk (ev_var rfl) (ev_var rfl) (eo_var rfl W.tg.tf.aim) W.tg.pb W.tg.t W.tw R.d1 R.d2 g0 R.nms R.nms X X g0.s (by rw [eqs]; rfl))) fun _ =>
    ev_op (ev_var rfl) ev_c (rv_nePN W.tg.pb W.tg.t R.nms X g0.s fun J eJ => ⟨.int, .inl ⟨.int 5, rfl⟩⟩)) k
end
end K02

set_option Elab.async false
set_option linter.all false
set_option maxRecDepth 100000
set_option maxHeartbeats 4000000
/-! _law_told_right. -/
namespace K02
open PySem PySem.Spec PyProof.Rows L2 Evl LamX
theorem ov_hbN {R : Addr → Prop} {H G : Hp} {v : V} {o : O} (h : OV (HB R H) v o) (e : ExtN H G) : OV (HB R G) v o := h.extN fun b u hb hu => hb_of (e _ _ (hb_to hb).1 hu) (hb_to hb).2
def spTr (K : PySem.W.Frag) : Sp := fun vs H Q _ => ∃ (p q rt rw : Addr) (va : V) (n : Int) (ar pr : List (Str × Nat)) (rs : List (Str × O)) (g : O), vs = [.ref p, .ref rt, .ref rw, va] ∧ Spr H p q n ∧ n < 6500000 ∧ Tabs (tabT K) H ∧ RwV H p q rt ar pr ∧ Raw ar pr ∧ (∃ xs, H rw = some (.lst xs) ∧ OVs H xs (rs.map axO)) ∧ rw ≠ p ∧ rw ≠ q ∧ OV H va g ∧ RwS ar pr rs ∧ GoT ar pr g ∧
  ∀ (G : Hp) (n' : Int), Go (PQ p q) H G → Spr G p q n' → n' ≤ n + 10000 → Tabs (tabT K) G → Q (.bl true) G
section
variable {P : Program} {w : World} {K : PySem.W.Frag} {mg : Str → Option Value} {base : Heap}
theorem ok_told_right (T : TN P w K mg base) (t2 : TabF K mg base) : ∃ f fd, FnG P w K mg base 81 f fd ["_law_stream", "_law_raw", "_law_rows", "_law_aim"] (spTr K) ∧ L2.Binds K fd ["_law_stream", "_law_raw", "_law_rows", "_law_aim"] [] ∧ PySem.W.keepIn K (.ref f) = true ∧ mg "_law_told_right" = some (.ref f) := by
  obtain ⟨⟨fd, F⟩, m⟩ := T.df 35 "_law_told_right" s__law_told_right rfl
  refine ⟨_, fd, FnG.of F sc_tr (fun vs H Q E h => by obtain ⟨p, q, rt, rw, va, n, ar, pr, rs, g, rfl, _⟩ := h; rfl) (fun c hc A outer s H vs Q hg hr h => ?_), F.bindsN (fun kV doc pm an cdv ct us hl => match us, hl with | [_, _, _, _], _ => rfl), F.kp, m⟩
  obtain ⟨p, q, rt, rw, va, n, ar, pr, rs, g, rfl, S, hn, hT, hraw, R, hrows, rp, rq, haim, A0, g0, k⟩ := h
  obtain ⟨t0, p0, k0⟩ := tb0 (f := He.ga K "_law_told_right") (c := c) (outer := outer) (s := s) (HX := H) T hr
  obtain ⟨t1, p1, k1⟩ := tb1 (f := He.ga K "_law_told_right") (c := c) (outer := outer) (s := s) (HX := H) T t2 hg hr
  obtain ⟨t2', p2, k2⟩ := tb2 (f := He.ga K "_law_told_right") (c := c) (outer := outer) (s := s) (HX := H) T hr
  obtain ⟨t3, p3, k3⟩ := tb3 (f := He.ga K "_law_told_right") (c := c) (outer := outer) (s := s) (HX := H) T hg hr
  obtain ⟨t4, p4, k4⟩ := tb4 (f := He.ga K "_law_told_right") (c := c) (outer := outer) (s := s) (HX := H) T hr
  obtain ⟨t5, p5, k5⟩ := tb5 (f := He.ga K "_law_told_right") (c := c) (outer := outer) (s := s) (HX := H) T hr
  obtain ⟨t6, p6, k6⟩ := tb6 (f := He.ga K "_law_told_right") (c := c) (outer := outer) (s := s) (HX := H) T hr
  obtain ⟨t7, p7, k7⟩ := tb7 (f := He.ga K "_law_told_right") (c := c) (outer := outer) (s := s) (HX := H) T t2 hr
  obtain ⟨t8, p8, k8⟩ := tb8 (f := He.ga K "_law_told_right") (c := c) (outer := outer) (s := s) (HX := H) T t2 hr
  obtain ⟨t9, p9, k9⟩ := tb9 (f := He.ga K "_law_told_right") (c := c) (outer := outer) (s := s) (HX := H) T t2 hr
  obtain ⟨t10, p10, k10⟩ := tb10 (f := He.ga K "_law_told_right") (c := c) (outer := outer) (s := s) (HX := H) T t2 hr
  obtain ⟨t11, p11, k11⟩ := tb11 (f := He.ga K "_law_told_right") (c := c) (outer := outer) (s := s) (HX := H) T t2 hr
  obtain ⟨t12, p12, k12⟩ := tb12 (f := He.ga K "_law_told_right") (c := c) (outer := outer) (s := s) (HX := H) T hr
  obtain ⟨t13, p13, k13⟩ := tb13 (f := He.ga K "_law_told_right") (c := c) (outer := outer) (s := s) (HX := H) T hr
  obtain ⟨t14, p14, k14⟩ := tb14 (f := He.ga K "_law_told_right") (c := c) (outer := outer) (s := s) (HX := H) T hr
  obtain ⟨t15, p15, k15⟩ := tb15 (f := He.ga K "_law_told_right") (c := c) (outer := outer) (s := s) (HX := H) T hr
  refine ⟨_, PSs.nox (pss_cons p0 (pss_cons p1 (pss_cons p2 (pss_cons p3 (pss_cons p4 (pss_cons p5 (pss_cons p6 (pss_cons p7 (pss_cons p8 (pss_cons p9 (pss_cons p10 (pss_cons p11 (pss_cons p12 (pss_cons p13 (pss_cons p14 (pss_one p15)))))))))))))))), ?_⟩
  have W := A0.r.f
  refine k0 _ H p q rt rw va n ar pr rs g none none none none none none none none none S hn hT hraw R hrows rp rq haim A0.r g0.r fun G1 RR n1 nb hd r1 r2 o1 o2 S1 hn1 hT1 hR hRn Rp Rq F1 hhd Rhd ov1 ov2 st1 st2 B1 => ?_
  have wd1 : o1.wd = true := by rw [← strip_wd, st1]; exact W.wd
  have wd2 : o2.wd = true := by rw [← strip_wd, st2]; exact g0.r.dr.wd
  have dp1 : o1.dp = O.dps (rs.map axO) + 1 := by rw [← strip_dp, st1]; rfl
  have dp2 : o2.dp = g.dp := by rw [← strip_dp, st2]
  have sz1 : o1.sz = O.szs (rs.map axO) + 1 := by rw [← strip_szz, st1]; rfl
  have sz2 : o2.sz = g.sz := by rw [← strip_szz, st2]
  have wdp := W.dp
  have wsz := W.sz
  have gdp := g0.r.dr.dp
  have gsz := g0.r.dr.sz
  have hwd : (O.lst [o1, o2]).wd = true := by show (o1.wd && (o2.wd && true)) = true; rw [wd1, wd2]; rfl
  have hdp : (O.lst [o1, o2]).dp ≤ 64 := by show max o1.dp (max o2.dp 0) + 1 ≤ 64; omega
  have hsz : (O.lst [o1, o2]).sz ≤ 9000 := by show (o1.sz + (o2.sz + 0)) + 1 ≤ 9000; omega
  have zo1 : ∀ b, PQ p q b ∨ RR b → Old G1 b := fun b hb => by
    rcases hb with hb | hb
    · exact pq_old S1 b hb
    · obtain ⟨zs, h, _⟩ := hR b hb
      exact ⟨zs, h⟩
  refine k1 _ G1 nb hd r1 r2 o1 o2 ar pr rs _ _ _ _ _ _ _ _ _ _ _ hT1 (F1.ext hx_ex).nam R A0.r hhd (ov1.ext hb_ex) (ov2.ext hb_ex) st1 hwd hdp hsz fun G2 tm hth e2 hT2 => ?_
  have g2 : Go (fun b => PQ p q b ∨ RR b) G1 G2 := Go.ofN e2
  have F2 := F1.ext g2.ex
  have th2 : ThAt K (Hx (fun b => PQ p q b ∨ RR b) G2) tm nb rs := hth.ext (hx_mono zo1)
  have hhd2 := e2 _ _ hhd lst_tbl
  have ov1b := ov_hbN ov1 e2
  have ov2b := ov_hbN ov2 e2
  have S2 := spr_extN S1 e2
  refine k2 _ G2 nb hd tm r1 r2 g o2 ar pr rs _ _ _ _ _ _ _ _ _ _ _ ⟨th2.ext hx_ex, F2.nam.ext hx_ex⟩ R hhd2 (ov2b.ext hb_ex) st2 g0.r fun G3 wh hpb e3 => ?_
  have g3 : Go (fun b => PQ p q b ∨ RR b) G2 G3 := Go.of e3
  have zo2 : ∀ b, PQ p q b ∨ RR b → Old G2 b := fun b hb => by obtain ⟨zs, h⟩ := zo1 b hb; exact ⟨zs, e2 _ _ h lst_tbl⟩
  have T3 : TG K (Hx (fun b => PQ p q b ∨ RR b) G3) p q rt rw nb va ar pr rs g tm wh := ⟨F2.ext g3.ex, th2.ext g3.ex, hpb.ext (hx_mono zo2)⟩
  have ov1c := ov1b.ext (hb_mono e3)
  have ov2c := ov2b.ext (hb_mono e3)
  have hhd3 := e3 _ _ hhd2
  refine k3 _ G3 p q rt rw nb va ar pr rs g tm wh hd (.lst [o1, o2]) _ _ _ _ _ _ _ (T3.ext hx_ex) A0.r g0.r ⟨hd, _, rfl, hhd3, .cons (ov1c.ext hb_ex) (.cons (ov2c.ext hb_ex) .nil)⟩ hwd hdp hsz fun G4 e4 => ?_
  have T4 := T3.ext (Go.of e4).ex
  have S4 := (S2.ext e3).ext e4
  have hT4 := (hT2.ext e3).ext e4
  have hR4 : ∀ b, RR b → ∃ zs, G4 b = some (.lst zs) ∧ zs.length ≤ 10000 := fun b hb => by
    obtain ⟨zs, h, hl⟩ := hR b hb
    exact ⟨zs, e4 _ _ (e3 _ _ (e2 _ _ h lst_tbl)), hl⟩
  refine k4 _ G4 p q rt rw nb va n1 ar pr rs g tm wh hd RR r1 r2 o1 o2 _ _ _ _ _ _ _ _ _ _ T4 S4 hT4 R A0.r g0.r hR4 Rp Rq (e4 _ _ hhd3) Rhd (ov1c.ext (hb_mono e4)) (ov2c.ext (hb_mono e4)) st1 st2 fun G5 T5 S5 hT5 stay => ?_
  refine k5 _ G5 p q rt rw nb va ar pr rs g tm wh _ _ _ _ _ _ _ _ _ (T5.ext hx_ex) A0.r g0.r fun G6 e6 => ?_
  have T6 := T5.ext (Go.of e6).ex
  refine k6 _ G6 p q rt rw nb va ar pr rs g tm wh _ _ _ _ _ _ _ _ _ (T6.ext hx_ex) R A0.r g0.r fun G7 e7 => ?_
  have T7 : TG K (Hx (PQ p q) G7) p q rt rw nb va ar pr rs g tm wh := (T6.ext (Go.of e7).ex).ext (hx_mono fun b hb => .inl hb)
  have S7 := (S5.ext e6).ext e7
  have go7 : Go (PQ p q) H G7 := fun b u nb' hu hb => by
    have h1 := B1 b u (fun z => nb' (.inl z)) (fun z => nb' (.inr z)) hb
    have nR : ¬ RR b := fun z => by rw [hRn b z] at hb; cases hb
    exact e7 _ _ (e6 _ _ (stay b u nR hu (e4 _ _ (e3 _ _ (e2 _ _ h1 hu)))))
  refine k7 _ G7 p q rt rw nb va n1 ar pr rs g tm wh _ _ _ _ _ _ _ _ _ _ T7 S7 (by omega) ((hT5.ext e6).ext e7) R A0.r g0.r fun G8 n8 tw m2 mo pr' M T8 S8 hn8 hT8 go8 => ?_
  refine k8 _ G8 p q rt rw nb va n8 ar pr pr' rs g tm wh tw m2 mo _ _ _ _ _ _ _ _ _ T8 S8 hT8 R M A0 g0 fun G9 ot o0 ys not9 h9 hl9 T9 th9 oth9 hT9 go9 S9 => ?_
  have ne9 := fun (z : Addr) (hz : Old G8 z) (e : ot = z) => (by obtain ⟨zs, h⟩ := hz; exact not9 _ lst_tbl (e ▸ h) : False)
  have O9 : OF K G9 p q n8 rt rw nb va ar pr rs g tm wh tw m2 mo pr' ot o0 ys 1 := ⟨h9, T9, th9, oth9, hl9, S9, hT9, fun e => ne9 p S8.old.1 e, fun e => ne9 q S8.old.2 e⟩
  refine k9 _ G9 p q rt rw nb va n8 ar pr pr' rs g tm wh tw m2 mo ot o0 ys _ _ _ _ _ _ _ _ _ _ O9 R A0 fun Ga ya Oa goa => ?_
  refine k10 _ Ga p q rt rw nb va n8 ar pr pr' rs g tm wh tw m2 mo ot o0 ya _ _ _ _ _ _ _ _ _ _ Oa R A0 fun Gb yb Ob gob => ?_
  refine k11 _ Gb p q rt rw nb va n8 ar pr pr' rs g tm wh tw m2 mo ot o0 yb _ _ _ _ _ _ _ _ _ _ Ob R A0 fun Gc yc Oc goc => ?_
  refine k12 _ Gc p q rt rw nb va ar pr pr' rs g tm wh tw m2 mo _ _ _ _ _ _ _ _ _ (Oc.tw.ext hx_ex) R A0.r g0.r fun Gd ed => ?_
  have Od := of_ext Oc ed
  refine k13 _ Gd p q rt rw nb va n8 ar pr pr' rs g tm wh tw m2 mo ot o0 yc _ _ _ _ _ _ _ _ _ Od R A0.r g0.r fun Ge ee => ?_
  have Oe := of_ext Od ee
  refine k14 _ Ge p q rt rw nb va n8 ar pr pr' rs g tm wh tw m2 mo ot o0 yc _ _ _ _ _ _ _ _ _ Oe R M A0.r g0 fun Gf ef => ?_
  have Of := of_ext Oe ef
  refine k15 _ Gf p q rt rw nb va ar pr pr' rs g tm wh tw m2 mo _ _ _ _ _ _ _ _ _ _ (Of.tw.ext hx_ex) R A0.r g0.r fun Gg eg => ?_
  have Og := of_ext Of eg
  have gz : Go (Zo p q ot) G9 Gg := ((goa.trans gob).trans goc).trans (((Go.of ed).trans (Go.of ee)).trans ((Go.of ef).trans (Go.of eg)))
  refine k Gg n8 (fun b u nb' hu hb => ?_) Og.spr (by omega) Og.tabs
  have h8 := go8 b u nb' hu (go7 b u nb' hu hb)
  have hz : b ≠ ot := fun z => not9 u hu (z ▸ h8)
  exact gz b u (by rintro (z | z); exact nb' z; exact hz z) hu (go9 b u nb' hu h8)
end
end K02

set_option Elab.async false
set_option linter.all false
set_option maxRecDepth 100000
set_option maxHeartbeats 4000000
/-! _law_met: what is asked meets an error. -/
namespace L2
open PySem PySem.Spec PyProof.Rows
section
variable {X : Cx} {CX : CXT} {k : Nat} {f C : Addr} {fd : FuncData} {ps : List Str} {sp : Sp} {E : St → XK} {x m : Str} {p pos apos : Pos} {e o : Expr} {es : List Expr} {ta : TE} {t : TA}
theorem run_makeS {pins : List (Addr × Obj)} {σ : St} {H : Hp} {s : Shared} {Q : VK} {us : List Value} {vs : List V} (M : Mk X.K C f) (F : FnOk X.prog X.w X.K X.mg X.base CX k f fd ps sp) (hr : Room (k + 1) X.A) (hb : Binds X.K fd ps [])
    (hx : PassesAt CX X σ (E σ)) (I : Inv X pins σ H s) (r : Vals vs us)
    (h : ∀ x dx, H x = none → H dx = none → dx ≠ x → sp (.ref x :: vs) (upd (upd H dx (.own x)) x (.ins C dx [])) (fun v H2 => v = .non ∧ Q (.ref x) H2) (E σ)) :
    wpAny (model X.prog X.w) X.A (call (.ref C) us) (EP X pins σ Q) X.xe s := by
  have hq := h (s.heap.objs.size + 1) s.heap.objs.size (I.hok.fresh (Nat.le_succ _)) (I.hok.fresh (Nat.le_refl _)) (Nat.ne_of_lt (Nat.lt_succ_self _))
  have I2 := Inv.made (C := C) I
  have r2 : Vals (V.ref (s.heap.objs.size + 1) :: vs) (Value.ref (s.heap.objs.size + 1) :: us) := .cons rfl r
  have hl : (Value.ref (s.heap.objs.size + 1) :: us).length = ps.length := by
    have e := r2.length
    rw [F.len _ _ _ _ hq] at e
    exact e.symm
  have b := hb _ (Value.ref (s.heap.objs.size + 1) :: us) I2.kIn (by rw [List.append_nil]; exact hl)
  rw [List.append_nil] at b
  refine wpAny_call (make_map (f := f) I.kIn M.makes M.init (beq_iff_eq.mp M.fn) (codeAny_mono (F.run _ X.stack _ _ ⟨Value.ref (s.heap.objs.size + 1) :: us, []⟩ (Value.ref (s.heap.objs.size + 1) :: us) _ _ (E σ) (hr.make C us [])
    (I2.env0.make C us []) b r2 hq) fun r s' hq' => ?_))
  cases r with
  | error e => exact hx pins _ _ e s' I2 hq'
  | ok fl =>
    cases fl with
    | ret u =>
      obtain ⟨v, H', I3, rv, ev, q3⟩ := I2.after hq'
      subst ev
      exact ⟨rv, ⟨V.ref (s.heap.objs.size + 1), H', I3, rfl, q3⟩⟩
    | next => exact False.elim hq'
    | brk => exact False.elim hq'
    | cont => exact False.elim hq'
def tMakeS (C : Addr) (sp : Sp) (E : St → XK) (t : TA) : TE := fun σ H Q => t σ H fun vs H1 => ∀ x dx, H1 x = none → H1 dx = none → dx ≠ x →
  sp (.ref x :: vs) (upd (upd H1 dx (.own x)) x (.ins C dx [])) (fun v H2 => v = .non ∧ Q (.ref x) H2) (E σ)
theorem pe_makeS (M : Mk X.K C f) (F : FnOk X.prog X.w X.K X.mg X.base CX k f fd ps sp) (hr : Room (k + 1) X.A) (hg : Gl X x) (hm : X.mg x = some (.ref C)) (hb : Binds X.K fd ps []) (hx : ∀ σ, PassesAt CX X σ (E σ))
    (ha : PA X (e :: es) t) (hdb : (x == ("__debug__" : Str)) = false := by decide) (he : starEach (e :: es) X.env = (false, eval e X.env) :: starEach es X.env := by rfl) (hpl : (backTo pos (starEach es X.env)).any (·.1) = false := by rfl) :
    PE X (.Call (.Name x p) (e :: es) [] pos) (tMakeS C sp E t) := by
  refine ⟨fun pins s σ H Q I h => ?_⟩
  refine wpAny_Call_Name_kw (ld_glob I hg hm ?_ hdb)
  refine PySem.W.callWith_K (h₀ := X.base) I.ok.mod.kin M.kp (thn (ha.run pos pins s σ H _ I h) fun us s1 ⟨vs, H1, I1, r, q⟩ => ⟨I1.kIn, ?_⟩) he hpl
  exact run_makeS M F hr hb (hx σ) I1 r q
end
end L2
namespace K02
open PySem PySem.Spec PyProof.Rows L2 Evl LamX
/-- errors: their class, what they keep, how they are told -/
def metsN : List (Str × Str × Str) := [("BadNames", "thing", "names"), ("BadAxioms", "index", "axioms"), ("BadTheory", "thing", "theory"), ("BadGoal", "thing", "goal")]
def EmetN (K : PySem.W.Frag) (Q : VK) : XK := fun cl dc G => ∃ q ∈ metsN, cl = .ref (He.ga K q.1) ∧ ∃ dd v, dc = some dd ∧ G dd = some (.xd [(q.2.1, v)]) ∧ Pr q.2.2 v G Q
def TTmetN (K : PySem.W.Frag) : (XK → Hp → VK → Prop) → Hp → VK → Prop := fun tl H Q => tl (EmetN K Q) H (fun v G => Pr "told" v G Q)
def hlistN (K : PySem.W.Frag) : List (Value × (Addr → Value → Option Addr → TS)) :=
  [(.ref (He.ga K "BadNames"), tuX K "BadNames" "thing" "names"), (.ref (He.ga K "BadAxioms"), tuX K "BadAxioms" "index" "axioms"), (.ref (He.ga K "BadTheory"), tuX K "BadTheory" "thing" "theory"), (.ref (He.ga K "BadGoal"), tuX K "BadGoal" "thing" "goal")]
theorem sc_me : FnScope nMe ["_law_ask"] (defScope s__law_met) := ⟨rfl, rfl, rfl, by decide +kernel, rfl, by decide +kernel, by decide +kernel⟩
theorem met_gives {X : Cx} (T : T02 X.prog X.w X.K X.mg X.base) {g : Addr} {cdg : Value} {q : Str} :
    GivesTo X nMe "_law_met" (defScope s__law_met) g cdg (defBody s__law_met) "_law_ask" q (TTmetN X.K) := by
  intro f c' s H Q tl act hc h
  have nm : ∀ x : Str, x ∈ cnms → (defScope s__law_met).names.lookup x = some .globalImplicit → (x == ("__debug__" : Str)) = false → Names (cxOf C8.CX0 X.prog X.w X.K X.mg X.base nMe "_law_met" (defScope s__law_met) g cdg X.A X.stack s H C8.E0).nox x (.ref (He.ga X.K x)) :=
    fun x hx hl hd => ⟨hl, hd, .inl (T.cl x hx)⟩
  refine ⟨_, pss_one (ps_tryN (X := (cxOf C8.CX0 X.prog X.w X.K X.mg X.base nMe "_law_met" (defScope s__law_met) g cdg X.A X.stack s H C8.E0).nox) (i := 1) (n := "e") (l := hlistN X.K)
    (tb := fun W D σ G => ∃ Ech : XK, (∀ cl dc (σ' : L2.St) G', σ'.length = 2 → Ech cl dc G' → W cl dc σ' G') ∧ σ[0]? = some (some (.ref f)) ∧ G c' = some (CodeO c' q) ∧ tl Ech G (fun v G1 => 2 ≤ sizeLine ∧ ∀ p, G1 p = none → D.rt (.ref p) (upd G1 p (.tup [.str "told", v]))))
    rfl rfl sc_me.nd rfl rfl L2.takes0 (fun W pn xe tk _ => ?_) ?_), ?_⟩
  · refine ⟨fun pins s' σ G D I h' => ?_⟩
    obtain ⟨Ech, hW, h1, h2, h3⟩ := h'
    have tk2 : Takes ((cxOf C8.CX0 X.prog X.w X.K X.mg X.base nMe "_law_met" (defScope s__law_met) g cdg X.A X.stack s H C8.E0).nox.tr pn xe) (fun cl dc σ' G' => σ'.length = 2 → W cl dc σ' G') := fun u t' ⟨b1, b2, b3, b4, σ', G', cl, dc, b5, b6, b7, b8, b9, b10, b11, b12, b13⟩ =>
      tk u t' ⟨b1, b2, b3, b4, σ', G', cl, dc, b5, b6, b7, b8, b9, b10, b11, b12, b13 b6.len⟩
    have hp := fun p1 p2 => act (fun cl dc σ' G' => σ'.length = 2 → W cl dc σ' G') pn xe Ech p1 p2 tk2 (fun cl dc σ' G' a b => hW cl dc σ' G' b a)
    exact (pss_one (ps_ret (pe_tup (pa_cons pe_str (pa_cons (hp _ _) pa_nil))))).run pins s' σ G D I ⟨h1, h2, h3⟩
  · refine .cons (nm "BadNames" (by decide) (by decide +kernel) (by decide)) (fun ae ob cl dc pn hz hf => pss_one (ps_ret (pe_tup (pa_cons pe_str (pa_cons (pe_xf T.bna.xf T.bna.no hz hf (pv 1)) pa_nil))))) ?_
    refine .cons (nm "BadAxioms" (by decide) (by decide +kernel) (by decide)) (fun ae ob cl dc pn hz hf => pss_one (ps_ret (pe_tup (pa_cons pe_str (pa_cons (pe_xf T.bax.xf T.bax.no hz hf (pv 1)) pa_nil))))) ?_
    refine .cons (nm "BadTheory" (by decide) (by decide +kernel) (by decide)) (fun ae ob cl dc pn hz hf => pss_one (ps_ret (pe_tup (pa_cons pe_str (pa_cons (pe_xf T.bth.xf T.bth.no hz hf (pv 1)) pa_nil))))) ?_
    refine .cons (nm "BadGoal" (by decide) (by decide +kernel) (by decide)) (fun ae ob cl dc pn hz hf => pss_one (ps_ret (pe_tup (pa_cons pe_str (pa_cons (pe_xf T.bgo.xf T.bgo.no hz hf (pv 1)) pa_nil))))) ?_
    exact .nil
  · refine ⟨EmetN X.K Q, fun cl dc σ' G' hl hE => ?_, rfl, hc, ?_⟩
    · obtain ⟨q, hq, rfl, dd, v, rfl, hdd, k⟩ := hE
      simp only [metsN, List.mem_cons, List.not_mem_nil, or_false] at hq
      rcases hq with rfl | rfl | rfl | rfl
      · exact ⟨true, T.xp ("BadNames", "thing") (by decide) "BadNames" (by decide), (fun _ ae hae => ⟨_, by rw [List.getElem?_set_self (by omega)], rfl, rfl, dd, _, v, rfl, hdd, rfl, k⟩), fun z => nomatch z⟩
      · exact ⟨false, T.xp ("BadAxioms", "index") (by decide) "BadNames" (by decide), (fun z => nomatch z), fun _ => ⟨true, T.xp ("BadAxioms", "index") (by decide) "BadAxioms" (by decide), (fun _ ae hae => ⟨_, by rw [List.getElem?_set_self (by omega)], rfl, rfl, dd, _, v, rfl, hdd, rfl, k⟩), fun z => nomatch z⟩⟩
      · exact ⟨false, T.xp ("BadTheory", "thing") (by decide) "BadNames" (by decide), (fun z => nomatch z), fun _ => ⟨false, T.xp ("BadTheory", "thing") (by decide) "BadAxioms" (by decide), (fun z => nomatch z), fun _ => ⟨true, T.xp ("BadTheory", "thing") (by decide) "BadTheory" (by decide), (fun _ ae hae => ⟨_, by rw [List.getElem?_set_self (by omega)], rfl, rfl, dd, _, v, rfl, hdd, rfl, k⟩), fun z => nomatch z⟩⟩⟩
      · exact ⟨false, T.xp ("BadGoal", "thing") (by decide) "BadNames" (by decide), (fun z => nomatch z), fun _ => ⟨false, T.xp ("BadGoal", "thing") (by decide) "BadAxioms" (by decide), (fun z => nomatch z), fun _ => ⟨false, T.xp ("BadGoal", "thing") (by decide) "BadTheory" (by decide), (fun z => nomatch z), fun _ => ⟨true, T.xp ("BadGoal", "thing") (by decide) "BadGoal" (by decide), (fun _ ae hae => ⟨_, by rw [List.getElem?_set_self (by omega)], rfl, rfl, dd, _, v, rfl, hdd, rfl, k⟩), fun z => nomatch z⟩⟩⟩⟩
    · exact h
section
variable {X : Cx}
/-- _law_met(lambda: ..) -/
theorem pe_met {c Pt : Addr} {k : Nat} {params : Arguments} {body : Expr} {scope : Scope} {t : XK → TE} {p lpos pos : Pos} (T : T02 X.prog X.w X.K X.mg X.base) (hg : Gl X "_law_met") (TB : TabB X.base X.mg c Pt) (hcode : X.env.code = .ref c)
    (hm : (Pt, X.env.qual ++ "<lambda>") ∈ tabT X.K) (hu : ∀ p ∈ tabT X.K, p.1 = Pt → p.2 = X.env.qual ++ "<lambda>") (hr : Room (k + 2) X.A) (L : LamS X.env.scope scope) (hdef : defaultsOf params X.env = ([], []))
    (hbind : ∀ (q : Str) (cl : List (Str × Addr)) (pm cv ctv : Value), bindArgs (PySem.W.kla_fn "<lambda>" q params body scope cl pm cv ctv) ⟨[], []⟩ = pure [])
    (hbody : ∀ (A : Around) (outer : List Env) (s : Shared) (H : Hp) (E : XK) (f c' : Addr), Room k (A.deeper (lamEnv X scope s.heap.objs.size f c')) → PE (lamCx X A outer s H E scope f c') body (t E)) :
    PE X (.Call (.Name "_law_met" p) [.Lambda params body scope lpos] [] pos) (tLam (tabT X.K) (TTmetN X.K) t) := by
  obtain ⟨⟨fd, F⟩, m⟩ := T.df 34 "_law_met" s__law_met rfl
  have hb := F.bindsN (ps := ["_law_ask"]) fun kV doc pm an cdv ct us hl => match us, hl with | [_], _ => rfl
  obtain ⟨oc, od, dV, kV, doc, pm, an, cdv, ct, osl, rfl, lk, hcd, _, _⟩ := F.ex
  exact pe_lamcall hg m F.kp lk hcd hb sc_me rfl (.inl rfl) (met_gives T) TB hcode hm hu hr L hdef hbind hbody
end
/-- what is asked meets x's error, which keeps v as z -/
theorem lam_bad {T : List (Addr × Str)} {K : PySem.W.Frag} {t : XK → TE} {σ : L2.St} {H : Hp} {Q : VK} {x z s : Str} {v : V} (hx : (x, z, s) ∈ metsN) (hT : Tabs T H)
    (ht : ∀ (H1 : Hp) (E : XK) (Q' : VK), ExtN H H1 → Tabs T H1 → (∀ H2, ExtN H1 H2 → Tabs T H2 → BadZ K x z v H2 E) → t E σ H1 Q')
    (k : ∀ (a : Addr) (G : Hp), ExtN H G → Tabs T G → G a = some (.tup [.str s, v]) → Q (.ref a) G) : tLam T (TTmetN K) t σ H Q := by
  refine ⟨hT, fun H1 e1 T1 => ht H1 _ _ e1 T1 fun H2 e2 T2 d G e hd => ⟨(x, z, s), hx, rfl, d, v, rfl, hd, by show 2 ≤ sizeLine; decide, fun a ha => ?_⟩⟩
  have x2 : Ex G (upd G a (.tup [.str s, v])) := Ex.new ha
  exact k a _ (((e1.trans e2).trans (ExtN.of e)).trans (ExtN.of x2)) ((T2.ext e).ext x2) upd_same
abbrev tMet (K : PySem.W.Frag) (t : XK → TE) : TE := tLam (tabT K) (TTmetN K) t
abbrev WEe (E : XK) : L2.St → XK := fun σ => WE (fun cls d _ H => E cls d H) σ
end K02

set_option Elab.async false
set_option linter.all false
set_option maxRecDepth 100000
set_option maxHeartbeats 4000000
/-! _law_refused_right: lambdas asked, one by one. -/
namespace K02
open PySem PySem.Spec PyProof.Rows L2 Evl LamX
abbrev nRf : List Str := ["_law_stream", "_law_raw", "_law_axioms", "_law_goal", "_law_at", "_law_free", "_law_odds", "_law_name", "_law_sentence", "_law_found", "_law_base", "_law_held", "_law_made", "_law_odd", "_law_some"]
theorem sc_rf : FnScope nRf ["_law_stream", "_law_raw", "_law_axioms", "_law_goal"] (defScope s__law_refused_right) := ⟨rfl, rfl, rfl, by decide +kernel, rfl, by decide +kernel, by decide +kernel⟩
def stR (i : Nat) : Stmt := (defBody s__law_refused_right).getD i (.Pass ⟨0, 0, 0, 0⟩)
abbrev XR (P : Program) (w : World) (K : PySem.W.Frag) (mg : Str → Option Value) (base : Heap) (f c : Addr) (A : Around) (outer : List Env) (s : Shared) (HX : Hp) : Cx := (cxOf CX0 P w K mg base nRf "_law_refused_right" (defScope s__law_refused_right) f (.ref c) A outer s HX E0).nox
theorem SqB.extN {H G : Hp} {b : Bool} {a : Addr} {us : List V} (h : SqB H b a us) (e : ExtN H G) : SqB G b a us := by
  cases b with
  | true => exact e _ _ h lst_tbl
  | false => exact e _ _ h tup_tbl
theorem Sm.extN {K : PySem.W.Frag} {H G : Hp} (e : ExtN H G) {m : Nat} {u v : V} (h : Sm K H m u v) : Sm K G m u v := by
  induction h with
  | dat h1 h2 h3 h4 => exact .dat (h1.extN e) (h2.extN e) h3 h4
  | nam h1 h2 => exact .nam (h1.extN e) h2
  | thy h1 h2 h3 => exact .thy (h1.extN e) h2 h3
  | seq h1 h2 h3 h4 h5 ih => exact .seq (h1.extN e) (h2.extN e) h3 h4 ih
theorem NoC.extN {K : PySem.W.Frag} {H G : Hp} {v : V} {C : Addr} (h : NoC K H v C) (e : ExtN H G) : NoC K G v C := by
  rcases h with ⟨o, ho⟩ | ⟨D, hD, hk⟩
  · exact .inl ⟨o, ho.extN e⟩
  · exact .inr ⟨D, hD.extN e, hk⟩
theorem sm_pair {K : PySem.W.Frag} {H : Hp} {m : Nat} {a c : Addr} {x y u v : V} (h1 : H a = some (.tup [x, y])) (h2 : H c = some (.tup [u, v])) (k1 : Sm K H m x u) (k2 : Sm K H m y v) : Sm K H (m + 1) (.ref a) (.ref c) :=
  .seq (b := false) h1 h2 rfl (by show 2 ≤ 40000; decide) fun i p q hp hq => by
    match i, hp, hq with
    | 0, hp, hq =>
      obtain rfl : x = p := by simpa using hp
      obtain rfl : u = q := by simpa using hq
      exact k1
    | 1, hp, hq =>
      obtain rfl : y = p := by simpa using hp
      obtain rfl : v = q := by simpa using hq
      exact k2
    | i + 2, hp, hq => simp at hp
theorem sm_one {K : PySem.W.Frag} {H : Hp} {m : Nat} {a c : Addr} {x u : V} (h1 : H a = some (.lst [x])) (h2 : H c = some (.lst [u])) (k1 : Sm K H m x u) : Sm K H (m + 1) (.ref a) (.ref c) :=
  .seq (b := true) h1 h2 rfl (by show 1 ≤ 40000; decide) fun i p q hp hq => by
    match i, hp, hq with
    | 0, hp, hq =>
      obtain rfl : x = p := by simpa using hp
      obtain rfl : u = q := by simpa using hq
      exact k1
    | i + 1, hp, hq => simp at hp
theorem sm_str {K : PySem.W.Frag} {H : Hp} {m : Nat} (s : Str) : Sm K H (m + 1) (.str s) (.str s) := .dat (o := .str s) rfl rfl rfl (Nat.succ_pos _)
theorem sm_int {K : PySem.W.Frag} {H : Hp} {m : Nat} (i : Int) : Sm K H (m + 1) (.int i) (.int i) := .dat (o := .int i) rfl rfl rfl (Nat.succ_pos _)
section
variable {K : PySem.W.Frag} {σ : L2.St} {G : Hp} {D : Ends} {tl : XK → TE} {y z s : Str} {x : V} {tu : TS}
abbrev tSmA (K : PySem.W.Frag) (s : Str) (tl : XK → TE) : TE := tCall (spSm K 72) [] E0 (tCons (tLst (tCons (tMet K tl) tNil)) (tCons (tLst (tCons (tTup (tCons (tC (.str s)) (tCons (tVar 13) tNil))) tNil)) tNil))
abbrev tSmB (K : PySem.W.Frag) (s : Str) (tl : XK → TE) (tv : TE) : TE := tCall (spSm K 72) [] E0 (tCons (tMet K tl) (tCons (tTup (tCons (tC (.str s)) (tCons tv tNil))) tNil))
/-- if not same([met(..)], [(.., odd)]) -/
theorem turnA (hx : (y, z, s) ∈ metsN) (h13 : σ[13]? = some (some x)) (hT : Tabs (tabT K) G) (ht : ∀ (H1 : Hp) (E : XK) (Q' : VK), ExtN G H1 → Tabs (tabT K) H1 → (∀ H2, ExtN H1 H2 → Tabs (tabT K) H2 → BadZ K y z x H2 E) → tl E σ H1 Q') (hSm : ∀ G', ExtN G G' → Sm K G' 70 x x)
    (k : ∀ G', ExtN G G' → Tabs (tabT K) G' → D.nx σ G') : tIfS (tNot (tB (tSmA K s tl))) tu tNext D σ G := by
  refine lam_bad hx hT ht fun ta G1 e1 T1 h1 => ⟨by show 1 ≤ sizeLine; decide, fun l1 n1 => ⟨x, h13, by show 2 ≤ sizeLine; decide, fun t2 n2 => ⟨by show 1 ≤ sizeLine; decide, fun l2 n3 => ?_⟩⟩⟩
  have x1 : Ex G1 (upd G1 l1 (.lst [.ref ta])) := Ex.new n1
  have x2 := Ex.new (o := .tup [.str s, x]) n2
  have x3 := Ex.new (o := .lst [.ref t2]) n3
  have x23 := x2.trans x3
  have x13 := x1.trans x23
  have eA := e1.trans (ExtN.of x13)
  refine ⟨.ref l1, .ref l2, rfl, sm_one (x23 _ _ upd_same) upd_same (sm_pair (x13 _ _ h1) (x3 _ _ upd_same) (sm_str _) ((hSm _ eA))), fun H3 e3 => ⟨true, rfl, ?_⟩⟩
  exact k H3 (eA.trans (ExtN.of e3)) ((T1.ext x13).ext e3)
/-- if not same(met(..), (.., v)) -/
theorem turnB {i : Int} {tv : TE} (hx : (y, z, s) ∈ metsN) (hT : Tabs (tabT K) G) (ht : ∀ (H1 : Hp) (E : XK) (Q' : VK), ExtN G H1 → Tabs (tabT K) H1 → (∀ H2, ExtN H1 H2 → Tabs (tabT K) H2 → BadZ K y z (.int i) H2 E) → tl E σ H1 Q') (hv : ∀ G', Ev tv σ G' (.int i))
    (k : ∀ G', ExtN G G' → Tabs (tabT K) G' → D.nx σ G') : tIfS (tNot (tB (tSmB K s tl tv))) tu tNext D σ G := by
  refine lam_bad hx hT ht fun ta G1 e1 T1 h1 => hv G1 G1 (Ex.refl _) _ fun G2 e2 => ⟨by show 2 ≤ sizeLine; decide, fun t2 n2 => ?_⟩
  have x2 : Ex G2 (upd G2 t2 (.tup [.str s, .int i])) := Ex.new n2
  have x12 := e2.trans x2
  have eA := e1.trans (ExtN.of x12)
  refine ⟨.ref ta, .ref t2, rfl, sm_pair (x12 _ _ h1) upd_same (sm_str _) (sm_int _), fun H3 e3 => ⟨true, rfl, ?_⟩⟩
  exact k H3 (eA.trans (ExtN.of e3)) ((T1.ext x12).ext e3)
end
def tForI (J : It) (g : L2.TG) (tb : TS) (D : Ends) (σ : L2.St) (H1 : Hp) : Prop := tFor (fun _ H R => R J H) g tb D σ H1
theorem forT1 {K : PySem.W.Frag} {σ : L2.St} {H : Hp} {te : TE} {g : L2.TG} {tb : TS} {D : Ends} (h : te σ H fun x H1 => ∃ a, x = V.ref a ∧ (∃ xs, SqT K H1 a xs) ∧ tForI (Itt K a) g tb D σ H1) : tFor (iTup K te) g tb D σ H := h
theorem eo_dct {σ : L2.St} {H : Hp} : EvO tDNewK σ H .dct := fun H1 e Q q => fun p hp => q (.ref p) _ (Ex.new hp) ⟨p, rfl, upd_same⟩
abbrev tLT (K : PySem.W.Frag) (t1 t2 : TE) : XK → TE := fun E => tMakeS (CT K) (spTi K) (WEe E) (tCons t1 (tCons t2 tNil))
abbrev tLP (K : PySem.W.Frag) (t1 t2 : TE) : XK → TE := fun E => tMakeS (CP K) (spPbi K) (WEe E) (tCons t1 (tCons t2 tNil))
section
variable {K : PySem.W.Frag} {σ : L2.St} {H : Hp} {E : XK} {Q : VK} {t1 t2 : TE} {v u : V}
theorem bad_mono {x z : Str} {H G : Hp} {E : XK} {v : V} (h : BadZ K x z v H E) (e : Ex H G) : BadZ K x z v G E := fun d J eJ hd => h d J (e.trans eJ) hd
/-- what is no names is told -/
theorem lt_names (h1 : Ev t1 σ H v) (h2 : ∀ G Q, (∀ w G2, Ex G G2 → Q w G2) → t2 σ G Q) (hT : Tabs (tabT K) H) (hn : ∀ G, ExtN H G → NoC K G v (CN K)) (hb : ∀ G, ExtN H G → Tabs (tabT K) G → BadZ K "BadNames" "thing" v G E) : tLT K t1 t2 E σ H Q :=
  h1 H (Ex.refl _) _ fun G1 e1 => h2 G1 _ fun w G2 e2 => fun x dx nx ndx hne => by
    have e12 := e1.trans e2
    have a1 : Ex G2 (upd G2 dx (.own x)) := Ex.new ndx
    have nx1 : (upd G2 dx (.own x)) x = none := by rw [upd_ne hne.symm]; exact nx
    have a2 : Ex G2 (upd (upd G2 dx (.own x)) x (.ins (CT K) dx [])) := a1.trans (Ex.new nx1)
    have eA := e12.trans a2
    exact ⟨x, dx, v, w, rfl, upd_same, hT.ext eA, .inl ⟨hn _ (ExtN.of eA), hb _ (ExtN.of eA) (hT.ext eA)⟩⟩
/-- what is no axioms is told -/
theorem lt_axioms {n : Addr} {ar pr : List (Str × Nat)} {i : Nat} (h1 : Ev t1 σ H (.ref n)) (h2 : Ev t2 σ H u) (hT : Tabs (tabT K) H) (hn : NmAt K H n ar pr) (d1 : (ar.map (·.1)).Nodup) (d2 : (pr.map (·.1)).Nodup)
    (ha : ((∃ C, Ins K H u C) ∧ i = 0) ∨ ∃ o, OV H u o ∧ AxOk o ∧ badAx ar pr o = some i) (hb : ∀ G, ExtN H G → Tabs (tabT K) G → BadZ K "BadAxioms" "index" (.int (i : Nat)) G E) : tLT K t1 t2 E σ H Q :=
  h1 H (Ex.refl _) _ fun G1 e1 => h2 G1 e1 _ fun G2 e2 => fun x dx nx ndx hne => by
    have e12 := e1.trans e2
    have a1 : Ex G2 (upd G2 dx (.own x)) := Ex.new ndx
    have nx1 : (upd G2 dx (.own x)) x = none := by rw [upd_ne hne.symm]; exact nx
    have a2 : Ex G2 (upd (upd G2 dx (.own x)) x (.ins (CT K) dx [])) := a1.trans (Ex.new nx1)
    have eA := e12.trans a2
    refine ⟨x, dx, .ref n, u, rfl, upd_same, hT.ext eA, .inr ⟨n, ar, pr, rfl, hn.ext eA, d1, d2, ?_⟩⟩
    rcases ha with ⟨⟨C, hC⟩, rfl⟩ | ⟨o, ho, A0, hbad⟩
    · exact .inl ⟨⟨C, hC.ext eA⟩, fun G eG tg => hb G ((ExtN.of eA).trans eG) tg⟩
    · exact .inr ⟨o, ho.ext eA, A0, .inl ⟨i, hbad, fun G eG tg => hb G ((ExtN.of eA).trans eG) tg⟩⟩
/-- what is no theory is told -/
theorem lp_theory (h1 : Ev t1 σ H v) (h2 : ∀ G Q, (∀ w G2, Ex G G2 → Q w G2) → t2 σ G Q) (hn : ∀ G, ExtN H G → NoC K G v (CT K)) (hb : ∀ G, Ex H G → BadZ K "BadTheory" "thing" v G E) : tLP K t1 t2 E σ H Q :=
  h1 H (Ex.refl _) _ fun G1 e1 => h2 G1 _ fun w G2 e2 => fun x dx nx ndx hne => by
    have e12 := e1.trans e2
    have a1 : Ex G2 (upd G2 dx (.own x)) := Ex.new ndx
    have nx1 : (upd G2 dx (.own x)) x = none := by rw [upd_ne hne.symm]; exact nx
    have a2 : Ex G2 (upd (upd G2 dx (.own x)) x (.ins (CP K) dx [])) := a1.trans (Ex.new nx1)
    have eA := e12.trans a2
    exact ⟨x, dx, v, w, rfl, upd_same, .inl ⟨hn _ (ExtN.of eA), hb _ eA⟩⟩
/-- what is no goal is told -/
theorem lp_goal {t n : Addr} {ar pr : List (Str × Nat)} {rs : List (Str × O)} (h1 : Ev t1 σ H (.ref t)) (h2 : Ev t2 σ H u) (hth : Th K H t n ar pr rs) (d1 : (ar.map (·.1)).Nodup) (d2 : (pr.map (·.1)).Nodup)
    (ha : (∃ C, Ins K H u C) ∨ ∃ o, OV H u o ∧ SOk o ∧ o.fitS ar pr [] = false) (hb : ∀ G, Ex H G → BadZ K "BadGoal" "thing" u G E) : tLP K t1 t2 E σ H Q :=
  h1 H (Ex.refl _) _ fun G1 e1 => h2 G1 e1 _ fun G2 e2 => fun x dx nx ndx hne => by
    have e12 := e1.trans e2
    have a1 : Ex G2 (upd G2 dx (.own x)) := Ex.new ndx
    have nx1 : (upd G2 dx (.own x)) x = none := by rw [upd_ne hne.symm]; exact nx
    have a2 : Ex G2 (upd (upd G2 dx (.own x)) x (.ins (CP K) dx [])) := a1.trans (Ex.new nx1)
    have eA := e12.trans a2
    refine ⟨x, dx, .ref t, u, rfl, upd_same, .inr ⟨t, n, ar, pr, rs, rfl, hth.ext eA, d1, d2, ?_⟩⟩
    rcases ha with ⟨C, hC⟩ | ⟨o, ho, S, hf⟩
    · exact .inl ⟨⟨C, hC.ext eA⟩, hb _ eA⟩
    · exact .inr ⟨o, ho.ext eA, S, .inl ⟨hf, hb _ eA⟩⟩
theorem e_non : ∀ G Q, (∀ w G2, Ex G G2 → Q w G2) → (tC .non : TE) σ G Q := fun G Q q => q _ _ (Ex.refl _)
end
end K02

set_option Elab.async false
set_option linter.all false
set_option maxRecDepth 100000
set_option maxHeartbeats 4000000
/-! _law_refused_right: what is no names, what is no axioms. -/
namespace K02
open PySem PySem.Spec PyProof.Rows L2 Evl LamX
def IsX (P : V → Hp → Prop) (te : TE) (σ : L2.St) (H : Hp) : Prop := ∀ H1, Ex H H1 → ∀ Q : VK, (∀ v H2, Ex H1 H2 → P v H2 → Q v H2) → te σ H1 Q
def IsXs (P : V → Hp → Prop) (n : Nat) (ta : TA) (σ : L2.St) (H : Hp) : Prop := ∀ H1, Ex H H1 → ∀ Q : List V → Hp → Prop, (∀ vs H2, Ex H1 H2 → vs.length = n → (∀ v ∈ vs, P v H2) → Q vs H2) → ta σ H1 Q
section
variable {P : V → Hp → Prop} {σ : L2.St} {H : Hp} {te : TE} {ta : TA} {n : Nat}
theorem ixs_nil : IsXs P 0 tNil σ H := fun H1 e Q q => q [] H1 (Ex.refl _) rfl fun v hv => by cases hv
theorem ixs_cons (up : ∀ v A B, ExtN A B → P v A → P v B) (h : IsX P te σ H) (k : IsXs P n ta σ H) : IsXs P (n + 1) (tCons te ta) σ H := fun H1 e Q q =>
  h H1 e _ fun v H2 e2 hv => k H2 (e.trans e2) _ fun vs H3 e3 hl hvs => q (v :: vs) H3 (e2.trans e3) (by rw [List.length_cons, hl]) fun u hu => by
    rcases List.mem_cons.mp hu with rfl | hu
    · exact up _ _ _ (ExtN.of e3) hv
    · exact hvs u hu
theorem ix_eo {o : O} (h : EvO te σ H o) (k : ∀ v G, OV G v o → P v G) : IsX P te σ H := fun H1 e Q q => h H1 e _ fun v H2 e2 hv => q v H2 e2 (k v H2 hv)
theorem ix_ev {v : V} (h : Ev te σ H v) (k : ∀ G, Ex H G → P v G) : IsX P te σ H := fun H1 e Q q => h H1 e _ fun H2 e2 => q v H2 e2 (k H2 (e.trans e2))
end
/-- for odd in (.., ..) -/
theorem loop_tup {P : V → Hp → Prop} {K : PySem.W.Frag} {n : Nat} {ta : TA} {G : Hp} {D : Ends} {tb : TS} {c0 : Option V} (mk : Option V → L2.St) (up : ∀ v A B, ExtN A B → P v A → P v B) (hn : n ≤ 100) (hs : ∀ c x, (mk c).set 13 (some x) = mk (some x)) (hT : Tabs (tabT K) G) (hx : IsXs P n ta (mk c0) G)
    (turn : ∀ (x : V) (G' : Hp) (D' : Ends), ExtN G G' → Tabs (tabT K) G' → P x G' → (∀ G'', ExtN G' G'' → Tabs (tabT K) G'' → D'.nx (mk (some x)) G'') → tb D' (mk (some x)) G')
    (k : ∀ G' c, ExtN G G' → Tabs (tabT K) G' → D.nx (mk c) G') : tFor (iTup K (tTup ta)) (gName 13) tb D (mk c0) G := by
  refine forT1 (hx G (Ex.refl _) _ fun us G1 e1 hl hP => ⟨sz_of (by omega), fun tt ntt => ?_⟩)
  have x2 : Ex G1 (upd G1 tt (.tup us)) := Ex.new ntt
  have htt : (upd G1 tt (.tup us)) tt = some (.tup us) := upd_same
  generalize upd G1 tt (.tup us) = G2 at x2 htt ⊢
  have e2 := e1.trans x2
  refine ⟨tt, rfl, ⟨_, st_of htt⟩, for_tup (xs := us) (fun i σ' G' => (∃ c, σ' = mk c) ∧ Tabs (tabT K) G' ∧ ExtN G2 G') ⟨⟨_, rfl⟩, hT.ext e2, ExtN.refl _⟩ ?_ ?_ ?_⟩
  · rintro i σ' G' hi ⟨_, _, e⟩
    exact st_of (e _ _ htt tup_tbl)
  · rintro i x σ' G' hi ⟨⟨c, rfl⟩, T', eN⟩
    unfold gName
    dsimp only
    rw [hs]
    exact turn x G' _ ((ExtN.of e2).trans eN) T' (up _ _ _ ((ExtN.of x2).trans eN) (hP x (List.mem_of_getElem? hi))) fun G'' e'' T'' => ⟨⟨_, rfl⟩, T'', eN.trans e''⟩
  · rintro σ' G' ⟨⟨c, rfl⟩, T', e⟩
    exact k G' c ((ExtN.of e2).trans e) T'
/-- what is none of the class, and the same as itself -/
def PnO (K : PySem.W.Frag) (C : Addr) (v : V) (G : Hp) : Prop := NoC K G v C ∧ Sm K G 70 v v
theorem pn_up {K : PySem.W.Frag} {C : Addr} : ∀ v A B, ExtN A B → PnO K C v A → PnO K C v B := fun v A B e h => ⟨h.1.extN e, h.2.extN e⟩
theorem pn_ov {K : PySem.W.Frag} {C : Addr} {o : O} (hd : o.dp ≤ 67) (hs : o.sz ≤ 40000) : ∀ v G, OV G v o → PnO K C v G := fun v G h => ⟨.inl ⟨o, h⟩, sm_of h h (by have := dq_dp o; omega) (by have := mx_sz o; omega)⟩
/-- what is no axioms at once -/
def PaO (K : PySem.W.Frag) (ar pr : List (Str × Nat)) (v : V) (G : Hp) : Prop := (∃ C, Ins K G v C) ∨ ∃ o, OV G v o ∧ AxOk o ∧ badAx ar pr o = some 0
theorem pa_up {K : PySem.W.Frag} {ar pr : List (Str × Nat)} : ∀ v A B, ExtN A B → PaO K ar pr v A → PaO K ar pr v B := fun v A B e h => by
  rcases h with ⟨C, h⟩ | ⟨o, h1, h2, h3⟩
  · exact .inl ⟨C, h.extN e⟩
  · exact .inr ⟨o, h1.extN e, h2, h3⟩
theorem pa_ov {K : PySem.W.Frag} {ar pr : List (Str × Nat)} {o : O} (h : o.isSeq = false) : ∀ v G, OV G v o → PaO K ar pr v G := fun v G hv => .inr ⟨o, hv, by
  have : o.items = [] := by
    cases o with
    | lst xs => cases h
    | tup xs => cases h
    | _ => rfl
  exact ⟨by rw [this]; rfl, by rw [this]; decide, fun x hx => by rw [this] at hx; cases hx⟩, by unfold badAx badR; rw [h, if_neg (by decide)]⟩
abbrev PtR (K : PySem.W.Frag) : Addr := (He.cT K ("_law_refused_right", none)).2
section
variable {P : Program} {w : World} {K : PySem.W.Frag} {mg : Str → Option Value} {base : Heap} {f c : Addr} {A : Around} {outer : List Env} {s : Shared} {HX : Hp}
theorem hm_rf : (PtR K, ("_law_refused_right.<locals>.<lambda>" : Str)) ∈ tabT K := List.mem_of_getElem? (i := 1) (by rfl)
theorem hu_rf (t2 : TabF K mg base) : ∀ p ∈ tabT K, p.1 = PtR K → p.2 = ("_law_refused_right.<locals>.<lambda>" : Str) := fun p hp e => by
  have h1 : tabT K = [((He.cT K ("bad_axiom", none)).2, ("bad_axiom.<locals>.<lambda>" : Str)), (PtR K, ("_law_refused_right.<locals>.<lambda>" : Str))] := rfl
  rw [h1] at hp
  rcases List.mem_cons.mp hp with rfl | hp
  · exact absurd e t2.ne
  · obtain rfl := List.mem_singleton.mp hp
    rfl
theorem tb_rf (t2 : TabF K mg base) (hc : He.codeOf K ("_law_refused_right", none) = c) : TabB base mg c (PtR K) := by
  have tb := t2.tb ("_law_refused_right", none) (List.mem_of_getElem? (i := 1) rfl)
  have ecd : (He.cT K ("_law_refused_right", none)).1 = c := hc
  rw [ecd] at tb
  exact tb
theorem rf0 (T : TN P w K mg base) (hr : Room 90 (XR P w K mg base f c A outer s HX).A) : ∃ t, PS (XR P w K mg base f c A outer s HX) (stR 0) t ∧
    ∀ (D : Ends) (G : Hp) (p q rt rw : Addr) (va : V) (n : Int) (ar pr : List (Str × Nat)) (rs : List (Str × O)) (g : O) (c2 c3 c4 c5 c6 c7 c8 c9 c10 c11 c12 c13 c14 : Option V),
      Spr G p q n → RwV (Hx (PQ p q) G) p q rt ar pr → Raw ar pr → (∃ xs, Hx (PQ p q) G rw = some (.lst xs) ∧ OVs (Hx (PQ p q) G) xs (rs.map axO)) → OV (Hx (PQ p q) G) va g →
      (∀ G' nb, Ex G G' → TF K (Hx (PQ p q) G') p q rt rw nb va ar pr rs g → D.nx [some (.ref p), some (.ref rt), c2, c3, c4, c5, c6, c7, c8, c9, some (.ref nb), c11, c12, c13, c14] G') →
      t D [some (.ref p), some (.ref rt), c2, c3, c4, c5, c6, c7, c8, c9, c10, c11, c12, c13, c14] G := by
  obtain ⟨fN, fdN, MN, FN⟩ := T.mkN
  have GN := ok_ninit T FN
  have bN := FN.bindsN (ps := ["self", "functions", "predicates"]) (fun kV doc pm an cdv ct us hl => match us, hl with | [_, _, _], _ => rfl)
  refine ⟨_, ps_set (i := 10) sc_rf.nd rfl (by first | exact Or.inl rfl | exact Or.inr rfl) (pe_make MN GN (hr.mono (by decide)) (by rfl) T.gN bN .nil pass0 (pa_cons (pe_ix ix_tup (pv 1) pe_int (fun _ _ => rfl)) (pa_cons (pe_ix ix_tup (pv 1) pe_int (fun _ _ => rfl)) pa_nil))), ?_⟩
  intro D G p q rt rw va n ar pr rs g c2 c3 c4 c5 c6 c7 c8 c9 c10 c11 c12 c13 c14 S hraw R hrows haim k
  obtain ⟨a, b, ys, zs, y1, na1, na2, nb1, nb2, ha, hb, hx, hy⟩ := (hraw.ext hx_ex).ex
  refine ⟨_, rfl, rt, _, 0, .ref a, rfl, rfl, st_of y1, rfl, _, rfl, rt, _, 1, .ref b, rfl, rfl, st_of y1, rfl, fun x dx nx ndx hne => ?_⟩
  refine mk_names (o1 := .lst (ar.map prO)) (o2 := .lst (pr.map prO)) (ps := ar) (qs := pr) nx ndx hne ⟨a, ys, rfl, ha, hx⟩ ⟨b, zs, rfl, hb, hy⟩ (by show O.tup (O.strips _) = _; rw [prs_strip]) (by show O.tup (O.strips _) = _; rw [prs_strip]) (R.ok (.refl _) (.refl _)) (.refl _) R.s1 (.refl _) R.s2 fun G' hN e => ?_
  have g1 : Go (PQ p q) G G' := Go.of e
  obtain ⟨xs, h1, h2⟩ := hrows
  exact k G' x e ⟨hraw.ext g1.ex, ⟨xs, g1.ex _ _ h1, h2.ext g1.ex⟩, haim.ext g1.ex, hN.ext (hx_mono (pq_old S))⟩
theorem rf1 (T : TN P w K mg base) (t2 : TabF K mg base) (hc : He.codeOf K ("_law_refused_right", none) = c) (hr : Room 90 (XR P w K mg base f c A outer s HX).A) : ∃ t, PS (XR P w K mg base f c A outer s HX) (stR 1) t ∧
    ∀ (D : Ends) (G : Hp) (p q rt : Addr) (ar pr : List (Str × Nat)) (c0 c2 c3 c4 c5 c6 c7 c8 c9 c10 c11 c12 c13 c14 : Option V),
      Tabs (tabT K) G → RwV G p q rt ar pr → Raw ar pr →
      (∀ G' c13, ExtN G G' → Tabs (tabT K) G' → D.nx [c0, some (.ref rt), c2, c3, c4, c5, c6, c7, c8, c9, c10, c11, c12, c13, c14] G') →
      t D [c0, some (.ref rt), c2, c3, c4, c5, c6, c7, c8, c9, c10, c11, c12, c13, c14] G := by
  obtain ⟨fS, dS, GS, bS, kS, mS⟩ := (ok_same2 T 72).ex
  obtain ⟨fI, fdI, MI, FI⟩ := T.mkT
  have GI := ok_tinit T t2 FI
  have bI := FI.bindsN (ps := ["self", "names", "axioms"]) (fun kV doc pm an cdv ct us hl => match us, hl with | [_, _, _], _ => rfl)
  refine ⟨_, ps_for PassesOwn.never rfl (pi_tup (pe_tup (pa_cons pe_non (pa_cons pe_int (pa_cons pe_str (pa_cons (pe_lst pa_nil) (pa_cons pe_dnewK (pa_cons pe_bl (pa_cons (pv 1) (pa_cons (pe_callTy call_list_of (by rfl) T.list PyProof.Rows.boot_list (pa_cons (pv 1) pa_nil)) pa_nil)))))))))) (pg_name (i := 13) sc_rf.nd rfl (Or.inr rfl))
    (pss_one (ps_if (pt_not (pt_val (pe_call GS (hr.mono (by decide)) (by rfl) mS kS bS .nil pass0 (pa_cons (pe_lst (pa_cons (pe_met (k := 40) (t := tLT K (tVar 13) (tC .non)) T.toT02 (by rfl) (tb_rf t2 hc) rfl hm_rf (hu_rf t2) (hr.mono (by decide)) (lamS_by (sc := defScope s__law_refused_right) (by decide +kernel)) rfl (fun _ _ _ _ _ => rfl)
        (fun A outer s H E f c' hr2 => pe_makeS (sp := spTi K) MI GI (hr2.mono (by decide)) (by rfl) T.gT bI (fun σ => passAt (takes_of rfl rfl rfl rfl) σ) (pa_cons (pv 13) (pa_cons pe_non pa_nil)))) pa_nil)) (pa_cons (pe_lst (pa_cons (pe_tup (pa_cons pe_str (pa_cons (pv 13) pa_nil))) pa_nil)) pa_nil))))) (pss_one ps_never) pss_nil)), ?_⟩
  intro D G p q rt ar pr c0 c2 c3 c4 c5 c6 c7 c8 c9 c10 c11 c12 c13 c14 hT hraw R k
  obtain ⟨a, b, ys, zs, y1, na1, na2, nb1, nb2, ha, hb, hx, hy⟩ := hraw.ex
  have d1 := prs_dp ar
  have d2 := prs_dp pr
  have s1 := prs_sz ar
  have s2 := prs_sz pr
  have l1 := R.l1
  have l2 := R.l2
  have hr1 : OV G (.ref rt) (.tup [.lst (ar.map prO), .lst (pr.map prO)]) := ⟨rt, _, rfl, y1, .cons ⟨a, ys, rfl, ha, hx⟩ (.cons ⟨b, zs, rfl, hb, hy⟩ .nil)⟩
  have el : EvO (tCB (fun xs H Q => ∃ p ys, xs = [V.ref p] ∧ (SqL K H p ys ∨ SqT K H p ys) ∧ ∀ l, H l = none → Q (V.ref l) (upd H l (HO.lst ys))) (tCons (tVar 1) tNil)) [c0, some (.ref rt), c2, c3, c4, c5, c6, c7, c8, c9, c10, c11, c12, c13, c14] G (.lst [.lst (ar.map prO), .lst (pr.map prO)]) := fun H1 e Q q =>
    ⟨_, rfl, rt, _, rfl, .inr (st_of (e _ _ y1)), fun l nl => q (.ref l) _ (Ex.new nl) ⟨l, _, rfl, upd_same, .cons ⟨a, ys, rfl, Ex.new nl _ _ (e _ _ ha), (hx.ext e).ext (Ex.new nl)⟩ (.cons ⟨b, zs, rfl, Ex.new nl _ _ (e _ _ hb), (hy.ext e).ext (Ex.new nl)⟩ .nil)⟩⟩
  have dd1 : (O.tup [.lst (ar.map prO), .lst (pr.map prO)]).dp ≤ 67 := by show max (O.dps (ar.map prO) + 1) (max (O.dps (pr.map prO) + 1) 0) + 1 ≤ 67; omega
  have ss1 : (O.tup [.lst (ar.map prO), .lst (pr.map prO)]).sz ≤ 40000 := by show ((O.szs (ar.map prO) + 1) + ((O.szs (pr.map prO) + 1) + 0)) + 1 ≤ 40000; omega
  refine loop_tup (P := PnO K (CN K)) (n := 8) (fun c13 => [c0, some (.ref rt), c2, c3, c4, c5, c6, c7, c8, c9, c10, c11, c12, c13, c14]) pn_up (by decide) (fun c x => rfl) hT
    (ixs_cons pn_up (ix_eo eo_non (pn_ov (by decide) (by decide))) (ixs_cons pn_up (ix_eo eo_int (pn_ov (Nat.zero_le _) (by show 1 ≤ 40000; decide))) (ixs_cons pn_up (ix_eo eo_str (pn_ov (Nat.zero_le _) (by show 1 ≤ 40000; decide))) (ixs_cons pn_up (ix_eo (eo_lst eao_nil (by decide)) (pn_ov (by decide) (by decide))) (ixs_cons pn_up (ix_eo eo_dct (pn_ov (by decide) (by decide)))
      (ixs_cons pn_up (ix_eo eo_bl (pn_ov (Nat.zero_le _) (by show 1 ≤ 40000; decide))) (ixs_cons pn_up (ix_eo (eo_var rfl hr1) (pn_ov dd1 ss1)) (ixs_cons pn_up (ix_eo el (pn_ov dd1 ss1)) ixs_nil))))))))
    (fun x G' D' e' T' hx' k' => turnA (y := "BadNames") (z := "thing") (s := "names") (x := x) (by decide) rfl T' (fun H1 E Q' e1 T1 hb => lt_names (v := x) (ev_var rfl) e_non T1 (fun G2 e2 => hx'.1.extN (e1.trans e2)) hb) (fun G2 e2 => hx'.2.extN e2) k') (fun G' c13 e' T' => k G' c13 e' T')
theorem rf2 (T : TN P w K mg base) (t2 : TabF K mg base) (hc : He.codeOf K ("_law_refused_right", none) = c) (hr : Room 90 (XR P w K mg base f c A outer s HX).A) : ∃ t, PS (XR P w K mg base f c A outer s HX) (stR 2) t ∧
    ∀ (D : Ends) (G : Hp) (nb : Addr) (ar pr : List (Str × Nat)) (c0 c1 c2 c3 c4 c5 c6 c7 c8 c9 c11 c12 c13 c14 : Option V),
      Tabs (tabT K) G → NmAt K G nb ar pr → Raw ar pr →
      (∀ G' c13, ExtN G G' → Tabs (tabT K) G' → D.nx [c0, c1, c2, c3, c4, c5, c6, c7, c8, c9, some (.ref nb), c11, c12, c13, c14] G') →
      t D [c0, c1, c2, c3, c4, c5, c6, c7, c8, c9, some (.ref nb), c11, c12, c13, c14] G := by
  obtain ⟨fS, dS, GS, bS, kS, mS⟩ := (ok_same2 T 72).ex
  obtain ⟨fI, fdI, MI, FI⟩ := T.mkT
  have GI := ok_tinit T t2 FI
  have bI := FI.bindsN (ps := ["self", "names", "axioms"]) (fun kV doc pm an cdv ct us hl => match us, hl with | [_, _, _], _ => rfl)
  refine ⟨_, ps_for PassesOwn.never rfl (pi_tup (pe_tup (pa_cons pe_non (pa_cons pe_int (pa_cons pe_str (pa_cons pe_bl (pa_cons pe_dnewK (pa_cons (pv 10) pa_nil)))))))) (pg_name (i := 13) sc_rf.nd rfl (Or.inr rfl))
    (pss_one (ps_if (pt_not (pt_val (pe_call GS (hr.mono (by decide)) (by rfl) mS kS bS .nil pass0 (pa_cons (pe_met (k := 40) (t := tLT K (tVar 10) (tVar 13)) T.toT02 (by rfl) (tb_rf t2 hc) rfl hm_rf (hu_rf t2) (hr.mono (by decide)) (lamS_by (sc := defScope s__law_refused_right) (by decide +kernel)) rfl (fun _ _ _ _ _ => rfl)
        (fun A outer s H E f c' hr2 => pe_makeS (sp := spTi K) MI GI (hr2.mono (by decide)) (by rfl) T.gT bI (fun σ => passAt (takes_of rfl rfl rfl rfl) σ) (pa_cons (pv 10) (pa_cons (pv 13) pa_nil)))) (pa_cons (pe_tup (pa_cons pe_str (pa_cons pe_int pa_nil))) pa_nil))))) (pss_one ps_never) pss_nil)), ?_⟩
  intro D G nb ar pr c0 c1 c2 c3 c4 c5 c6 c7 c8 c9 c11 c12 c13 c14 hT hN R k
  refine loop_tup (P := PaO K ar pr) (n := 6) (fun c13 => [c0, c1, c2, c3, c4, c5, c6, c7, c8, c9, some (.ref nb), c11, c12, c13, c14]) pa_up (by decide) (fun c x => rfl) hT
    (ixs_cons pa_up (ix_eo eo_non (pa_ov rfl)) (ixs_cons pa_up (ix_eo eo_int (pa_ov rfl)) (ixs_cons pa_up (ix_eo eo_str (pa_ov rfl)) (ixs_cons pa_up (ix_eo eo_bl (pa_ov rfl)) (ixs_cons pa_up (ix_eo eo_dct (pa_ov rfl)) (ixs_cons pa_up (ix_ev (ev_var rfl) fun J eJ => .inl ⟨CN K, (hN.ext eJ).ins T⟩) ixs_nil))))))
    (fun x G' D' e' T' hx' k' => turnB (y := "BadAxioms") (z := "index") (s := "axioms") (i := ((0 : Nat) : Int)) (by decide) T' (fun H1 E Q' e1 T1 hb => lt_axioms (i := 0) (ev_var rfl) (ev_var rfl) T1 (hN.extN (e'.trans e1)) R.d1 R.d2 (by
      rcases pa_up _ _ _ e1 hx' with h | h
      · exact .inl ⟨h, rfl⟩
      · exact .inr h) hb) (fun G2 => ev_c) k') (fun G' c13 e' T' => k G' c13 e' T')
end
end K02

set_option Elab.async false
set_option linter.all false
set_option maxRecDepth 100000
set_option maxHeartbeats 4000000
/-! _law_refused_right: the odd rows. -/
namespace K02
open PySem PySem.Spec PyProof.Rows L2 Evl LamX
/-! ### values beside some objects -/
def EvZ (Z : Addr → Prop) (te : TE) (σ : L2.St) (H : Hp) (o : O) : Prop := ∀ H1, Ex H H1 → ∀ Q : VK, (∀ v H2, Ex H1 H2 → OV (Hx Z H2) v o → Q v H2) → te σ H1 Q
def EvAZ (Z : Addr → Prop) (ta : TA) (σ : L2.St) (H : Hp) (os : List O) : Prop := ∀ H1, Ex H H1 → ∀ Q : List V → Hp → Prop, (∀ vs H2, Ex H1 H2 → OVs (Hx Z H2) vs os → Q vs H2) → ta σ H1 Q
section
variable {Z : Addr → Prop} {σ : L2.St} {H : Hp} {te : TE} {ta : TA}
theorem hxz {A B : Hp} (e : Ex A B) : Ex (Hx Z A) (Hx Z B) := (Go.of (B := Z) e).ex
theorem ez_str {i : Str} : EvZ Z (tC (.str i)) σ H (.str i) := fun H1 e Q q => q _ _ (Ex.refl _) rfl
theorem ez_int {i : Int} : EvZ Z (tC (.int i)) σ H (.int i) := fun H1 e Q q => q _ _ (Ex.refl _) rfl
theorem ez_non : EvZ Z (tC .non) σ H .non := fun H1 e Q q => q _ _ (Ex.refl _) rfl
theorem ez_var {i : Nat} {v : V} {o : O} (h : σ[i]? = some (some v)) (k : OV (Hx Z H) v o) : EvZ Z (tVar i) σ H o := fun H1 e Q q => ⟨v, h, q _ _ (Ex.refl _) (k.ext (hxz e))⟩
theorem eaz_nil : EvAZ Z tNil σ H [] := fun H1 e Q q => q _ _ (Ex.refl _) rfl
theorem eaz_cons {o : O} {os : List O} (h : EvZ Z te σ H o) (k : EvAZ Z ta σ H os) : EvAZ Z (tCons te ta) σ H (o :: os) := fun H1 e Q q =>
  h H1 e _ fun v H2 e2 hv => k H2 (e.trans e2) _ fun vs H3 e3 hvs => q (v :: vs) H3 (e2.trans e3) (.cons (hv.ext (hxz e3)) hvs)
theorem z_new (hZ : ∀ b, Z b → Old H b) {H1 H2 : Hp} {p : Addr} (e : Ex H H1) (e2 : Ex H1 H2) (hp : H2 p = none) : ¬ Z p := fun z => by
  obtain ⟨xs, h⟩ := hZ p z
  rw [e2 _ _ (e _ _ h)] at hp
  cases hp
theorem ez_tup (hZ : ∀ b, Z b → Old H b) {os : List O} (h : EvAZ Z ta σ H os) (n : os.length ≤ 1000) : EvZ Z (tTup ta) σ H (.tup os) := fun H1 e Q q =>
  h H1 e _ fun vs H2 e2 hvs => ⟨sz_of (by rw [hvs.length]; omega), fun p hp => q (.ref p) _ (e2.trans (Ex.new hp)) ⟨p, vs, rfl, hx_of (z_new hZ e e2 hp) tup_tbl upd_same, hvs.ext (hxz (Ex.new hp))⟩⟩
theorem ez_lst (hZ : ∀ b, Z b → Old H b) {os : List O} (h : EvAZ Z ta σ H os) (n : os.length ≤ 1000) : EvZ Z (tLst ta) σ H (.lst os) := fun H1 e Q q =>
  h H1 e _ fun vs H2 e2 hvs => ⟨sz_of (by rw [hvs.length]; omega), fun p hp => q (.ref p) _ (e2.trans (Ex.new hp)) ⟨p, vs, rfl, hx_of (z_new hZ e e2 hp) lst_tbl upd_same, hvs.ext (hxz (Ex.new hp))⟩⟩
theorem elz_lst {os : List O} (h : EvAZ Z ta σ H os) (n : os.length ≤ 1000) : EvLP (tLst ta) σ H (fun xs G => OVs (Hx Z G) xs os) := fun H1 e Q q =>
  h H1 e _ fun vs H2 e2 hvs => ⟨sz_of (by rw [hvs.length]; omega), fun p hp => q p vs _ (fresh_back e2 hp) (e2.trans (Ex.new hp)) upd_same (hvs.ext (hxz (Ex.new hp)))⟩
end
/-! ### the odd rows -/
def freeO : O := .tup [.str "=", .str "X", .str "X"]
def odds4 (g : O) : List O := [.non, .int 5, .str "ab", .lst [], .tup [.str "b1"], .tup [.str "b1", g, g], .tup [.str "all", g], .tup [.str "B1", g], .tup [.int 5, g], .tup [.lst [.str "b1"], g]]
def odds5 (g : O) : List O := [.tup [.str "", g]]
def odds6 : List O := [.tup [.str "b1", freeO], .tup [.str "b1", .non], .tup [.str "b1", .tup [.str "p9"]], .tup [.str "b1", .tup [.str "=", .tup [.str "c9"], .tup [.str "c9"]]], .tup [.str "b1", .str "X"]]
def odds7 : List O := [.tup [.str "b1", .lst []]]
def odds8 (g : O) : List O := [.tup [.str "b1", .tup [.str "all", .str "x", g]], .tup [.str "b1", .tup [.str "and", g]], .tup [.str "b1", .tup [.str "not", g, g]], .tup [.str "b1", .tup [g]]]
def oddsO (g : O) : List O := odds4 g ++ odds5 g ++ odds6 ++ odds7 ++ odds8 g
/-- what an odd row is: small, of known texts, never right -/
structure Odd (ar pr : List (Str × Nat)) (o : O) : Prop where
  ss : o.ss = true
  nod : o.nod = true
  dp : o.dp ≤ 62
  sz : o.sz ≤ 2000
  ok : o.isPair = true → SOk o.h1
  bad : ∀ bs : List Str, rowX (fun s => s.fitS ar pr []) bs o = true
theorem ss_all : ∀ s ∈ (["ab", "b1", "all", "B1", "", "=", "X", "p9", "c9", "x", "and", "not"] : List Str), SS.contains s = true := by decide +kernel
section
variable {ar pr : List (Str × Nat)} {g : O}
theorem rowX_np {f : O → Bool} {bs : List Str} {o : O} (h : o.isPair = false) : rowX f bs o = true := by unfold rowX; rw [h]; rfl
theorem rowX_nm {f : O → Bool} {bs : List Str} {o : O} (h : o.h0.nameO = false) : rowX f bs o = true := by unfold rowX; rw [h]; simp
theorem rowX_f {f : O → Bool} {bs : List Str} {o : O} (h : f o.h1 = false) : rowX f bs o = true := by unfold rowX; rw [h]; simp
theorem nm_no : nameB "all" = false ∧ nameB "B1" = false ∧ nameB "" = false := by decide +kernel
theorem p9_no : ("p9" : Str) ∉ pool2 ∧ ("c9" : Str) ∉ pool1 := by decide +kernel
theorem arl_p9 (R : Raw ar pr) : arl pr "p9" = none ∧ arl ar "c9" = none := ⟨arl_none fun r hr e => p9_no.1 (e ▸ (R.n2 r hr).1), arl_none fun r hr e => p9_no.2 (e ▸ (R.n1 r hr).1)⟩
theorem free_no : freeO.fitS ar pr [] = false := by
  show fitSL ar pr [.str "=", .str "X", .str "X"] [] = false
  rw [fs_atom rfl rfl rfl]
  have nX : okV ([] : List Str) "X" = false := by decide +kernel
  show (_ && (okV [] "X" && _)) = false
  rw [nX]
  exact Bool.and_false _
theorem p9_fit (R : Raw ar pr) : (O.tup [.str "p9"]).fitS ar pr [] = false := by
  show fitSL ar pr [.str "p9"] [] = false
  rw [fitSL]
  show ((false || decide (arl pr "p9" = some 0)) && _) = false
  rw [(arl_p9 R).1]
  rfl
theorem odd_all (R : Raw ar pr) (g0 : GoT ar pr g) : ∀ o ∈ oddsO g, Odd ar pr o := by
  have gs := g0.dr.ss
  have gn := g0.dr.nod
  have gd := g0.dr.dp
  have gz := g0.dr.sz
  have gk := g0.dr.hok
  have ge : g.ed = true := wd_ed _ g0.dr.wd
  have gso : SOk g := dr_sok g0.dr (by decide)
  have S := fun s h => ss_all s h
  obtain ⟨a9, c9⟩ := arl_p9 R
  have nX : okV ([] : List Str) "X" = false := by decide +kernel
  have gt := g0.r.tp
  intro o ho
  simp only [oddsO, odds4, odds5, odds6, odds7, odds8, List.mem_append, List.mem_cons, List.not_mem_nil, or_false] at ho
  have hb1 : SS.contains "b1" = true := S "b1" (by simp)
  have hall : SS.contains "all" = true := S "all" (by simp)
  have hB1 : SS.contains "B1" = true := S "B1" (by simp)
  have hem : SS.contains "" = true := S "" (by simp)
  have hand : SS.contains "and" = true := S "and" (by simp)
  have hnot : SS.contains "not" = true := S "not" (by simp)
  have hx : SS.contains "x" = true := S "x" (by simp)
  have na : ∀ s : Str, s ∉ pool2 → ∀ xs : List O, K02.placesD pr (.str s :: xs) = false := fun s hs xs => by
    show decide (arl pr s = some xs.length) = false
    rw [arl_none fun r hr (e : r.1 = s) => hs (e ▸ (R.n2 r hr).1)]
    rfl
  have vx : varB "x" = false := by decide +kernel
  have gh : hdL [g] = true := by show (g.isStr || (g.ed && decide (g.dp ≤ 60))) = true; rw [ge, decide_eq_true gd]; simp
  rcases ho with (((ho | ho) | ho) | ho) | ho
  · rcases ho with rfl | rfl | rfl | rfl | rfl | rfl | rfl | rfl | rfl | rfl
    · exact ⟨rfl, rfl, by decide, by decide, (fun z => nomatch z), fun bs => rowX_np rfl⟩
    · exact ⟨rfl, rfl, by decide, by decide, (fun z => nomatch z), fun bs => rowX_np rfl⟩
    · exact ⟨S "ab" (by simp), rfl, by decide, by decide, (fun z => nomatch z), fun bs => rowX_np rfl⟩
    · exact ⟨rfl, rfl, by decide, by decide, (fun z => nomatch z), fun bs => rowX_np rfl⟩
    · exact ⟨by show (SS.contains "b1" && true) = true; rw [hb1]; rfl, rfl, by decide, by decide, (fun z => nomatch z), fun bs => rowX_np rfl⟩
    · exact ⟨by show (SS.contains "b1" && (g.ss && (g.ss && true))) = true; rw [hb1, gs]; rfl, by show (true && (g.nod && (g.nod && true))) = true; rw [gn]; rfl, by show max 0 (max g.dp (max g.dp 0)) + 1 ≤ 62; omega, by show (1 + (g.sz + (g.sz + 0))) + 1 ≤ 2000; omega, (fun z => nomatch z), fun bs => rowX_np rfl⟩
    · exact ⟨by show (SS.contains "all" && (g.ss && true)) = true; rw [hall, gs]; rfl, by show (true && (g.nod && true)) = true; rw [gn]; rfl, by show max 0 (max g.dp 0) + 1 ≤ 62; omega, by show (1 + (g.sz + 0)) + 1 ≤ 2000; omega, fun _ => gso, fun bs => rowX_nm nm_no.1⟩
    · exact ⟨by show (SS.contains "B1" && (g.ss && true)) = true; rw [hB1, gs]; rfl, by show (true && (g.nod && true)) = true; rw [gn]; rfl, by show max 0 (max g.dp 0) + 1 ≤ 62; omega, by show (1 + (g.sz + 0)) + 1 ≤ 2000; omega, fun _ => gso, fun bs => rowX_nm nm_no.2.1⟩
    · exact ⟨by show (true && (g.ss && true)) = true; rw [gs]; rfl, by show (true && (g.nod && true)) = true; rw [gn]; rfl, by show max 0 (max g.dp 0) + 1 ≤ 62; omega, by show (1 + (g.sz + 0)) + 1 ≤ 2000; omega, fun _ => gso, fun bs => rowX_nm rfl⟩
    · exact ⟨by show ((SS.contains "b1" && true) && (g.ss && true)) = true; rw [hb1, gs]; rfl, by show ((true && true) && (g.nod && true)) = true; rw [gn]; rfl, by show max (max 0 0 + 1) (max g.dp 0) + 1 ≤ 62; omega, by show (((1 + 0) + 1) + (g.sz + 0)) + 1 ≤ 2000; omega, fun _ => gso, fun bs => rowX_nm rfl⟩
  · obtain rfl := ho
    exact ⟨by show (SS.contains "" && (g.ss && true)) = true; rw [hem, gs]; rfl, by show (true && (g.nod && true)) = true; rw [gn]; rfl, by show max 0 (max g.dp 0) + 1 ≤ 62; omega, by show (1 + (g.sz + 0)) + 1 ≤ 2000; omega, fun _ => gso, fun bs => rowX_nm nm_no.2.2⟩
  · rcases ho with rfl | rfl | rfl | rfl | rfl
    · exact ⟨by decide +kernel, by decide, by decide, by decide, fun _ => ⟨by decide +kernel, by decide +kernel, by decide⟩, fun bs => rowX_f free_no⟩
    · exact ⟨by decide +kernel, by decide, by decide, by decide, fun _ => ⟨rfl, rfl, by decide⟩, fun bs => rowX_f rfl⟩
    · exact ⟨by decide +kernel, by decide, by decide, by decide, fun _ => ⟨by decide +kernel, by decide +kernel, by decide⟩, fun bs => rowX_f (p9_fit R)⟩
    · exact ⟨by decide +kernel, by decide, by decide, by decide, fun _ => ⟨by decide +kernel, by decide +kernel, by decide⟩, fun bs => rowX_f (by
        show fitSL ar pr [.str "=", .tup [.str "c9"], .tup [.str "c9"]] [] = false
        rw [fs_atom rfl rfl rfl]
        show (_ && ((decide (arl ar "c9" = some 0) && true) && _)) = false
        rw [c9]
        exact Bool.and_false _)⟩
    · exact ⟨by decide +kernel, by decide, by decide, by decide, fun _ => ⟨by decide +kernel, by decide +kernel, by decide⟩, fun bs => rowX_f rfl⟩
  · obtain rfl := ho
    exact ⟨by decide +kernel, by decide, by decide, by decide, fun _ => ⟨by decide +kernel, by decide +kernel, by decide⟩, fun bs => rowX_f (by show (O.lst []).fitS ar pr [] = false; rw [O.fitS, fitSL])⟩
  · rcases ho with rfl | rfl | rfl | rfl
    · refine ⟨by show (SS.contains "b1" && ((SS.contains "all" && (SS.contains "x" && (g.ss && true))) && true)) = true; rw [hb1, hall, hx, gs]; rfl, by show (true && ((true && (true && (g.nod && true))) && true)) = true; rw [gn]; rfl, by show max 0 (max (max 0 (max 0 (max g.dp 0)) + 1) 0) + 1 ≤ 62; omega, by show (1 + (((1 + (1 + (g.sz + 0))) + 1) + 0)) + 1 ≤ 2000; omega, fun _ => ⟨by show (SS.contains "all" && (SS.contains "x" && (g.ss && true))) = true; rw [hall, hx, gs]; rfl, by show (true && (true && (true && (g.hok && true)))) = true; rw [gk]; rfl, by show (1 + (1 + (g.sz + 0))) + 1 ≤ 7000; omega⟩, fun bs => rowX_f ?_⟩
      show fitSL ar pr [.str "all", .str "x", g] [] = false
      rw [fs_atom rfl rfl (by show ((O.str "all").isIn ["all", "some"] && (true && varB "x")) = false; rw [vx]; simp)]
      show ((false || K02.placesD pr _) && _) = false
      rw [na "all" (by decide +kernel)]
      rfl
    · refine ⟨by show (SS.contains "b1" && ((SS.contains "and" && (g.ss && true)) && true)) = true; rw [hb1, hand, gs]; rfl, by show (true && ((true && (g.nod && true)) && true)) = true; rw [gn]; rfl, by show max 0 (max (max 0 (max g.dp 0) + 1) 0) + 1 ≤ 62; omega, by show (1 + (((1 + (g.sz + 0)) + 1) + 0)) + 1 ≤ 2000; omega, fun _ => ⟨by show (SS.contains "and" && (g.ss && true)) = true; rw [hand, gs]; rfl, by show (true && (true && (g.hok && true))) = true; rw [gk]; rfl, by show (1 + (g.sz + 0)) + 1 ≤ 7000; omega⟩, fun bs => rowX_f ?_⟩
      show fitSL ar pr [.str "and", g] [] = false
      rw [fs_atom rfl rfl rfl]
      show ((false || K02.placesD pr _) && _) = false
      rw [na "and" (by decide +kernel)]
      rfl
    · refine ⟨by show (SS.contains "b1" && ((SS.contains "not" && (g.ss && (g.ss && true))) && true)) = true; rw [hb1, hnot, gs]; rfl, by show (true && ((true && (g.nod && (g.nod && true))) && true)) = true; rw [gn]; rfl, by show max 0 (max (max 0 (max g.dp (max g.dp 0)) + 1) 0) + 1 ≤ 62; omega, by show (1 + (((1 + (g.sz + (g.sz + 0))) + 1) + 0)) + 1 ≤ 2000; omega, fun _ => ⟨by show (SS.contains "not" && (g.ss && (g.ss && true))) = true; rw [hnot, gs]; rfl, by show (true && (true && (g.hok && (g.hok && true)))) = true; rw [gk]; rfl, by show (1 + (g.sz + (g.sz + 0))) + 1 ≤ 7000; omega⟩, fun bs => rowX_f ?_⟩
      show fitSL ar pr [.str "not", g, g] [] = false
      rw [fs_atom rfl rfl rfl]
      show ((false || K02.placesD pr _) && _) = false
      rw [na "not" (by decide +kernel)]
      rfl
    · refine ⟨by show (SS.contains "b1" && ((g.ss && true) && true)) = true; rw [hb1, gs]; rfl, by show (true && ((g.nod && true) && true)) = true; rw [gn]; rfl, by show max 0 (max (max g.dp 0 + 1) 0) + 1 ≤ 62; omega, by show (1 + (((g.sz + 0) + 1) + 0)) + 1 ≤ 2000; omega, fun _ => ⟨by show (g.ss && true) = true; rw [gs]; rfl, by show (hdL [g] && (g.hok && true)) = true; rw [gh, gk]; rfl, by show (g.sz + 0) + 1 ≤ 7000; omega⟩, fun bs => rowX_f ?_⟩
      show fitSL ar pr [g] [] = false
      rw [fitSL]
      cases g with
      | tup xs => rfl
      | _ => cases gt
end
end K02

set_option Elab.async false
set_option linter.all false
set_option maxRecDepth 100000
set_option maxHeartbeats 4000000
/-! _law_refused_right: the odd rows put together. -/
namespace K02
open PySem PySem.Spec PyProof.Rows L2 Evl LamX
def Kp (od : Addr) (H G : Hp) : Prop := ∀ b u, H b = some u → b ≠ od → G b = some u
theorem Kp.trans {od : Addr} {H G J : Hp} (a : Kp od H G) (b : Kp od G J) : Kp od H J := fun c u h n => b c u (a c u h n) n
theorem Kp.go {p q od : Addr} {H G : Hp} (a : Kp od H G) : Go (Zo p q od) H G := fun b u n _ h => a b u h fun z => n (.inr z)
theorem Kp.of {od : Addr} {H G : Hp} (e : Ex H G) : Kp od H G := fun b u h _ => e b u h
section
variable {K : PySem.W.Frag} {σ : L2.St} {H : Hp} {D : Ends} {tz : TS} {te : TE} {ta : TA} {p q od : Addr} {os os2 : List O} {o : O} {i : Nat} {xs : List V}
theorem q_asgZ (h : EvAZ (PQ p q) ta σ H os) (n : os.length ≤ 1000) (k : ∀ od xs H1, H od = none → Ex H H1 → H1 od = some (.lst xs) → OVs (Hx (Zo p q od) H1) xs os → tz D (σ.set i (some (.ref od))) H1) : tSeq (tAsg (tLst ta) (gName i)) tz D σ H :=
  h H (Ex.refl _) _ fun vs H2 e2 hvs => ⟨sz_of (by rw [hvs.length]; omega), fun od hod => k od vs _ (fresh_back e2 hod) (e2.trans (Ex.new hod)) upd_same (hvs.ext fun b u hb => by
    obtain ⟨a1, a2, a3⟩ := hx_to hb
    exact hx_of (fun z => z.elim a1 fun z => by rw [z, hod] at a3; cases a3) a2 (Ex.new hod _ _ a3))⟩
theorem q_appZ (h6 : σ[i]? = some (some (.ref od))) (hod : H od = some (.lst xs)) (hx : OVs (Hx (Zo p q od) H) xs os) (h : EvZ (Zo p q od) te σ H o) (hl : os.length ≤ 1000)
    (k : ∀ H1 v, Kp od H H1 → H1 od = some (.lst (xs ++ [v])) → OVs (Hx (Zo p q od) H1) (xs ++ [v]) (os ++ [o]) → tz D σ H1) : tSeq (tDrop (tBM K "list" rAppend (tVar i) (tCons te tNil))) tz D σ H :=
  ⟨_, h6, .inl ⟨rfl, _, sq_of hod⟩, h H (Ex.refl _) _ fun v H2 e2 hv => by
    have h2 := e2 _ _ hod
    have hxl := hx.length
    refine ⟨od, xs, v, rfl, rfl, h2, sz_lt (by omega), k _ v (fun b u hb n => by rw [upd_ne n]; exact e2 _ _ hb) upd_same ?_⟩
    have g : Go (Zo p q od) H2 (upd H2 od (.lst (xs ++ [v]))) := Go.upd (.inr rfl)
    exact OVs.append ((hx.ext (hxz e2)).ext g.ex) (.cons (hv.ext g.ex) .nil)⟩
theorem q_extZ (h6 : σ[i]? = some (some (.ref od))) (hod : H od = some (.lst xs)) (hx : OVs (Hx (Zo p q od) H) xs os) (h : EvAZ (Zo p q od) ta σ H os2) (hl : os.length ≤ 1000) (hl2 : os2.length ≤ 1000)
    (k : ∀ H1 vs, Kp od H H1 → H1 od = some (.lst (xs ++ vs)) → OVs (Hx (Zo p q od) H1) (xs ++ vs) (os ++ os2) → tz D σ H1) : tSeq (tDrop (tBM K "list" rExtend (tVar i) (tCons (tLst ta) tNil))) tz D σ H :=
  ⟨_, h6, .inl ⟨rfl, _, sq_of hod⟩, h H (Ex.refl _) _ fun vs H2 e2 hvs => ⟨sz_of (by rw [hvs.length]; omega), fun l nl => by
    have el : Ex H2 (upd H2 l (.lst vs)) := Ex.new nl
    have e3 := e2.trans el
    have h3 := e3 _ _ hod
    have hxl := hx.length
    have hvl := hvs.length
    refine ⟨od, l, xs, vs, rfl, rfl, h3, upd_same, sz_of (by omega), k _ vs (fun b u hb n => by rw [upd_ne n]; exact e3 _ _ hb) upd_same ?_⟩
    have g : Go (Zo p q od) (upd H2 l (.lst vs)) (upd (upd H2 l (.lst vs)) od (.lst (xs ++ vs))) := Go.upd (.inr rfl)
    exact OVs.append ((hx.ext (hxz e3)).ext g.ex) ((hvs.ext (hxz el)).ext g.ex)⟩⟩
end
section
variable {P : Program} {w : World} {K : PySem.W.Frag} {mg : Str → Option Value} {base : Heap} {f c : Addr} {A : Around} {outer : List Env} {s : Shared} {HX : Hp}
theorem rf3 (T : TN P w K mg base) (hr : Room 90 (XR P w K mg base f c A outer s HX).A) : ∃ t, PS (XR P w K mg base f c A outer s HX) (stR 3) t ∧
    ∀ (D : Ends) (G : Hp) (p q rw : Addr) (n : Int) (xs : List V) (c1 c3 c4 c5 c6 c7 c8 c9 c10 c11 c12 c13 c14 : Option V),
      Spr G p q n → n < 7000000 → G rw = some (.lst xs) → xs.length ≤ 20 →
      (∀ (G' : Hp) (k : Nat) (v5 : V), k ≤ xs.length → OV (Hx (PQ p q) G') v5 freeO → Spr G' p q (n + 1) → But p q G G' → D.nx [some (.ref p), c1, some (.ref rw), c3, some (.int (k : Nat)), some v5, c6, c7, c8, c9, c10, c11, c12, c13, c14] G') →
      t D [some (.ref p), c1, some (.ref rw), c3, c4, c5, c6, c7, c8, c9, c10, c11, c12, c13, c14] G := by
  obtain ⟨fD, dD, GD, bD, kD, mD⟩ := (ok_dr T.toT02).ex
  refine ⟨_, ps_par (i := 4) (j := 5) rfl sc_rf.nd rfl rfl (by decide) rfl rfl (pa_cons (pe_call GD (hr.mono (by decide)) (by rfl) mD kD bD .nil pass0 (pa_cons (pv 0) (pa_cons (pe_op op_add (pe_callB call_len (by rfl) T.len PySem.boot_len (pa_cons (pv 2) pa_nil)) pe_int) pa_nil))) (pa_cons (pe_tup (pa_cons pe_str (pa_cons pe_str (pa_cons pe_str pa_nil)))) pa_nil)) (by rfl), ?_⟩
  intro D G p q rw n xs c1 c3 c4 c5 c6 c7 c8 c9 c10 c11 c12 c13 c14 S hn hrw hl k
  refine ⟨_, rfl, _, rfl, _, xs.length, rfl, .inl ⟨xs, sq_of hrw, rfl⟩, _, _, rfl, rfl, p, q, n, _, rfl, S, by omega, by omega, by omega, fun r G1 r0 r1 S1 B1 => ⟨by show 3 ≤ sizeLine; decide, fun t nt => ?_⟩⟩
  obtain ⟨j, rfl⟩ : ∃ j : Nat, r = (j : Int) := ⟨r.toNat, by omega⟩
  have x2 : Ex G1 (upd G1 t (.tup [.str "=", .str "X", .str "X"])) := Ex.new nt
  have nn := S1.nep nt
  exact ⟨_, _, rfl, k _ j (.ref t) (by omega) ⟨t, _, rfl, hx_of (by rintro (z | z); exact nn.1 z; exact nn.2 z) tup_tbl upd_same, .cons rfl (.cons rfl (.cons rfl .nil))⟩ (S1.ext x2) (B1.trans (But.of x2))⟩
theorem rf48 (T : TN P w K mg base) (hr : Room 90 (XR P w K mg base f c A outer s HX).A) : ∃ t4 t5 t6 t7 t8, PS (XR P w K mg base f c A outer s HX) (stR 4) t4 ∧ PS (XR P w K mg base f c A outer s HX) (stR 5) t5 ∧ PS (XR P w K mg base f c A outer s HX) (stR 6) t6 ∧ PS (XR P w K mg base f c A outer s HX) (stR 7) t7 ∧ PS (XR P w K mg base f c A outer s HX) (stR 8) t8 ∧
    ∀ (D : Ends) (tz : TS) (G : Hp) (p q : Addr) (n : Int) (va v5 : V) (g : O) (c0 c1 c2 c4 c6 c7 c8 c9 c10 c11 c12 c13 c14 : Option V),
      Spr G p q n → OV (Hx (PQ p q) G) va g → OV (Hx (PQ p q) G) v5 freeO →
      (∀ (G' : Hp) (od : Addr) (acc : List V), Ex G G' → G od = none → G' od = some (.lst acc) → OVs (Hx (Zo p q od) G') acc (oddsO g) → tz D [c0, c1, c2, some va, c4, some v5, some (.ref od), c7, c8, c9, c10, c11, c12, c13, c14] G') →
      tSeq t4 (tSeq t5 (tSeq t6 (tSeq t7 (tSeq t8 tz)))) D [c0, c1, c2, some va, c4, some v5, c6, c7, c8, c9, c10, c11, c12, c13, c14] G := by
  refine ⟨_, _, _, _, _, ps_set (i := 6) sc_rf.nd rfl (by first | exact Or.inl rfl | exact Or.inr rfl) (pe_lst (pa_cons pe_non (pa_cons pe_int (pa_cons pe_str (pa_cons (pe_lst pa_nil) (pa_cons (pe_tup (pa_cons pe_str pa_nil)) (pa_cons (pe_tup (pa_cons pe_str (pa_cons (pv 3) (pa_cons (pv 3) pa_nil)))) (pa_cons (pe_tup (pa_cons pe_str (pa_cons (pv 3) pa_nil))) (pa_cons (pe_tup (pa_cons pe_str (pa_cons (pv 3) pa_nil))) (pa_cons (pe_tup (pa_cons pe_int (pa_cons (pv 3) pa_nil))) (pa_cons (pe_tup (pa_cons (pe_lst (pa_cons pe_str pa_nil)) (pa_cons (pv 3) pa_nil))) pa_nil))))))))))),
    ps_expr (pe_bm PySem.F.plainAttrs_list PySem.F.slot_list_append PySem.F.type_list_append mt_append (pv 6) (pa_cons (pe_tup (pa_cons pe_str (pa_cons (pv 3) pa_nil))) pa_nil)),
    ps_expr (pe_bm PySem.F.plainAttrs_list PySem.F.slot_list_extend PySem.F.type_list_extend mt_extend (pv 6) (pa_cons (pe_lst (pa_cons (pe_tup (pa_cons pe_str (pa_cons (pv 5) pa_nil))) (pa_cons (pe_tup (pa_cons pe_str (pa_cons pe_non pa_nil))) (pa_cons (pe_tup (pa_cons pe_str (pa_cons (pe_tup (pa_cons pe_str pa_nil)) pa_nil))) (pa_cons (pe_tup (pa_cons pe_str (pa_cons (pe_tup (pa_cons pe_str (pa_cons (pe_tup (pa_cons pe_str pa_nil)) (pa_cons (pe_tup (pa_cons pe_str pa_nil)) pa_nil)))) pa_nil))) (pa_cons (pe_tup (pa_cons pe_str (pa_cons pe_str pa_nil))) pa_nil)))))) pa_nil)),
    ps_expr (pe_bm PySem.F.plainAttrs_list PySem.F.slot_list_append PySem.F.type_list_append mt_append (pv 6) (pa_cons (pe_tup (pa_cons pe_str (pa_cons (pe_lst pa_nil) pa_nil))) pa_nil)),
    ps_expr (pe_bm PySem.F.plainAttrs_list PySem.F.slot_list_extend PySem.F.type_list_extend mt_extend (pv 6) (pa_cons (pe_lst (pa_cons (pe_tup (pa_cons pe_str (pa_cons (pe_tup (pa_cons pe_str (pa_cons pe_str (pa_cons (pv 3) pa_nil)))) pa_nil))) (pa_cons (pe_tup (pa_cons pe_str (pa_cons (pe_tup (pa_cons pe_str (pa_cons (pv 3) pa_nil))) pa_nil))) (pa_cons (pe_tup (pa_cons pe_str (pa_cons (pe_tup (pa_cons pe_str (pa_cons (pv 3) (pa_cons (pv 3) pa_nil)))) pa_nil))) (pa_cons (pe_tup (pa_cons pe_str (pa_cons (pe_tup (pa_cons (pv 3) pa_nil)) pa_nil))) pa_nil))))) pa_nil)), ?_⟩
  intro D tz G p q n va v5 g c0 c1 c2 c4 c6 c7 c8 c9 c10 c11 c12 c13 c14 S hg hf k
  have hZ := pq_old S
  refine q_asgZ (os := odds4 g) (eaz_cons ez_non (eaz_cons ez_int (eaz_cons ez_str (eaz_cons (ez_lst hZ eaz_nil (by show 0 ≤ 1000; decide)) (eaz_cons (ez_tup hZ (eaz_cons ez_str eaz_nil) (by show 1 ≤ 1000; decide)) (eaz_cons (ez_tup hZ (eaz_cons ez_str (eaz_cons (ez_var rfl hg) (eaz_cons (ez_var rfl hg) eaz_nil))) (by show 3 ≤ 1000; decide)) (eaz_cons (ez_tup hZ (eaz_cons ez_str (eaz_cons (ez_var rfl hg) eaz_nil)) (by show 2 ≤ 1000; decide)) (eaz_cons (ez_tup hZ (eaz_cons ez_str (eaz_cons (ez_var rfl hg) eaz_nil)) (by show 2 ≤ 1000; decide)) (eaz_cons (ez_tup hZ (eaz_cons ez_int (eaz_cons (ez_var rfl hg) eaz_nil)) (by show 2 ≤ 1000; decide)) (eaz_cons (ez_tup hZ (eaz_cons (ez_lst hZ (eaz_cons ez_str eaz_nil) (by show 1 ≤ 1000; decide)) (eaz_cons (ez_var rfl hg) eaz_nil)) (by show 2 ≤ 1000; decide)) eaz_nil)))))))))) (by show 10 ≤ 1000; decide) fun od xs4 G4 n4 e4 h4 ov4 => ?_
  have up : Ex (Hx (PQ p q) G) (Hx (Zo p q od) G4) := fun b u hb => by
    obtain ⟨a1, a2, a3⟩ := hx_to hb
    exact hx_of (fun z => z.elim a1 fun z => by rw [z, n4] at a3; cases a3) a2 (e4 _ _ a3)
  have hg := hg.ext up
  have hf := hf.ext up
  have zo : ∀ {J : Hp} {zs : List V}, Kp od G4 J → J od = some (.lst zs) → ∀ b, Zo p q od b → Old J b := fun kp hj b hb => by
    by_cases hbo : b = od
    · rw [hbo]; exact ⟨_, hj⟩
    · rcases hb with hb | hb
      · obtain ⟨ys, h⟩ := hZ b hb
        exact ⟨ys, kp _ _ (e4 _ _ h) hbo⟩
      · exact absurd hb hbo
  have hZ := zo (Kp.of (Ex.refl G4)) h4
  refine q_appZ (o := .tup [.str "", g]) rfl h4 ov4 (ez_tup hZ (eaz_cons ez_str (eaz_cons (ez_var rfl hg) eaz_nil)) (by show 2 ≤ 1000; decide)) (by show 10 ≤ 1000; decide) fun G5 v kp5 h5 ov5 => ?_
  have hg := hg.ext kp5.go.ex
  have hf := hf.ext kp5.go.ex
  have hZ := zo kp5 h5
  refine q_extZ (os2 := odds6) rfl h5 ov5 (eaz_cons (ez_tup hZ (eaz_cons ez_str (eaz_cons (ez_var rfl hf) eaz_nil)) (by show 2 ≤ 1000; decide)) (eaz_cons (ez_tup hZ (eaz_cons ez_str (eaz_cons ez_non eaz_nil)) (by show 2 ≤ 1000; decide)) (eaz_cons (ez_tup hZ (eaz_cons ez_str (eaz_cons (ez_tup hZ (eaz_cons ez_str eaz_nil) (by show 1 ≤ 1000; decide)) eaz_nil)) (by show 2 ≤ 1000; decide)) (eaz_cons (ez_tup hZ (eaz_cons ez_str (eaz_cons (ez_tup hZ (eaz_cons ez_str (eaz_cons (ez_tup hZ (eaz_cons ez_str eaz_nil) (by show 1 ≤ 1000; decide)) (eaz_cons (ez_tup hZ (eaz_cons ez_str eaz_nil) (by show 1 ≤ 1000; decide)) eaz_nil))) (by show 3 ≤ 1000; decide)) eaz_nil)) (by show 2 ≤ 1000; decide)) (eaz_cons (ez_tup hZ (eaz_cons ez_str (eaz_cons ez_str eaz_nil)) (by show 2 ≤ 1000; decide)) eaz_nil))))) (by show 11 ≤ 1000; decide) (by decide) fun G6 vs kp6 h6 ov6 => ?_
  have hg := hg.ext kp6.go.ex
  have hf := hf.ext kp6.go.ex
  have hZ := zo (kp5.trans kp6) h6
  refine q_appZ (o := .tup [.str "b1", .lst []]) rfl h6 ov6 (ez_tup hZ (eaz_cons ez_str (eaz_cons (ez_lst hZ eaz_nil (by show 0 ≤ 1000; decide)) eaz_nil)) (by show 2 ≤ 1000; decide)) (by show 16 ≤ 1000; decide) fun G7 v7 kp7 h7 ov7 => ?_
  have hg := hg.ext kp7.go.ex
  have hf := hf.ext kp7.go.ex
  have kp47 := (kp5.trans kp6).trans kp7
  have hZ := zo kp47 h7
  refine q_extZ (os2 := odds8 g) rfl h7 ov7 (eaz_cons (ez_tup hZ (eaz_cons ez_str (eaz_cons (ez_tup hZ (eaz_cons ez_str (eaz_cons ez_str (eaz_cons (ez_var rfl hg) eaz_nil))) (by show 3 ≤ 1000; decide)) eaz_nil)) (by show 2 ≤ 1000; decide)) (eaz_cons (ez_tup hZ (eaz_cons ez_str (eaz_cons (ez_tup hZ (eaz_cons ez_str (eaz_cons (ez_var rfl hg) eaz_nil)) (by show 2 ≤ 1000; decide)) eaz_nil)) (by show 2 ≤ 1000; decide)) (eaz_cons (ez_tup hZ (eaz_cons ez_str (eaz_cons (ez_tup hZ (eaz_cons ez_str (eaz_cons (ez_var rfl hg) (eaz_cons (ez_var rfl hg) eaz_nil))) (by show 3 ≤ 1000; decide)) eaz_nil)) (by show 2 ≤ 1000; decide)) (eaz_cons (ez_tup hZ (eaz_cons ez_str (eaz_cons (ez_tup hZ (eaz_cons (ez_var rfl hg) eaz_nil) (by show 1 ≤ 1000; decide)) eaz_nil)) (by show 2 ≤ 1000; decide)) eaz_nil)))) (by show 17 ≤ 1000; decide) (by show 4 ≤ 1000; decide) fun G8 vs8 kp8 h8 ov8 => ?_
  have kp48 := kp47.trans kp8
  exact k G8 od _ (fun b u hb => kp48 b u (e4 _ _ hb) fun z => by rw [z, n4] at hb; cases hb) n4 h8 ov8
end
end K02

set_option Elab.async false
set_option linter.all false
set_option maxRecDepth 100000
set_option maxHeartbeats 4000000
/-! _law_refused_right: odd rows among the axioms. -/
namespace K02
open PySem PySem.Spec PyProof.Rows L2 Evl LamX
/-- odd where these names stood -/
structure OddAt (ar pr : List (Str × Nat)) (bs : List Str) (o : O) : Prop where
  ss : o.ss = true
  nod : o.nod = true
  dp : o.dp ≤ 62
  sz : o.sz ≤ 2000
  ok : o.isPair = true → SOk o.h1
  bad : rowX (fun s => s.fitS ar pr []) bs o = true
theorem Odd.at' {ar pr : List (Str × Nat)} {o : O} (h : Odd ar pr o) (bs : List Str) : OddAt ar pr bs o := ⟨h.ss, h.nod, h.dp, h.sz, h.ok, h.bad bs⟩
def dupO (g : O) (r : Str × O) : O := .tup [.str r.1, g]
theorem dup_odd {ar pr : List (Str × Nat)} {rs : List (Str × O)} {g : O} {k : Nat} (A0 : RwS ar pr rs) (g0 : GoT ar pr g) : ∀ o ∈ (rs.take k).map (dupO g), OddAt ar pr ((rs.take k).map (·.1)) o := by
  intro o ho
  obtain ⟨r, hr, rfl⟩ := List.mem_map.mp ho
  have hm := List.mem_of_mem_take hr
  obtain ⟨n1, n2⟩ := A0.r.nm r hm
  have gd := g0.dr.dp
  have gz := g0.dr.sz
  refine ⟨by show (SS.contains r.1 && (g.ss && true)) = true; rw [List.contains_iff_mem.mpr n2, g0.dr.ss]; rfl, by show (true && (g.nod && true)) = true; rw [g0.dr.nod]; rfl, by show max 0 (max g.dp 0) + 1 ≤ 62; omega, by show (1 + (g.sz + 0)) + 1 ≤ 2000; omega, fun _ => dr_sok g0.dr (by decide), ?_⟩
  unfold rowX
  show (!true || (!nameB r.1 || (((rs.take k).map (·.1)).contains r.1 || _))) = true
  rw [n1, List.contains_iff_mem.mpr (List.mem_map_of_mem hr)]
  rfl
section
variable {ar pr : List (Str × Nat)} {rs : List (Str × O)} {o : O} {k : Nat}
theorem badRow_skip {f : O → Bool} {zs : List O} : ∀ (rs : List (Str × O)) (bs : List Str) (i : Nat), (∀ r ∈ rs, nameB r.1 = true ∧ f r.2 = true) → (bs ++ rs.map (·.1)).Nodup → badRow f bs i (rs.map axO ++ zs) = badRow f (bs ++ rs.map (·.1)) (i + rs.length) zs
  | [], bs, i, _, _ => by simp
  | r :: rs, bs, i, hr, nd => by
    obtain ⟨r1, r2⟩ := hr r (by simp)
    have nin : r.1 ∉ bs := fun m => (List.nodup_append.mp nd).2.2 _ m _ (by simp) rfl
    have hX : rowX f bs (axO r) = false := by
      unfold rowX
      rw [(axO_pair r).1, (axO_pair r).2.1, (axO_pair r).2.2, r2]
      show (!true || (!nameB r.1 || (bs.contains r.1 || !true))) = false
      rw [r1]
      have : bs.contains r.1 = false := by
        cases q : bs.contains r.1 with
        | false => rfl
        | true => exact absurd (List.contains_iff_mem.mp q) nin
      rw [this]
      rfl
    show badRow f bs i (axO r :: (rs.map axO ++ zs)) = _
    have e : bs ++ (r :: rs).map (·.1) = (bs ++ [r.1]) ++ rs.map (·.1) := by simp
    rw [badRow_cons, hX, if_neg (by decide)]
    show badRow f (bs ++ [r.1]) (i + 1) _ = _
    rw [badRow_skip rs _ _ (fun q hq => hr q (by simp [hq])) (by rw [e] at nd; exact nd), e, List.length_cons]
    congr 1
    omega
/-- the axioms with an odd row between -/
def mixO (rs : List (Str × O)) (k : Nat) (o : O) : List O := ((rs.take k).map axO ++ [o, .non]) ++ (rs.drop k).map axO
theorem mix_bad (A0 : RwS ar pr rs) (hk : k ≤ rs.length) (h : OddAt ar pr ((rs.take k).map (·.1)) o) {z : O} (hz : z.strip = (O.lst (mixO rs k o)).strip) : badAx ar pr z = some k ∧ AxOk z := by
  constructor
  · rw [← badAx_strip, hz, badAx_strip]
    unfold badAx badR
    rw [show (O.lst (mixO rs k o)).isSeq = true from rfl, if_pos rfl]
    show badRow _ [] 0 (mixO rs k o) = some k
    unfold mixO
    rw [List.append_assoc, badRow_skip _ _ _ (fun r hr => ⟨(A0.r.nm r (List.mem_of_mem_take hr)).1, A0.r.sn r (List.mem_of_mem_take hr)⟩) (by
      rw [List.nil_append, List.map_take]
      exact (List.take_sublist _ _).nodup A0.r.nd)]
    show badRow _ _ _ (o :: _) = _
    rw [badRow_cons, List.nil_append, h.bad, if_pos rfl, List.length_take]
    congr 1
    omega
  · refine axok_strip ?_
    rw [hz]
    have key : AxOk (O.lst (mixO rs k o)) := by
      have h1 : O.sss ((rs.take k).map axO) = true := axs_sss (fun r hr => (A0.r.nm r (List.mem_of_mem_take hr)).2) fun r hr => (A0.dr r (List.mem_of_mem_take hr)).ss
      have h2 : O.sss ((rs.drop k).map axO) = true := axs_sss (fun r hr => (A0.r.nm r (List.mem_of_mem_drop hr)).2) fun r hr => (A0.dr r (List.mem_of_mem_drop hr)).ss
      have app : ∀ xs ys : List O, O.sss (xs ++ ys) = (O.sss xs && O.sss ys) := fun xs => by
        induction xs with
        | nil => intro ys; rfl
        | cons x xs ih => intro ys; show (x.ss && O.sss (xs ++ ys)) = ((x.ss && O.sss xs) && O.sss ys); rw [ih, Bool.and_assoc]
      refine ⟨?_, ?_, fun x hx hp => ?_⟩
      · show O.sss (mixO rs k o) = true
        unfold mixO
        rw [app, app, h1, h2]
        show ((true && (o.ss && (true && true))) && true) = true
        rw [h.ss]
        rfl
      · show (mixO rs k o).length ≤ 1000
        unfold mixO
        have := A0.len
        simp
        omega
      · have hx : x ∈ mixO rs k o := hx
        unfold mixO at hx
        rcases List.mem_append.mp hx with hx | hx
        · rcases List.mem_append.mp hx with hx | hx
          · obtain ⟨r, hr, rfl⟩ := List.mem_map.mp hx
            exact dr_sok (A0.dr r (List.mem_of_mem_take hr)) (by decide)
          · rcases List.mem_cons.mp hx with rfl | hx
            · exact h.ok hp
            · obtain rfl := List.mem_singleton.mp hx
              cases hp
        · obtain ⟨r, hr, rfl⟩ := List.mem_map.mp hx
          exact dr_sok (A0.dr r (List.mem_of_mem_drop hr)) (by decide)
    exact ⟨by show O.sss (O.strips _) = true; rw [strip_sss]; exact key.ss, by show (O.strips _).length ≤ 1000; rw [len_strips]; exact key.len, fun x hx hp => by
      have hx : x ∈ O.strips (mixO rs k o) := hx
      rw [strips_eq] at hx
      obtain ⟨y, hy, rfl⟩ := List.mem_map.mp hx
      rw [h1_strip]
      rw [isPair_strip] at hp
      exact sok_strip.mpr (key.it y hy hp)⟩
theorem mix_dp (A0 : RwS ar pr rs) (h : OddAt ar pr ((rs.take k).map (·.1)) o) : O.dps (mixO rs k o) ≤ 62 ∧ O.szs (mixO rs k o) ≤ 8000 ∧ (mixO rs k o).length ≤ 20 := by
  have W := A0.r.f
  have ax1 : ∀ r ∈ rs, (axO r).dp ≤ 62 ∧ (axO r).sz ≤ 902 := fun r hr => by
    have d1 := (A0.dr r hr).dp
    have d2 := (A0.dr r hr).sz
    refine ⟨?_, ?_⟩
    · show max 0 (max r.2.dp 0) + 1 ≤ 62; omega
    · show (1 + (r.2.sz + 0)) + 1 ≤ 902; omega
  have hl := A0.len
  have szm : ∀ qs : List (Str × O), (∀ r ∈ qs, r ∈ rs) → O.szs (qs.map axO) ≤ 902 * qs.length := by
    intro qs
    induction qs with
    | nil => intro _; exact Nat.zero_le _
    | cons r qs ih =>
      intro h
      have h1 := (ax1 r (h r (by simp))).2
      have h2 := ih fun q hq => h q (by simp [hq])
      show (axO r).sz + O.szs (qs.map axO) ≤ 902 * (qs.length + 1)
      omega
  refine ⟨dps_all.mpr fun x hx => ?_, ?_, ?_⟩
  · unfold mixO at hx
    rcases List.mem_append.mp hx with hx | hx
    · rcases List.mem_append.mp hx with hx | hx
      · obtain ⟨r, hr, rfl⟩ := List.mem_map.mp hx
        exact (ax1 r (List.mem_of_mem_take hr)).1
      · rcases List.mem_cons.mp hx with rfl | hx
        · exact h.dp
        · obtain rfl := List.mem_singleton.mp hx
          exact Nat.zero_le _
    · obtain ⟨r, hr, rfl⟩ := List.mem_map.mp hx
      exact (ax1 r (List.mem_of_mem_drop hr)).1
  · unfold mixO
    rw [O.szs_app, O.szs_app]
    have s1 := szm (rs.take k) fun r hr => List.mem_of_mem_take hr
    have s2 := szm (rs.drop k) fun r hr => List.mem_of_mem_drop hr
    have s3 : O.szs [o, .non] = o.sz + (1 + 0) := rfl
    have s4 := h.sz
    rw [List.length_take] at s1
    rw [List.length_drop] at s2
    omega
  · unfold mixO
    simp
    omega
end
section
variable {K : PySem.W.Frag} {σ : L2.St} {H : Hp} {tl : TE} {qs : List (Str × O)} {va : V} {g : O} {j1 j2 j3 : Nat} {vs : List Nat}
/-- [(name, goal) for name, sentence in rows] -/
theorem elp_dup (h : EvLP tl σ H (fun xs G => OVs G xs (qs.map axO))) (hg : OV H va g) (gn : g.hasL = false) (gd : g.nod = true) (hq : O.hasLs (qs.map axO) = false ∧ O.nods (qs.map axO) = true) (hl : qs.length ≤ 1000)
    (hw : ∀ x y, wipe (((wipe σ vs).set j1 (some x)).set j2 (some y)) vs = wipe σ vs) (h1 : ∀ x y, (((wipe σ vs).set j1 (some x)).set j2 (some y))[j1]? = some (some x)) (h3 : ∀ x y, (((wipe σ vs).set j1 (some x)).set j2 (some y))[j3]? = some (some va)) :
    EvLP (tLc (iList K tl) (gPair K j1 j2) tYes (tTup (tCons (tVar j1) (tCons (tVar j3) tNil))) vs) σ H (fun zs G => OVs G zs (qs.map (dupO g))) := fun H1 e1 Q q =>
  h H1 e1 _ fun a xs G0 na e0 ha hx0 => by
  have hlen : xs.length = qs.length := by rw [hx0.length, List.length_map]
  have noL : ∀ l : List (Str × O), O.hasLs (l.map (dupO g)) = false := fun l => by
    induction l with
    | nil => rfl
    | cons r l ih => show ((false || (g.hasL || false)) || O.hasLs (l.map (dupO g))) = false; rw [gn, ih]; rfl
  have nod : ∀ l : List (Str × O), O.nods (l.map (dupO g)) = true := fun l => by
    induction l with
    | nil => rfl
    | cons r l ih => show ((true && (g.nod && true)) && O.nods (l.map (dupO g))) = true; rw [gd, ih]; rfl
  have hg0 := hg.ext (e1.trans e0)
  refine ⟨a, rfl, ⟨xs, sq_of ha⟩, fun D hD => ?_⟩
  refine lc_it (walk_list (K := K) (a := a) (xs := xs)) (fun i G => Ex G0 G ∧ ∃ acc, G D = some (.lst acc) ∧ acc.length = i ∧ OVs G acc ((qs.take i).map (dupO g))) ⟨Ex.new hD, [], upd_same, rfl, rfl⟩ (fun i G _ q => sq_of (q.1 _ _ ha)) ?_ ?_
  · rintro i x G G' hi ⟨q1, acc, q2, q3, q4⟩ ⟨rfl, hxi⟩
    obtain ⟨o, ho, hox⟩ := (hx0.ext q1).get hxi
    rw [List.getElem?_map] at ho
    obtain ⟨r, hr, rfl⟩ := Option.map_eq_some_iff.mp ho
    obtain ⟨c, ws, rfl, hc, w1, ws1, rfl, o1, w2, ws2, rfl, o2, h0⟩ := hox
    obtain rfl : ws2 = [] := h0
    obtain rfl : w1 = .str r.1 := o1
    refine ⟨c, _, rfl, st_of hc, rfl, _, _, rfl, _, _, rfl, rfl, hw _ _, ?_⟩
    unfold tYes
    dsimp only
    rw [if_pos rfl]
    refine ⟨_, h1 _ _, _, h3 _ _, by show 2 ≤ sizeLine; decide, fun t nt => ?_⟩
    have e4 := Ex.new (o := .tup [.str r.1, va]) nt
    have h2 := e4 _ _ q2
    refine ⟨acc, h2, sz_lt (by omega), Ex.mut (q1.trans e4) hD, acc ++ [.ref t], upd_same, by simp; omega, ?_⟩
    have tx := Tx.lst (o := .lst (acc ++ [.ref t])) h2
    have e1 : qs.take (i + 1) = qs.take i ++ [r] := by rw [List.take_succ, hr]; rfl
    rw [e1, List.map_append]
    exact OVs.append (OVs.tx ((Tx.of e4).trans tx) (noL _) (nod _) q4) (.cons ⟨t, _, rfl, tx _ _ upd_same, .cons rfl (.cons (OV.tx tx gn gd (hg0.ext (q1.trans e4))) .nil)⟩ .nil)
  · rintro H3 ⟨e3, acc, hD3, _, ho3⟩
    rw [hlen, List.take_length] at ho3
    exact q D acc H3 (fresh_back e0 hD) (e0.trans e3) hD3 ho3
end
end K02

set_option Elab.async false
set_option linter.all false
set_option maxRecDepth 100000
set_option maxHeartbeats 4000000
/-! _law_refused_right: odd rows refused. -/
namespace K02
open PySem PySem.Spec PyProof.Rows L2 Evl LamX
theorem for1 {K : PySem.W.Frag} {σ : L2.St} {H : Hp} {te : TE} {g : L2.TG} {tb : TS} {D : Ends} (h : te σ H fun x H1 => ∃ a, x = V.ref a ∧ (∃ xs, SqL K H1 a xs) ∧ tForI (Itl K a) g tb D σ H1) : tFor (iList K te) g tb D σ H := h
theorem up_hz {Z : Addr → Prop} {xs : List V} {os : List O} : Up (fun G => OVs (Hx Z G) xs os) := fun A B e h => h.ext (hxz e)
section
variable {P : Program} {w : World} {K : PySem.W.Frag} {mg : Str → Option Value} {base : Heap} {f c : Addr} {A : Around} {outer : List Env} {s : Shared} {HX : Hp}
abbrev tMixE (K : PySem.W.Frag) : TE := tOp rCat (tOp rCat (tSl (rSlL K) (tVar 2) tNoPart (tPart (tVar 4))) (tLst (tCons (tVar 13) (tCons (tC .non) tNil)))) (tSl (rSlL K) (tVar 2) (tPart (tVar 4)) tNoPart)
theorem rf9 (T : TN P w K mg base) (t2 : TabF K mg base) (hc : He.codeOf K ("_law_refused_right", none) = c) (hr : Room 90 (XR P w K mg base f c A outer s HX).A) : ∃ t, PS (XR P w K mg base f c A outer s HX) (stR 9) t ∧
    ∀ (D : Ends) (G : Hp) (p q rt rw nb : Addr) (va : V) (n : Int) (ar pr : List (Str × Nat)) (rs : List (Str × O)) (g : O) (j : Nat) (od : Addr) (acc : List V) (c1 c5 c7 c8 c9 c11 c12 c13 c14 : Option V),
      Spr G p q n → n < 6000000 → Tabs (tabT K) G → TF K (Hx (PQ p q) G) p q rt rw nb va ar pr rs g → Raw ar pr → RwS ar pr rs → GoT ar pr g → j ≤ rs.length → G od = some (.lst acc) → OVs (Hx (PQ p q) G) acc (oddsO g) →
      (∀ (G' : Hp) (n' : Int) (c13 c14 : Option V), Go (PQ p q) G G' → Spr G' p q n' → n' ≤ n + 300000 → Tabs (tabT K) G' → D.nx [some (.ref p), c1, some (.ref rw), some va, some (.int (j : Nat)), c5, some (.ref od), c7, c8, c9, some (.ref nb), c11, c12, c13, c14] G') →
      t D [some (.ref p), c1, some (.ref rw), some va, some (.int (j : Nat)), c5, some (.ref od), c7, c8, c9, some (.ref nb), c11, c12, c13, c14] G := by
  obtain ⟨fS, dS, GS, bS, kS, mS⟩ := (ok_same2 T 72).ex
  obtain ⟨fL, dL, GL, bL, kL, mL⟩ := (ok_loose2 T.toT02 64).ex
  obtain ⟨fI, fdI, MI, FI⟩ := T.mkT
  have GI := ok_tinit T t2 FI
  have bI := FI.bindsN (ps := ["self", "names", "axioms"]) (fun kV doc pm an cdv ct us hl => match us, hl with | [_, _, _], _ => rfl)
  refine ⟨_, ps_for PassesOwn.never rfl (pi_list (pe_op op_cat (pv 6) (pe_lc (own := [("_law_name", 7), ("_law_sentence", 8)]) (g := gPair K 7 8) (tt := tYes) (te := tTup (tCons (tVar 7) (tCons (tVar 3) tNil))) rfl sc_rf.nd (pi_list (pe_slice sl_list (pv 2) po_none (po_some (pv 4)))) (blkOk_by (N := nRf) (sc := defScope s__law_refused_right) (by decide +kernel))
      (fun _ _ _ _ _ => pg_tup rfl (pgs_cons (pg_name (i := 7) sc_rf.nd rfl (Or.inl rfl)) (pgs_cons (pg_name (i := 8) sc_rf.nd rfl (Or.inl rfl)) pgs_nil))) (fun _ _ _ _ _ => pts_nil) (fun _ _ _ _ _ => pe_tup (pa_cons (pv 7) (pa_cons (pv 3) pa_nil)))))) (pg_name (i := 13) sc_rf.nd rfl (Or.inr rfl))
    (pss_cons (ps_set (i := 14) sc_rf.nd rfl (by first | exact Or.inl rfl | exact Or.inr rfl) (pe_call GL (hr.mono (by decide)) (by rfl) mL kL bL .nil pass0 (pa_cons (pv 0) (pa_cons (pe_op op_cat (pe_op op_cat (pe_slice sl_list (pv 2) po_none (po_some (pv 4))) (pe_lst (pa_cons (pv 13) (pa_cons pe_non pa_nil)))) (pe_slice sl_list (pv 2) (po_some (pv 4)) po_none)) pa_nil))))
    (pss_one (ps_if (pt_not (pt_val (pe_call GS (hr.mono (by decide)) (by rfl) mS kS bS .nil pass0 (pa_cons (pe_met (k := 40) (t := tLT K (tVar 10) (tVar 14)) T.toT02 (by rfl) (tb_rf t2 hc) rfl hm_rf (hu_rf t2) (hr.mono (by decide)) (lamS_by (sc := defScope s__law_refused_right) (by decide +kernel)) rfl (fun _ _ _ _ _ => rfl)
        (fun A outer s H E f c' hr2 => pe_makeS (sp := spTi K) MI GI (hr2.mono (by decide)) (by rfl) T.gT bI (fun σ => passAt (takes_of rfl rfl rfl rfl) σ) (pa_cons (pv 10) (pa_cons (pv 14) pa_nil)))) (pa_cons (pe_tup (pa_cons pe_str (pa_cons (pv 4) pa_nil))) pa_nil))))) (pss_one ps_never) pss_nil))), ?_⟩
  intro D G p q rt rw nb va n ar pr rs g j od acc c1 c5 c7 c8 c9 c11 c12 c13 c14 S hn hT F R A0 g0 hj hod hov k
  obtain ⟨xs, hrwZ, hxsZ⟩ := F.rows
  have hrw := hx_ex _ _ hrwZ
  have hxs := hxsZ.ext hx_ex
  have hxl := hxs.length
  rw [List.length_map] at hxl
  have hl5 := A0.len
  have hg := F.aim.ext hx_ex
  have hol := hov.length
  have W := A0.r.f
  have noLs : ∀ qs : List (Str × O), (∀ r ∈ qs, r ∈ rs) → O.hasLs (qs.map axO) = false ∧ O.nods (qs.map axO) = true := fun qs h => ⟨axs_noL fun a ha => (A0.dr a (h a ha)).noL, axs_nod fun a ha => (A0.dr a (h a ha)).nod⟩
  have edup := elp_dup (K := K) (σ := [some (.ref p), c1, some (.ref rw), some va, some (.int (j : Nat)), c5, some (.ref od), c7, c8, c9, some (.ref nb), c11, c12, c13, c14]) (H := G) (tl := tSl (rSlL K) (tVar 2) tNoPart (tPart (tVar 4))) (qs := rs.take j) (va := va) (g := g) (j1 := 7) (j2 := 8) (j3 := 3) (vs := [7, 8])
    (elp_ofE (el_sl (K := K) (te := tVar 2) (ev_var rfl) eo_none (eo_some (ev_var rfl)) (sq_of hrw)) fun J eJ => by rw [cut_to, List.map_take]; exact (hxs.ext eJ).take) hg g0.dr.noL g0.dr.nod (noLs _ fun r h => List.mem_of_mem_take h) (by rw [List.length_take]; omega) (fun x y => rfl) (fun x y => rfl) (fun x y => rfl)
  refine for1 ⟨_, rfl, edup G (Ex.refl _) _ fun a2 zs G1 na2 e1 ha2 hzs => ⟨od, a2, acc, zs, rfl, rfl, e1 _ _ hod, ha2, ?_, fun lq nlq => ?_⟩⟩
  · have h1 := hzs.length
    rw [List.length_map, List.length_take] at h1
    have h2 : (oddsO g).length = 21 := rfl
    exact sz_of (by omega)
  have e2 : Ex G1 (upd G1 lq (.lst (acc ++ zs))) := Ex.new nlq
  have hlq : (upd G1 lq (.lst (acc ++ zs))) lq = some (.lst (acc ++ zs)) := upd_same
  generalize upd G1 lq (.lst (acc ++ zs)) = G2 at e2 hlq ⊢
  have e02 := e1.trans e2
  have S2 := S.ext e02
  have S1 := S.ext e1
  have nq := S1.nep nlq
  have F2 := F.ext (hxz (Z := PQ p q) e02)
  have dupNo : O.hasLs ((rs.take j).map (dupO g)) = false ∧ O.nods ((rs.take j).map (dupO g)) = true := by
    refine ⟨hasLs_all.mpr fun o ho => ?_, nods_all.mpr fun o ho => ?_⟩
    · obtain ⟨r, _, rfl⟩ := List.mem_map.mp ho
      show (false || (g.hasL || false)) = false
      rw [g0.dr.noL]; rfl
    · obtain ⟨r, _, rfl⟩ := List.mem_map.mp ho
      show (true && (g.nod && true)) = true
      rw [g0.dr.nod]; rfl
  have hall : OVs (Hx (PQ p q) G2) (acc ++ zs) (oddsO g ++ (rs.take j).map (dupO g)) := OVs.append (hov.ext (hxz e02)) (OVs.tx S2.txQ dupNo.1 dupNo.2 (hzs.ext e2))
  have hodd : ∀ o ∈ oddsO g ++ (rs.take j).map (dupO g), OddAt ar pr ((rs.take j).map (·.1)) o := fun o ho => by
    rcases List.mem_append.mp ho with ho | ho
    · exact (odd_all R g0 o ho).at' _
    · exact dup_odd A0 g0 o ho
  have hlen2 : (acc ++ zs).length ≤ 26 := by
    have h1 := hzs.length
    rw [List.length_map, List.length_take] at h1
    have h2 : (oddsO g).length = 21 := rfl
    rw [List.length_append]
    omega
  refine ⟨lq, rfl, ⟨_, sq_of hlq⟩, for_list (xs := acc ++ zs) (fun i σ' G' => (∃ c13 c14, σ' = [some (.ref p), c1, some (.ref rw), some va, some (.int (j : Nat)), c5, some (.ref od), c7, c8, c9, some (.ref nb), c11, c12, c13, c14]) ∧ Tabs (tabT K) G' ∧ Go (PQ p q) G2 G' ∧ ∃ n', Spr G' p q n' ∧ n' ≤ n + 9000 * (i : Int)) ⟨⟨_, _, rfl⟩, hT.ext e02, Go.refl, n, S2, by omega⟩ ?_ ?_ ?_⟩
  · rintro i σ' G' hi ⟨_, _, go, _⟩
    exact sq_of (go _ _ (by rintro (z | z); exact nq.1 z; exact nq.2 z) lst_tbl hlq)
  · rintro i x σ' G' hi ⟨⟨c13', c14', rfl⟩, T', go, n', S', hn'⟩
    have hi26 : i < 26 := by have := (List.getElem?_eq_some_iff.mp hi).1; omega
    obtain ⟨o, ho, hxo⟩ := (hall.ext go.ex).get hi
    have ood := hodd o (List.mem_of_getElem? ho)
    have F' := F2.ext go.ex
    obtain ⟨ys, hrw', hys⟩ := F'.rows
    have hyl := hys.length
    rw [List.length_map] at hyl
    have hrwG := hx_ex _ _ hrw'
    have md := mix_dp (k := j) A0 ood
    unfold gName
    dsimp only
    have ez := elp_cat (elp_cat (elp_ofE (P := fun zs J => OVs (Hx (PQ p q) J) zs ((rs.take j).map axO)) (el_sl (K := K) (σ := [some (.ref p), c1, some (.ref rw), some va, some (.int (j : Nat)), c5, some (.ref od), c7, c8, c9, some (.ref nb), c11, c12, some x, c14']) (te := tVar 2) (ev_var rfl) eo_none (eo_some (ev_var (i := 4) rfl)) (sq_of hrwG)) fun J eJ => by rw [cut_to, List.map_take]; exact (hys.ext (hxz eJ)).take)
        (elz_lst (Z := PQ p q) (os := [o, .non]) (eaz_cons (ez_var (i := 13) rfl hxo) (eaz_cons ez_non eaz_nil)) (by show 2 ≤ 1000; decide)) (fun _ => up_hz) (fun _ => up_hz) fun us ws J h1 h2 => by
          have h1 := h1.length
          have h2 := h2.length
          have h3 : ([o, .non] : List O).length = 2 := rfl
          rw [List.length_map, List.length_take] at h1
          omega)
      (elp_ofE (P := fun zs J => OVs (Hx (PQ p q) J) zs ((rs.drop j).map axO)) (el_sl (K := K) (σ := [some (.ref p), c1, some (.ref rw), some va, some (.int (j : Nat)), c5, some (.ref od), c7, c8, c9, some (.ref nb), c11, c12, some x, c14']) (te := tVar 2) (ev_var rfl) (eo_some (ev_var (i := 4) rfl)) eo_none (sq_of hrwG)) fun J eJ => by rw [cut_from, List.map_drop]; exact (hys.ext (hxz eJ)).drop) (fun zs A B e ⟨us, ws, h, h1, h2⟩ => ⟨us, ws, h, h1.ext (hxz e), h2.ext (hxz e)⟩) (fun _ => up_hz) fun us ws J ⟨u1, u2, h, h1, h2⟩ h3 => by
          have h1 := h1.length
          have h2 := h2.length
          have h3 := h3.length
          have h4 : ([o, .non] : List O).length = 2 := rfl
          rw [List.length_map, List.length_take] at h1
          rw [List.length_map, List.length_drop] at h3
          rw [h, List.length_append]
          omega
    refine q_asgR ⟨_, rfl, ez G' (Ex.refl _) _ fun lL L G3 nL e3 hL ⟨us, ws, hLe, ⟨u1, u2, hue, h1, h2⟩, h3⟩ => ?_⟩
    have S3 := S'.ext e3
    have nl := S'.nep nL
    have hLov : OVs (Hx (PQ p q) G3) L (mixO rs j o) := by
      rw [hLe, hue]
      exact OVs.append (OVs.append h1 h2) h3
    refine ⟨p, q, .ref lL, n', .lst (mixO rs j o), rfl, S3, ?_, ⟨lL, L, rfl, hx_of (by rintro (z | z); exact nl.1 z; exact nl.2 z) lst_tbl hL, hLov⟩, ?_, ?_, fun u G4 n4 o' S4 hn4 B4 hov' hst' => ?_⟩
    · have := md.2.1
      show n' + ((O.szs (mixO rs j o) + 1 : Nat) : Int) ≤ 9000000
      omega
    · have := md.1
      show O.dps (mixO rs j o) + 1 < 64
      omega
    · have := md.2.1
      show O.szs (mixO rs j o) + 1 ≤ 9000
      omega
    obtain ⟨hbad, hok⟩ := mix_bad (z := o') A0 hj ood hst'
    have hsz : (((O.lst (mixO rs j o)).sz : Nat) : Int) ≤ 8001 := by
      have := md.2.1
      show ((O.szs (mixO rs j o) + 1 : Nat) : Int) ≤ 8001
      omega
    have go4 : Go (PQ p q) G2 G4 := (go.trans (Go.of e3)).trans (go_pq B4)
    have F4 := F2.ext go4.ex
    have T4 := tabs_but (T'.ext e3) B4 S3
    have hn5 : n4 ≤ n + 9000 * ((i + 1 : Nat) : Int) := by
      have : ((i + 1 : Nat) : Int) = (i : Int) + 1 := by omega
      rw [this]
      omega
    exact turnB (y := "BadAxioms") (z := "index") (s := "axioms") (i := ((j : Nat) : Int)) (by decide) T4 (fun H1 E Q' ee T1 hb => lt_axioms (u := u) (i := j) (ev_var rfl) (ev_var rfl) T1 ((F4.nam.ext hx_ex).extN ee) R.d1 R.d2 (.inr ⟨o', (hov'.ext hx_ex).extN ee, hok, hbad⟩) hb) (fun G5 => ev_var rfl)
      fun G5 e5 T5 => ⟨⟨_, _, rfl⟩, T5, go4.trans (Go.ofN e5), n4, spr_extN S4 e5, hn5⟩
  · rintro σ' G' ⟨⟨c13', c14', rfl⟩, T', go, n', S', hn'⟩
    refine k G' n' c13' c14' ((Go.of e02).trans go) S' ?_ T'
    have : (9000 : Int) * ((acc ++ zs).length : Int) ≤ 9000 * 26 := Int.mul_le_mul_of_nonneg_left (by omega) (by omega)
    omega
end
end K02

set_option Elab.async false
set_option linter.all false
set_option maxRecDepth 100000
set_option maxHeartbeats 4000000
/-! _law_refused_right: what is no theory, what is no goal. -/
namespace K02
open PySem PySem.Spec PyProof.Rows L2 Evl LamX
/-- what is no goal, and the same as itself -/
def PgO (K : PySem.W.Frag) (ar pr : List (Str × Nat)) (v : V) (G : Hp) : Prop := ((∃ C, Ins K G v C) ∨ ∃ o, OV G v o ∧ SOk o ∧ o.fitS ar pr [] = false) ∧ Sm K G 70 v v
theorem pg_up {K : PySem.W.Frag} {ar pr : List (Str × Nat)} : ∀ v A B, ExtN A B → PgO K ar pr v A → PgO K ar pr v B := fun v A B e h => ⟨by
  rcases h.1 with ⟨C, h⟩ | ⟨o, h1, h2, h3⟩
  · exact .inl ⟨C, h.extN e⟩
  · exact .inr ⟨o, h1.extN e, h2, h3⟩, h.2.extN e⟩
theorem pg_ov {K : PySem.W.Frag} {ar pr : List (Str × Nat)} {o : O} (hs : SOk o) (hf : o.fitS ar pr [] = false) (hd : o.dp ≤ 67) : ∀ v G, OV G v o → PgO K ar pr v G := fun v G h => ⟨.inr ⟨o, h, hs, hf⟩, sm_of h h (by have := dq_dp o; omega) (by have := mx_sz o; have := hs.sz; omega)⟩
section
variable {ar pr : List (Str × Nat)}
theorem notF_no : (O.tup [.str "not", freeO]).fitS ar pr [] = false := by
  show fitSL ar pr [.str "not", freeO] [] = false
  rw [fs_not rfl]
  exact free_no
theorem someF_no : (O.tup [.str "some", .str "Y", freeO]).fitS ar pr [] = false := by
  show fitSL ar pr [.str "some", .str "Y", freeO] [] = false
  rw [fs_bind rfl rfl (by show varB "Y" = true; decide +kernel)]
  show fitSL ar pr [.str "=", .str "X", .str "X"] ["Y"] = false
  rw [fs_atom rfl rfl rfl]
  have nX : okV ["Y"] "X" = false := by decide +kernel
  show (_ && (okV ["Y"] "X" && _)) = false
  rw [nX]
  exact Bool.and_false _
end
section
variable {P : Program} {w : World} {K : PySem.W.Frag} {mg : Str → Option Value} {base : Heap} {f c : Addr} {A : Around} {outer : List Env} {s : Shared} {HX : Hp}
theorem rf10 (T : TN P w K mg base) (t2 : TabF K mg base) (hr : Room 90 (XR P w K mg base f c A outer s HX).A) : ∃ t, PS (XR P w K mg base f c A outer s HX) (stR 10) t ∧
    ∀ (D : Ends) (G : Hp) (rw nb : Addr) (xs : List V) (ar pr : List (Str × Nat)) (rs : List (Str × O)) (c0 c1 c3 c4 c5 c6 c7 c8 c9 c11 c12 c13 c14 : Option V),
      Tabs (tabT K) G → NmAt K G nb ar pr → Raw ar pr → RwR ar pr rs → G rw = some (.lst xs) → OVs G xs (rs.map axO) →
      (∀ G' tm, ThAt K (Hx (Old G) G') tm nb rs → ExtN G G' → Tabs (tabT K) G' → D.nx [c0, c1, some (.ref rw), c3, c4, c5, c6, c7, c8, c9, some (.ref nb), c11, some (.ref tm), c13, c14] G') →
      t D [c0, c1, some (.ref rw), c3, c4, c5, c6, c7, c8, c9, some (.ref nb), c11, c12, c13, c14] G := by
  obtain ⟨fI, fdI, MI, FI⟩ := T.mkT
  have GI := ok_tinit T t2 FI
  have bI := FI.bindsN (ps := ["self", "names", "axioms"]) (fun kV doc pm an cdv ct us hl => match us, hl with | [_, _, _], _ => rfl)
  refine ⟨_, ps_set (i := 12) sc_rf.nd rfl (by first | exact Or.inl rfl | exact Or.inr rfl) (pe_make MI GI (hr.mono (by decide)) (by rfl) T.gT bI .nil passX (pa_cons (pv 10) (pa_cons (pv 2) pa_nil))), ?_⟩
  intro D G rw nb xs ar pr rs c0 c1 c3 c4 c5 c6 c7 c8 c9 c11 c12 c13 c14 hT hN R A0 hrw hxs k
  exact s_asgR (mkTv (K := K) (σ := [c0, c1, some (.ref rw), c3, c4, c5, c6, c7, c8, c9, some (.ref nb), c11, c12, c13, c14]) (a := rw) (ev_var (i := 10) rfl) (ev_var (i := 2) rfl) hrw hxs hT hN R.d1 R.d2 A0 fun x G' nx hth e hT' => k G' x hth e hT')
theorem rf11 (T : TN P w K mg base) (t2 : TabF K mg base) (hc : He.codeOf K ("_law_refused_right", none) = c) (hr : Room 90 (XR P w K mg base f c A outer s HX).A) : ∃ t, PS (XR P w K mg base f c A outer s HX) (stR 11) t ∧
    ∀ (D : Ends) (G : Hp) (rw nb : Addr) (xs : List V) (ar pr : List (Str × Nat)) (rs : List (Str × O)) (c0 c1 c3 c4 c5 c6 c7 c8 c9 c11 c12 c13 c14 : Option V),
      Tabs (tabT K) G → NmAt K G nb ar pr → Raw ar pr → RwR ar pr rs → G rw = some (.lst xs) → OVs G xs (rs.map axO) →
      (∀ G' c13, ExtN G G' → Tabs (tabT K) G' → D.nx [c0, c1, some (.ref rw), c3, c4, c5, c6, c7, c8, c9, some (.ref nb), c11, c12, c13, c14] G') →
      t D [c0, c1, some (.ref rw), c3, c4, c5, c6, c7, c8, c9, some (.ref nb), c11, c12, c13, c14] G := by
  obtain ⟨fS, dS, GS, bS, kS, mS⟩ := (ok_same2 T 72).ex
  obtain ⟨fI, fdI, MI, FI⟩ := T.mkP
  have GI := ok_pinit T FI
  have bI := FI.bindsN (ps := ["self", "theory", "goal"]) (fun kV doc pm an cdv ct us hl => match us, hl with | [_, _, _], _ => rfl)
  refine ⟨_, ps_for PassesOwn.never rfl (pi_tup (pe_tup (pa_cons pe_non (pa_cons pe_int (pa_cons pe_str (pa_cons (pe_lst pa_nil) (pa_cons pe_dnewK (pa_cons pe_bl (pa_cons (pv 10) (pa_cons (pv 2) pa_nil)))))))))) (pg_name (i := 13) sc_rf.nd rfl (Or.inr rfl))
    (pss_one (ps_if (pt_not (pt_val (pe_call GS (hr.mono (by decide)) (by rfl) mS kS bS .nil pass0 (pa_cons (pe_lst (pa_cons (pe_met (k := 40) (t := tLP K (tVar 13) (tC .non)) T.toT02 (by rfl) (tb_rf t2 hc) rfl hm_rf (hu_rf t2) (hr.mono (by decide)) (lamS_by (sc := defScope s__law_refused_right) (by decide +kernel)) rfl (fun _ _ _ _ _ => rfl)
        (fun A outer s H E f c' hr2 => pe_makeS (sp := spPbi K) MI GI (hr2.mono (by decide)) (by rfl) T.gP bI (fun σ => passAt (takes_of rfl rfl rfl rfl) σ) (pa_cons (pv 13) (pa_cons pe_non pa_nil)))) pa_nil)) (pa_cons (pe_lst (pa_cons (pe_tup (pa_cons pe_str (pa_cons (pv 13) pa_nil))) pa_nil)) pa_nil))))) (pss_one ps_never) pss_nil)), ?_⟩
  intro D G rw nb xs ar pr rs c0 c1 c3 c4 c5 c6 c7 c8 c9 c11 c12 c13 c14 hT hN R A0 hrw hxs k
  have W := A0.f
  have d1 := W.dp
  have s1 := W.sz
  refine loop_tup (P := PnO K (CT K)) (n := 8) (fun c13 => [c0, c1, some (.ref rw), c3, c4, c5, c6, c7, c8, c9, some (.ref nb), c11, c12, c13, c14]) pn_up (by decide) (fun c x => rfl) hT
    (ixs_cons pn_up (ix_eo eo_non (pn_ov (by decide) (by decide))) (ixs_cons pn_up (ix_eo eo_int (pn_ov (Nat.zero_le _) (by show 1 ≤ 40000; decide))) (ixs_cons pn_up (ix_eo eo_str (pn_ov (Nat.zero_le _) (by show 1 ≤ 40000; decide))) (ixs_cons pn_up (ix_eo (eo_lst eao_nil (by decide)) (pn_ov (by decide) (by decide))) (ixs_cons pn_up (ix_eo eo_dct (pn_ov (by decide) (by decide)))
      (ixs_cons pn_up (ix_eo eo_bl (pn_ov (Nat.zero_le _) (by show 1 ≤ 40000; decide))) (ixs_cons pn_up (ix_ev (ev_var rfl) fun J eJ => ⟨.inr ⟨CN K, (hN.ext eJ).ins T, T.ot "Names" (by decide) "Theory" (by decide) (by decide)⟩, .nam (hN.ext eJ) R.nms⟩) (ixs_cons pn_up (ix_eo (eo_var (o := .lst (rs.map axO)) rfl ⟨rw, xs, rfl, hrw, hxs⟩) (pn_ov (o := .lst (rs.map axO)) (by show O.dps _ + 1 ≤ 67; omega) (by show O.szs _ + 1 ≤ 40000; omega))) ixs_nil))))))))
    (fun x G' D' e' T' hx' k' => turnA (y := "BadTheory") (z := "thing") (s := "theory") (x := x) (by decide) rfl T' (fun H1 E Q' e1 T1 hb => lp_theory (v := x) (ev_var rfl) e_non (fun G2 e2 => hx'.1.extN (e1.trans e2)) (fun G2 e2 => hb G2 (ExtN.of e2) (T1.ext e2))) (fun G2 e2 => hx'.2.extN e2) k') (fun G' c13 e' T' => k G' c13 e' T')
theorem rf12 (T : TN P w K mg base) (t2 : TabF K mg base) (hc : He.codeOf K ("_law_refused_right", none) = c) (hr : Room 90 (XR P w K mg base f c A outer s HX).A) : ∃ t, PS (XR P w K mg base f c A outer s HX) (stR 12) t ∧
    ∀ (D : Ends) (G : Hp) (nb tm : Addr) (v5 : V) (ar pr : List (Str × Nat)) (rs : List (Str × O)) (c0 c1 c2 c3 c4 c6 c7 c8 c9 c10 c11 c13 c14 : Option V),
      Tabs (tabT K) G → Th K G tm nb ar pr rs → Raw ar pr → RwR ar pr rs → OV G v5 freeO →
      (∀ G' c13, ExtN G G' → Tabs (tabT K) G' → D.nx [c0, c1, c2, c3, c4, some v5, c6, c7, c8, c9, c10, c11, some (.ref tm), c13, c14] G') →
      t D [c0, c1, c2, c3, c4, some v5, c6, c7, c8, c9, c10, c11, some (.ref tm), c13, c14] G := by
  obtain ⟨fS, dS, GS, bS, kS, mS⟩ := (ok_same2 T 72).ex
  obtain ⟨fI, fdI, MI, FI⟩ := T.mkP
  have GI := ok_pinit T FI
  have bI := FI.bindsN (ps := ["self", "theory", "goal"]) (fun kV doc pm an cdv ct us hl => match us, hl with | [_, _, _], _ => rfl)
  refine ⟨_, ps_for PassesOwn.never rfl (pi_tup (pe_tup (pa_cons pe_non (pa_cons pe_int (pa_cons pe_str (pa_cons (pe_lst pa_nil) (pa_cons pe_dnewK (pa_cons pe_bl (pa_cons (pv 5) (pa_cons (pe_tup (pa_cons pe_str (pa_cons (pv 5) pa_nil))) (pa_cons (pe_tup (pa_cons pe_str pa_nil)) (pa_cons (pv 12) (pa_cons (pe_tup (pa_cons pe_str (pa_cons pe_str (pa_cons (pv 5) pa_nil)))) pa_nil))))))))))))) (pg_name (i := 13) sc_rf.nd rfl (Or.inr rfl))
    (pss_one (ps_if (pt_not (pt_val (pe_call GS (hr.mono (by decide)) (by rfl) mS kS bS .nil pass0 (pa_cons (pe_lst (pa_cons (pe_met (k := 40) (t := tLP K (tVar 12) (tVar 13)) T.toT02 (by rfl) (tb_rf t2 hc) rfl hm_rf (hu_rf t2) (hr.mono (by decide)) (lamS_by (sc := defScope s__law_refused_right) (by decide +kernel)) rfl (fun _ _ _ _ _ => rfl)
        (fun A outer s H E f c' hr2 => pe_makeS (sp := spPbi K) MI GI (hr2.mono (by decide)) (by rfl) T.gP bI (fun σ => passAt (takes_of rfl rfl rfl rfl) σ) (pa_cons (pv 12) (pa_cons (pv 13) pa_nil)))) pa_nil)) (pa_cons (pe_lst (pa_cons (pe_tup (pa_cons pe_str (pa_cons (pv 13) pa_nil))) pa_nil)) pa_nil))))) (pss_one ps_never) pss_nil)), ?_⟩
  intro D G nb tm v5 ar pr rs c0 c1 c2 c3 c4 c6 c7 c8 c9 c10 c11 c13 c14 hT hth R A0 hf k
  have X := A0.axs
  have e5 : EvO (tVar 5) [c0, c1, c2, c3, c4, some v5, c6, c7, c8, c9, c10, c11, some (.ref tm), c13, c14] G freeO := eo_var rfl hf
  refine loop_tup (P := PgO K ar pr) (n := 11) (fun c13 => [c0, c1, c2, c3, c4, some v5, c6, c7, c8, c9, c10, c11, some (.ref tm), c13, c14]) pg_up (by decide) (fun c x => rfl) hT
    (ixs_cons pg_up (ix_eo eo_non (pg_ov ⟨rfl, rfl, by decide⟩ rfl (by decide))) (ixs_cons pg_up (ix_eo eo_int (pg_ov ⟨rfl, rfl, by show 1 ≤ 7000; decide⟩ rfl (Nat.zero_le _))) (ixs_cons pg_up (ix_eo eo_str (pg_ov ⟨by decide +kernel, rfl, by decide⟩ rfl (Nat.zero_le _))) (ixs_cons pg_up (ix_eo (eo_lst eao_nil (by decide)) (pg_ov ⟨rfl, rfl, by decide⟩ (by rw [O.fitS, fitSL]) (by decide))) (ixs_cons pg_up (ix_eo eo_dct (pg_ov ⟨rfl, rfl, by decide⟩ rfl (by decide)))
      (ixs_cons pg_up (ix_eo eo_bl (pg_ov ⟨rfl, rfl, by show 1 ≤ 7000; decide⟩ rfl (Nat.zero_le _))) (ixs_cons pg_up (ix_eo e5 (pg_ov ⟨by decide +kernel, by decide +kernel, by decide⟩ free_no (by decide))) (ixs_cons pg_up (ix_eo (eo_tup (eao_cons eo_str (eao_cons e5 eao_nil)) (by show 2 ≤ 1000; decide)) (pg_ov ⟨by decide +kernel, by decide +kernel, by decide⟩ notF_no (by decide)))
      (ixs_cons pg_up (ix_eo (eo_tup (eao_cons eo_str eao_nil) (by show 1 ≤ 1000; decide)) (pg_ov ⟨by decide +kernel, by decide +kernel, by decide⟩ (p9_fit R) (by decide))) (ixs_cons pg_up (ix_ev (ev_var rfl) fun J eJ => ⟨.inl ⟨CT K, (hth.ext eJ).th.ins T⟩, .thy (hth.ext eJ) R.nms X⟩)
      (ixs_cons pg_up (ix_eo (eo_tup (eao_cons eo_str (eao_cons eo_str (eao_cons e5 eao_nil))) (by show 3 ≤ 1000; decide)) (pg_ov ⟨by decide +kernel, by decide +kernel, by decide⟩ someF_no (by decide))) ixs_nil)))))))))))
    (fun x G' D' e' T' hx' k' => turnA (y := "BadGoal") (z := "thing") (s := "goal") (x := x) (by decide) rfl T' (fun H1 E Q' e1 T1 hb => lp_goal (u := x) (ev_var rfl) (ev_var rfl) (hth.extN (e'.trans e1)) R.d1 R.d2 (pg_up _ _ _ e1 hx').1 (fun G2 e2 => hb G2 (ExtN.of e2) (T1.ext e2))) (fun G2 e2 => hx'.2.extN e2) k') (fun G' c13 e' T' => k G' c13 e' T')
end
end K02

set_option Elab.async false
set_option linter.all false
set_option maxRecDepth 100000
set_option maxHeartbeats 4000000
/-! _law_refused_right: what is held is spoiled. -/
namespace K02
open PySem PySem.Spec PyProof.Rows L2 Evl LamX
theorem szs_strs : ∀ ys : List Str, O.szs (ys.map .str) = ys.length
  | [] => rfl
  | y :: ys => by show 1 + O.szs (ys.map .str) = ys.length + 1; rw [szs_strs ys]; omega
theorem heldN_no {ar pr : List (Str × Nat)} (R : Raw ar pr) : (O.lst [.str "not", .lst [.str "y"]]).fitS ar pr [] = false := by
  show fitSL ar pr [.str "not", .lst [.str "y"]] [] = false
  rw [fs_not rfl, O.fitS, fitSL]
  show ((false || decide (arl pr "y" = some 0)) && _) = false
  have : ("y" : Str) ∉ pool2 := by decide +kernel
  rw [arl_none fun r hr (e : r.1 = "y") => this (e ▸ (R.n2 r hr).1)]
  rfl
abbrev tHl (K : PySem.W.Frag) (i : Int) : TE := tOp (rIxL K) (tVar 11) (tC (.int i))
section
variable {P : Program} {w : World} {K : PySem.W.Frag} {mg : Str → Option Value} {base : Heap} {f c : Addr} {A : Around} {outer : List Env} {s : Shared} {HX : Hp}
theorem rf13 (T : TN P w K mg base) (t2 : TabF K mg base) (hc : He.codeOf K ("_law_refused_right", none) = c) (hr : Room 90 (XR P w K mg base f c A outer s HX).A) : ∃ t13 t14 t15 t16 t17, PS (XR P w K mg base f c A outer s HX) (stR 13) t13 ∧ PS (XR P w K mg base f c A outer s HX) (stR 14) t14 ∧ PS (XR P w K mg base f c A outer s HX) (stR 15) t15 ∧ PS (XR P w K mg base f c A outer s HX) (stR 16) t16 ∧ PS (XR P w K mg base f c A outer s HX) (stR 17) t17 ∧
    ∀ (D : Ends) (G : Hp) (p q nb tm : Addr) (n : Int) (ar pr : List (Str × Nat)) (rs : List (Str × O)) (c0 c1 c2 c3 c4 c5 c6 c7 c8 c9 c10 c11 c13 c14 : Option V),
      Spr G p q n → Tabs (tabT K) G → Th K G tm nb ar pr rs → Raw ar pr →
      (∀ G', Go (PQ p q) G G' → Spr G' p q n → Tabs (tabT K) G' → D.rt (.bl true) G') →
      tSeq t13 (tSeq t14 (tSeq t15 (tSeq t16 t17))) D [c0, c1, c2, c3, c4, c5, c6, c7, c8, c9, c10, c11, some (.ref tm), c13, c14] G := by
  obtain ⟨fS, dS, GS, bS, kS, mS⟩ := (ok_same2 T 72).ex
  obtain ⟨fO, dO, GO, bO, kO, mO⟩ := (ok_spoiled T.toT02 10).ex
  obtain ⟨fI, fdI, MI, FI⟩ := T.mkT
  have GI := ok_tinit T t2 FI
  have bI := FI.bindsN (ps := ["self", "names", "axioms"]) (fun kV doc pm an cdv ct us hl => match us, hl with | [_, _, _], _ => rfl)
  obtain ⟨fJ, fdJ, MJ, FJ⟩ := T.mkP
  have GJ := ok_pinit T FJ
  have bJ := FJ.bindsN (ps := ["self", "theory", "goal"]) (fun kV doc pm an cdv ct us hl => match us, hl with | [_, _, _], _ => rfl)
  refine ⟨_, _, _, _, _, ps_set (i := 11) sc_rf.nd rfl (by first | exact Or.inl rfl | exact Or.inr rfl) (pe_lst (pa_cons (pe_lst (pa_cons pe_str pa_nil)) (pa_cons (pe_lst (pa_cons pe_str (pa_cons (pe_lst (pa_cons pe_str pa_nil)) pa_nil))) pa_nil))),
    ps_set (i := 9) sc_rf.nd rfl (by first | exact Or.inl rfl | exact Or.inr rfl) (pe_lst (pa_cons (pe_met (k := 40) (t := tLT K (tHl K 0) (tC .non)) T.toT02 (by rfl) (tb_rf t2 hc) rfl hm_rf (hu_rf t2) (hr.mono (by decide)) (lamS_by (sc := defScope s__law_refused_right) (by decide +kernel)) rfl (fun _ _ _ _ _ => rfl)
        (fun A outer s H E f c' hr2 => pe_makeS (sp := spTi K) MI GI (hr2.mono (by decide)) (by rfl) T.gT bI (fun σ => passAt (takes_of rfl rfl rfl rfl) σ) (pa_cons (pe_ix ix_list (pv 11) pe_int (fun _ _ => rfl)) (pa_cons pe_non pa_nil)))) pa_nil)),
    ps_expr (pe_bm PySem.F.plainAttrs_list PySem.F.slot_list_append PySem.F.type_list_append mt_append (pv 9) (pa_cons (pe_met (k := 40) (t := tLP K (tVar 12) (tHl K 1)) T.toT02 (by rfl) (tb_rf t2 hc) rfl hm_rf (hu_rf t2) (hr.mono (by decide)) (lamS_by (sc := defScope s__law_refused_right) (by decide +kernel)) rfl (fun _ _ _ _ _ => rfl)
        (fun A outer s H E f c' hr2 => pe_makeS (sp := spPbi K) MJ GJ (hr2.mono (by decide)) (by rfl) T.gP bJ (fun σ => passAt (takes_of rfl rfl rfl rfl) σ) (pa_cons (pv 12) (pa_cons (pe_ix ix_list (pv 11) pe_int (fun _ _ => rfl)) pa_nil)))) pa_nil)),
    ps_expr (pe_call GO (hr.mono (by decide)) (by rfl) mO kO bO .nil pass0 (pa_cons (pv 11) pa_nil)),
    ps_ret (pe_call GS (hr.mono (by decide)) (by rfl) mS kS bS .nil pass0 (pa_cons (pv 9) (pa_cons (pe_lst (pa_cons (pe_tup (pa_cons pe_str (pa_cons (pe_ix ix_list (pv 11) pe_int (fun _ _ => rfl)) pa_nil))) (pa_cons (pe_tup (pa_cons pe_str (pa_cons (pe_ix ix_list (pv 11) pe_int (fun _ _ => rfl)) pa_nil))) pa_nil))) pa_nil))), ?_⟩
  intro D G p q nb tm n ar pr rs c0 c1 c2 c3 c4 c5 c6 c7 c8 c9 c10 c11 c13 c14 S hT hth R k
  refine q_asgR ?_
  refine ⟨by show 1 ≤ sizeLine; decide, fun l1 n1 => ⟨by show 1 ≤ sizeLine; decide, fun l3 n3 => ⟨by show 2 ≤ sizeLine; decide, fun l2 n2 => ⟨by show 2 ≤ sizeLine; decide, fun hl nh => ?_⟩⟩⟩⟩
  have x1 := Ex.new (o := .lst [.str "x"]) n1
  have x3 := Ex.new (o := .lst [.str "y"]) n3
  have x2 := Ex.new (o := .lst [.str "not", .ref l3]) n2
  have xh := Ex.new (o := .lst [.ref l1, .ref l2]) nh
  have g1 := (x3.trans (x2.trans xh)) _ _ (upd_same (H := G) (a := l1) (o := .lst [.str "x"]))
  have g3 := (x2.trans xh) _ _ (upd_same (H := upd G l1 (.lst [.str "x"])) (a := l3) (o := .lst [.str "y"]))
  have g2 := xh _ _ (upd_same (H := upd (upd G l1 (.lst [.str "x"])) l3 (.lst [.str "y"])) (a := l2) (o := .lst [.str "not", .ref l3]))
  have gh := upd_same (H := upd (upd (upd G l1 (.lst [.str "x"])) l3 (.lst [.str "y"])) l2 (.lst [.str "not", .ref l3])) (a := hl) (o := .lst [.ref l1, .ref l2])
  have e1 : Ex G _ := x1.trans (x3.trans (x2.trans xh))
  have z1 : G l1 = none := n1
  have z3 : G l3 = none := fresh_back x1 n3
  have z2 : G l2 = none := fresh_back (x1.trans x3) n2
  have zh : G hl = none := fresh_back (x1.trans (x3.trans x2)) nh
  generalize upd (upd (upd (upd G l1 (.lst [.str "x"])) l3 (.lst [.str "y"])) l2 (.lst [.str "not", .ref l3])) hl (.lst [.ref l1, .ref l2]) = G1 at g1 g2 g3 gh e1 ⊢
  have hT1 := hT.ext e1
  have hth1 := hth.ext e1
  -- found = [met(..)]
  refine q_asgR (lst1 ?_)
  refine lam_bad (x := "BadNames") (z := "thing") (s := "names") (v := .ref l1) (by decide) hT1 (fun H1 E Q' ee T1 hb => lt_names (v := .ref l1) (ev_op (ev_var rfl) ev_c (rv_ixL (sq_of (ee _ _ gh lst_tbl)) (atI_nat (j := 0) rfl))) e_non T1 (fun G2 e2 => .inl ⟨.lst [.str "x"], l1, _, rfl, e2 _ _ (ee _ _ g1 lst_tbl) lst_tbl, .cons rfl .nil⟩) hb) fun ta G2 e2 T2 h2 => ⟨by show 1 ≤ sizeLine; decide, fun fl nfl => ?_⟩
  have xf := Ex.new (o := .lst [.ref ta]) nfl
  have hfl := upd_same (H := G2) (a := fl) (o := .lst [.ref ta])
  have hta := xf _ _ h2
  have e13 : ExtN G1 _ := e2.trans (ExtN.of xf)
  have T3 := T2.ext xf
  have nfl1 : ∀ b u, G1 b = some u → (∀ ps, u ≠ .tbl ps) → b ≠ fl := fun b u hb hu z => by
    have := e2 _ _ hb hu
    rw [z, nfl] at this
    cases this
  generalize upd G2 fl (.lst [.ref ta]) = G3 at xf hfl hta e13 T3 ⊢
  -- found.append(met(..))
  refine ⟨_, rfl, .inl ⟨rfl, _, sq_of hfl⟩, ?_⟩
  refine lam_bad (x := "BadGoal") (z := "thing") (s := "goal") (v := .ref l2) (by decide) T3 (fun H1 E Q' ee T1 hb => lp_goal (u := .ref l2) (ev_var rfl) (ev_op (ev_var rfl) ev_c (rv_ixL (sq_of ((e13.trans ee) _ _ gh lst_tbl)) (atI_nat (j := 1) rfl))) (hth1.extN (e13.trans ee)) R.d1 R.d2 (.inr ⟨.lst [.str "not", .lst [.str "y"]], ⟨l2, _, rfl, (e13.trans ee) _ _ g2 lst_tbl, .cons rfl (.cons ⟨l3, _, rfl, (e13.trans ee) _ _ g3 lst_tbl, .cons rfl .nil⟩ .nil)⟩, ⟨by decide +kernel, by decide +kernel, by decide⟩, heldN_no R⟩) (fun G2 e2 => hb G2 (ExtN.of e2) (T1.ext e2))) fun tb G4 e4 T4 h4 => ?_
  have hfl4 := e4 _ _ hfl lst_tbl
  refine ⟨fl, [.ref ta], .ref tb, rfl, rfl, hfl4, by show 1 < sizeLine; decide, ?_⟩
  have keep : ∀ b u, G1 b = some u → (∀ ps, u ≠ .tbl ps) → (upd G4 fl (.lst ([.ref ta] ++ [.ref tb]))) b = some u := fun b u hb hu => by
    rw [upd_ne (nfl1 b u hb hu)]
    exact e4 _ _ (e13 _ _ hb hu) hu
  have hfl5 : (upd G4 fl (.lst ([.ref ta] ++ [.ref tb]))) fl = some (.lst [.ref ta, .ref tb]) := upd_same
  have tx5 : Tx G4 (upd G4 fl (.lst ([.ref ta] ++ [.ref tb]))) := Tx.lst hfl4
  have hta5 := tx5 _ _ (e4 _ _ hta tup_tbl)
  have htb5 := tx5 _ _ h4
  have T5 : Tabs (tabT K) (upd G4 fl (.lst ([.ref ta] ++ [.ref tb]))) := tabs_keep T4 fun b u hb nl _ => by
    rw [upd_ne (fun z => by rw [z, hfl4] at hb; exact nl _ (Option.some.inj hb).symm)]
    exact hb
  generalize upd G4 fl (.lst ([.ref ta] ++ [.ref tb])) = G5 at keep hfl5 tx5 hta5 htb5 T5 ⊢
  dsimp only
  -- what is held is spoiled
  have k1 := keep _ _ g1 lst_tbl
  have k2 := keep _ _ g2 lst_tbl
  have k3 := keep _ _ g3 lst_tbl
  have kh := keep _ _ gh lst_tbl
  have fB : ¬ (fl = hl ∨ fl = l1 ∨ fl = l2 ∨ fl = l3) := by
    rintro (z | z | z | z)
    · exact nfl1 _ _ gh lst_tbl z.symm
    · exact nfl1 _ _ g1 lst_tbl z.symm
    · exact nfl1 _ _ g2 lst_tbl z.symm
    · exact nfl1 _ _ g3 lst_tbl z.symm
  have tupB : ∀ {t : Addr} {us : List V}, G5 t = some (.tup us) → ¬ (t = hl ∨ t = l1 ∨ t = l2 ∨ t = l3) := fun {t us} ht z => by
    rcases z with rfl | rfl | rfl | rfl
    · rw [kh] at ht; cases ht
    · rw [k1] at ht; cases ht
    · rw [k2] at ht; cases ht
    · rw [k3] at ht; cases ht
  have one : (O.lst [.lst [.str "x"], .lst [.str "not", .lst [.str "y"]]]).lc = 4 := rfl
  refine ⟨_, rfl, .ref hl, .lst [.lst [.str "x"], .lst [.str "not", .lst [.str "y"]]], fun b => b = hl ∨ b = l1 ∨ b = l2 ∨ b = l3, rfl, fun b hb => ?_, ?_, rfl, by decide, fun b zs hb hz => ?_, fun G6 hS => ?_⟩
  · rcases hb with rfl | rfl | rfl | rfl
    · exact ⟨_, kh⟩
    · exact ⟨_, k1⟩
    · exact ⟨_, k2⟩
    · exact ⟨_, k3⟩
  · exact ⟨hl, _, rfl, hb_of kh (.inr (.inl rfl)), .cons ⟨l1, _, rfl, hb_of k1 (.inr (.inr (.inl rfl))), .cons rfl .nil⟩ (.cons ⟨l2, _, rfl, hb_of k2 (.inr (.inr (.inr (.inl rfl)))), .cons rfl (.cons ⟨l3, _, rfl, hb_of k3 (.inr (.inr (.inr (.inr rfl)))), .cons rfl .nil⟩ .nil)⟩ .nil)⟩
  · rw [one]
    rcases hb with rfl | rfl | rfl | rfl
    · rw [kh] at hz; obtain rfl := HO.lst.inj (Option.some.inj hz); show 2 + 4 ≤ 50000; decide
    · rw [k1] at hz; obtain rfl := HO.lst.inj (Option.some.inj hz); show 1 + 4 ≤ 50000; decide
    · rw [k2] at hz; obtain rfl := HO.lst.inj (Option.some.inj hz); show 2 + 4 ≤ 50000; decide
    · rw [k3] at hz; obtain rfl := HO.lst.inj (Option.some.inj hz); show 1 + 4 ≤ 50000; decide
  rw [one] at hS
  obtain ⟨y0, s0, _⟩ := hS.ls hl _ (.inl rfl) kh
  obtain ⟨y1, s1, m1⟩ := hS.ls l1 _ (.inr (.inl rfl)) k1
  obtain ⟨y2, s2, m2⟩ := hS.ls l2 _ (.inr (.inr (.inl rfl))) k2
  obtain ⟨y3, s3, m3⟩ := hS.ls l3 _ (.inr (.inr (.inr rfl))) k3
  have f6 := hS.go _ _ fB hfl5
  have a6 := hS.go _ _ (tupB hta5) hta5
  have b6 := hS.go _ _ (tupB htb5) htb5
  have stay : ∀ b u, G1 b = some u → (∀ ps, u ≠ .tbl ps) → G b = some u → G6 b = some u := fun b u hb hu h0 => hS.go b u (by
    rintro (z | z | z | z)
    · rw [z, zh] at h0; cases h0
    · rw [z, z1] at h0; cases h0
    · rw [z, z2] at h0; cases h0
    · rw [z, z3] at h0; cases h0) (keep _ _ hb hu)
  -- the same
  have ol1 : OV G6 (.ref l1) (.lst ([.str "x"] ++ y1.map .str)) := ⟨l1, _, rfl, s1, OVs.append (.cons rfl .nil) (strs_ov y1)⟩
  have ol3 : OV G6 (.ref l3) (.lst ([.str "y"] ++ y3.map .str)) := ⟨l3, _, rfl, s3, OVs.append (.cons rfl .nil) (strs_ov y3)⟩
  have ol2 : OV G6 (.ref l2) (.lst ([.str "not", .lst ([.str "y"] ++ y3.map .str)] ++ y2.map .str)) := ⟨l2, _, rfl, s2, OVs.append (.cons rfl (.cons ol3 .nil)) (strs_ov y2)⟩
  have sm1 : Sm K G6 70 (.ref l1) (.ref l1) := sm_of ol1 ol1 (by
    have h1 := dq_dp (O.lst ([.str "x"] ++ y1.map .str))
    have h2 : (O.lst ([.str "x"] ++ y1.map .str)).dp = O.dps ([.str "x"] ++ y1.map .str) + 1 := rfl
    rw [dps_app, dps_strs] at h2
    have h3 : O.dps [.str "x"] = 0 := rfl
    omega) (by
    have h1 := mx_sz (O.lst ([.str "x"] ++ y1.map .str))
    have h2 : (O.lst ([.str "x"] ++ y1.map .str)).sz = O.szs ([.str "x"] ++ y1.map .str) + 1 := rfl
    rw [O.szs_app, szs_strs] at h2
    have h3 : O.szs [.str "x"] = 1 := rfl
    omega)
  have sm2 : Sm K G6 70 (.ref l2) (.ref l2) := sm_of ol2 ol2 (by
    have h1 := dq_dp (O.lst ([.str "not", .lst ([.str "y"] ++ y3.map .str)] ++ y2.map .str))
    have h2 : (O.lst ([.str "not", .lst ([.str "y"] ++ y3.map .str)] ++ y2.map .str)).dp = O.dps ([.str "not", .lst ([.str "y"] ++ y3.map .str)] ++ y2.map .str) + 1 := rfl
    rw [dps_app, dps_strs] at h2
    have h3 : O.dps [.str "not", .lst ([.str "y"] ++ y3.map .str)] = max 0 (max (O.dps ([.str "y"] ++ y3.map .str) + 1) 0) := rfl
    rw [dps_app, dps_strs] at h3
    have h4 : O.dps [.str "y"] = 0 := rfl
    omega) (by
    have h1 := mx_sz (O.lst ([.str "not", .lst ([.str "y"] ++ y3.map .str)] ++ y2.map .str))
    have h2 : (O.lst ([.str "not", .lst ([.str "y"] ++ y3.map .str)] ++ y2.map .str)).sz = O.szs ([.str "not", .lst ([.str "y"] ++ y3.map .str)] ++ y2.map .str) + 1 := rfl
    rw [O.szs_app, szs_strs] at h2
    have h3 : O.szs [.str "not", .lst ([.str "y"] ++ y3.map .str)] = 1 + ((O.szs ([.str "y"] ++ y3.map .str) + 1) + 0) := rfl
    rw [O.szs_app, szs_strs] at h3
    have h4 : O.szs [.str "y"] = 1 := rfl
    omega)
  refine ⟨_, rfl, ⟨_, rfl, hl, _, 0, .ref l1, rfl, rfl, sq_of s0, atI_nat (j := 0) rfl, by show 2 ≤ sizeLine; decide, fun t1 nt1 => ?_⟩⟩
  have w1 := Ex.new (o := .tup [.str "names", .ref l1]) nt1
  refine ⟨_, rfl, hl, _, 1, .ref l2, rfl, rfl, sq_of (w1 _ _ s0), atI_nat (j := 1) rfl, by show 2 ≤ sizeLine; decide, fun t2 nt2 => ⟨by show 2 ≤ sizeLine; decide, fun l nl => ?_⟩⟩
  have w2 := Ex.new (o := .tup [.str "goal", .ref l2]) nt2
  have w3 := Ex.new (o := .lst [.ref t1, .ref t2]) nl
  have w23 := w2.trans w3
  have w13 := w1.trans w23
  refine ⟨.ref fl, .ref l, rfl, .seq (m := 71) (b := true) (w13 _ _ f6) upd_same rfl (by show 2 ≤ 40000; decide) fun i u v hu hv => ?_, fun G7 e7 => ?_⟩
  · match i, hu, hv with
    | 0, hu, hv =>
      obtain rfl : V.ref ta = u := by simpa using hu
      obtain rfl : V.ref t1 = v := by simpa using hv
      exact sm_pair (w13 _ _ a6) (w23 _ _ upd_same) (sm_str _) (sm1.ext w13)
    | 1, hu, hv =>
      obtain rfl : V.ref tb = u := by simpa using hu
      obtain rfl : V.ref t2 = v := by simpa using hv
      exact sm_pair (w13 _ _ b6) (w3 _ _ upd_same) (sm_str _) (sm2.ext w13)
    | i + 2, hu, hv => simp at hu
  · have e67 := w13.trans e7
    have old := S.old
    obtain ⟨px, hpx⟩ := old.1
    obtain ⟨qx, hqx⟩ := old.2
    refine k G7 (fun b u nb' hu hb => e67 _ _ (stay b u (e1 _ _ hb) hu hb)) (S.keep (fun o h => e67 _ _ (stay p o (e1 _ _ h) (fun ps z => by rw [z, hpx] at h; cases h) h)) (fun o h => e67 _ _ (stay q o (e1 _ _ h) (fun ps z => by rw [z, hqx] at h; cases h) h))) ((tabs_keep T5 fun b u hb nl _ => hS.go b u ?_ hb).ext e67)
    rintro (z | z | z | z)
    · rw [z, kh] at hb; exact nl _ (Option.some.inj hb).symm
    · rw [z, k1] at hb; exact nl _ (Option.some.inj hb).symm
    · rw [z, k2] at hb; exact nl _ (Option.some.inj hb).symm
    · rw [z, k3] at hb; exact nl _ (Option.some.inj hb).symm
end
end K02

set_option Elab.async false
set_option linter.all false
set_option maxRecDepth 100000
set_option maxHeartbeats 4000000
/-! _law_refused_right whole. -/
namespace K02
open PySem PySem.Spec PyProof.Rows L2 Evl LamX
def spRf (K : PySem.W.Frag) : Sp := fun vs H Q _ => ∃ (p q rt rw : Addr) (va : V) (n : Int) (ar pr : List (Str × Nat)) (rs : List (Str × O)) (g : O), vs = [.ref p, .ref rt, .ref rw, va] ∧ Spr H p q n ∧ n < 5900000 ∧ Tabs (tabT K) H ∧ RwV H p q rt ar pr ∧ Raw ar pr ∧ (∃ xs, H rw = some (.lst xs) ∧ OVs H xs (rs.map axO)) ∧ rw ≠ p ∧ rw ≠ q ∧ OV H va g ∧ RwS ar pr rs ∧ GoT ar pr g ∧
  ∀ (G : Hp) (n' : Int), Go (PQ p q) H G → Spr G p q n' → n' ≤ n + 400000 → Tabs (tabT K) G → Q (.bl true) G
section
variable {P : Program} {w : World} {K : PySem.W.Frag} {mg : Str → Option Value} {base : Heap}
theorem ok_refused_right (T : TN P w K mg base) (t2 : TabF K mg base) : ∃ f fd, FnG P w K mg base 91 f fd ["_law_stream", "_law_raw", "_law_axioms", "_law_goal"] (spRf K) ∧ L2.Binds K fd ["_law_stream", "_law_raw", "_law_axioms", "_law_goal"] [] ∧ PySem.W.keepIn K (.ref f) = true ∧ mg "_law_refused_right" = some (.ref f) := by
  obtain ⟨⟨fd, F⟩, m⟩ := T.df 36 "_law_refused_right" s__law_refused_right rfl
  refine ⟨_, fd, FnG.of F sc_rf (fun vs H Q E h => by obtain ⟨p, q, rt, rw, va, n, ar, pr, rs, g, rfl, _⟩ := h; rfl) (fun c ⟨oc, od, osl, lk, ec⟩ A outer s H vs Q hg hr h => ?_), F.bindsN (fun kV doc pm an cdv ct us hl => match us, hl with | [_, _, _, _], _ => rfl), F.kp, m⟩
  obtain ⟨p, q, rt, rw, va, n, ar, pr, rs, g, rfl, S, hn, hT, hraw, R, hrows, rp, rq, haim, A0, g0, k⟩ := h
  have hc : He.codeOf K ("_law_refused_right", none) = c := He.codeOf_eq (p := ("_law_refused_right", none)) lk ec
  obtain ⟨t0, p0, k0⟩ := rf0 (f := He.ga K "_law_refused_right") (c := c) (outer := outer) (s := s) (HX := H) T hr
  obtain ⟨t1, p1, k1⟩ := rf1 (f := He.ga K "_law_refused_right") (outer := outer) (s := s) (HX := H) T t2 hc hr
  obtain ⟨u2, p2, k2⟩ := rf2 (f := He.ga K "_law_refused_right") (outer := outer) (s := s) (HX := H) T t2 hc hr
  obtain ⟨t3, p3, k3⟩ := rf3 (f := He.ga K "_law_refused_right") (c := c) (outer := outer) (s := s) (HX := H) T hr
  obtain ⟨t4, t5, t6, t7, t8, p4, p5, p6, p7, p8, k4⟩ := rf48 (f := He.ga K "_law_refused_right") (c := c) (outer := outer) (s := s) (HX := H) T hr
  obtain ⟨t9, p9, k9⟩ := rf9 (f := He.ga K "_law_refused_right") (outer := outer) (s := s) (HX := H) T t2 hc hr
  obtain ⟨t10, p10, k10⟩ := rf10 (f := He.ga K "_law_refused_right") (c := c) (outer := outer) (s := s) (HX := H) T t2 hr
  obtain ⟨t11, p11, k11⟩ := rf11 (f := He.ga K "_law_refused_right") (outer := outer) (s := s) (HX := H) T t2 hc hr
  obtain ⟨t12, p12, k12⟩ := rf12 (f := He.ga K "_law_refused_right") (outer := outer) (s := s) (HX := H) T t2 hc hr
  obtain ⟨t13, t14, t15, t16, t17, p13, p14, p15, p16, p17, k13⟩ := rf13 (f := He.ga K "_law_refused_right") (outer := outer) (s := s) (HX := H) T t2 hc hr
  refine ⟨_, PSs.nox (pss_cons p0 (pss_cons p1 (pss_cons p2 (pss_cons p3 (pss_cons p4 (pss_cons p5 (pss_cons p6 (pss_cons p7 (pss_cons p8 (pss_cons p9 (pss_cons p10 (pss_cons p11 (pss_cons p12 (pss_cons p13 (pss_cons p14 (pss_cons p15 (pss_cons p16 (pss_one p17)))))))))))))))))), ?_⟩
  have W := A0.r.f
  obtain ⟨xs, hrw, hxs⟩ := hrows
  have hxl := hxs.length
  rw [List.length_map] at hxl
  have hl5 := A0.len
  have txq := S.txQ
  have hrawZ : RwV (Hx (PQ p q) H) p q rt ar pr := by
    obtain ⟨a, b, ys, zs, y1, na1, na2, nb1, nb2, ha, hb, hx, hy⟩ := hraw.ex
    exact ⟨a, b, ys, zs, txq _ _ y1, na1, na2, nb1, nb2, hx_of (by rintro (z | z); exact na1 z; exact na2 z) lst_tbl ha, hx_of (by rintro (z | z); exact nb1 z; exact nb2 z) lst_tbl hb, OVs.tx txq (prs_noL _) (prs_nod _) hx, OVs.tx txq (prs_noL _) (prs_nod _) hy⟩
  refine k0 _ H p q rt rw va n ar pr rs g _ _ _ _ _ _ _ _ _ _ _ _ _ S hrawZ R ⟨xs, hx_of (by rintro (z | z); exact rp z; exact rq z) lst_tbl hrw, OVs.tx txq W.noL W.nod hxs⟩ (OV.tx txq g0.dr.noL g0.dr.nod haim) fun G1 nb e1 F1 => ?_
  have S1 := S.ext e1
  refine k1 _ G1 p q rt ar pr _ _ _ _ _ _ _ _ _ _ _ _ _ _ (hT.ext e1) (F1.raw.ext hx_ex) R fun G2 c13 e2 T2 => ?_
  have F2 := F1.ext (Go.ofN (B := PQ p q) e2).ex
  have S2 := spr_extN S1 e2
  refine k2 _ G2 nb ar pr _ _ _ _ _ _ _ _ _ _ _ _ _ _ T2 (F2.nam.ext hx_ex) R fun G3 c13' e3 T3 => ?_
  have F3 := F2.ext (Go.ofN (B := PQ p q) e3).ex
  have S3 := spr_extN S2 e3
  obtain ⟨ys, hrw3, hys3⟩ := F3.rows
  have hyl := hys3.length
  rw [List.length_map] at hyl
  refine k3 _ G3 p q rw n ys _ _ _ _ _ _ _ _ _ _ _ _ _ S3 (by omega) (hx_ex _ _ hrw3) (by omega) fun G4 j v5 hj hv5 S4 B4 => ?_
  have F4 := F3.ext (go_pq B4).ex
  have T4 := tabs_but T3 B4 S3
  refine k4 _ _ G4 p q (n + 1) va v5 g _ _ _ _ _ _ _ _ _ _ _ _ _ S4 F4.aim hv5 fun G5 od acc e5 n5 hod hov => ?_
  have g5 : Go (PQ p q) G4 G5 := Go.of e5
  have F5 := F4.ext g5.ex
  have hv5' := hv5.ext g5.ex
  have S5 := S4.ext e5
  have ov5 : OVs (Hx (PQ p q) G5) acc (oddsO g) := hov.ext (hx_mono fun b hb => .inl hb)
  refine k9 _ G5 p q rt rw nb va (n + 1) ar pr rs g j od acc _ _ _ _ _ _ _ _ _ S5 (by omega) (T4.ext e5) F5 R A0 g0 (by omega) hod ov5 fun G6 n6 c13'' c14'' g6 S6 hn6 T6 => ?_
  have F6 := F5.ext g6.ex
  have hv6 := hv5'.ext g6.ex
  obtain ⟨ys6, hrw6, hys6⟩ := F6.rows
  refine k10 _ G6 rw nb ys6 ar pr rs _ _ _ _ _ _ _ _ _ _ _ _ _ T6 (F6.nam.ext hx_ex) R A0.r (hx_ex _ _ hrw6) (hys6.ext hx_ex) fun G7 tm hth e7 T7 => ?_
  have g7 : Go (PQ p q) G6 G7 := Go.ofN e7
  have F7 := F6.ext g7.ex
  have th7 : ThAt K (Hx (PQ p q) G7) tm nb rs := hth.ext (hx_mono (pq_old S6))
  have S7 := spr_extN S6 e7
  obtain ⟨ys7, hrw7, hys7⟩ := F7.rows
  refine k11 _ G7 rw nb ys7 ar pr rs _ _ _ _ _ _ _ _ _ _ _ _ _ T7 (F7.nam.ext hx_ex) R A0.r (hx_ex _ _ hrw7) (hys7.ext hx_ex) fun G8 c13x e8 T8 => ?_
  have g8 : Go (PQ p q) G7 G8 := Go.ofN e8
  have F8 := F7.ext g8.ex
  have th8 := th7.ext g8.ex
  have S8 := spr_extN S7 e8
  refine k12 _ G8 nb tm v5 ar pr rs _ _ _ _ _ _ _ _ _ _ _ _ _ T8 ⟨th8.ext hx_ex, F8.nam.ext hx_ex⟩ R A0.r (((hv6.ext g7.ex).ext g8.ex).ext hx_ex) fun G9 c13y e9 T9 => ?_
  have g9 : Go (PQ p q) G8 G9 := Go.ofN e9
  have F9 := F8.ext g9.ex
  have S9 := spr_extN S8 e9
  refine k13 _ G9 p q nb tm n6 ar pr rs _ _ _ _ _ _ _ _ _ _ _ _ _ _ S9 T9 ⟨(th8.ext g9.ex).ext hx_ex, F9.nam.ext hx_ex⟩ R fun G10 g10 S10 T10 => ?_
  exact k G10 n6 ((((Go.of e1).trans (Go.ofN e2)).trans ((Go.ofN e3).trans (go_pq B4))).trans (((g5.trans g6).trans (g7.trans g8)).trans (g9.trans g10))) S10 (by omega) T10
end
end K02

set_option Elab.async false
set_option linter.all false
set_option maxRecDepth 100000
set_option maxHeartbeats 4000000
/-! The law. -/
namespace K02
open PySem PySem.Spec PyProof.Rows L2 Evl LamX
abbrev nLw : List Str := ["_law_script", "_law_stream", "_law_turn", "_law_raw", "_law_axioms", "_law_goal", "_law_deep", "_law_k"]
theorem sc_lw : FnScope nLw ["_law_script"] (defScope s_law) := ⟨rfl, rfl, rfl, by decide +kernel, rfl, by decide +kernel, by decide +kernel⟩
abbrev XL (P : Program) (w : World) (K : PySem.W.Frag) (mg : Str → Option Value) (base : Heap) (f c : Addr) (A : Around) (outer : List Env) (s : Shared) (H : Hp) : Cx := (cxOf CX0 P w K mg base nLw "law" (defScope s_law) f (.ref c) A outer s H E0).nox
def stL (i : Nat) : Stmt := (defBody s_law).getD i (.Pass ⟨0, 0, 0, 0⟩)
theorem a_late : ∀ s ∈ poolA, s ≠ "late9" := by decide +kernel
theorem AxR.s {ar pr : List (Str × Nat)} {rs : List (Str × O)} {d z : Nat} (h : AxR ar pr d z rs) (hd : d ≤ 60) (hz : z ≤ 900) : RwS ar pr rs :=
  ⟨⟨fun r hr => poolA_nm (h.nm r hr), fun r hr => (h.sn r hr).fit, fun r hr => (h.sn r hr).dr.mono (by omega) (by omega), h.nd, Nat.le_trans h.len (by decide)⟩, fun r hr => a_late _ (h.nm r hr), h.len, fun r hr => (h.sn r hr).dr.mono hd hz⟩
theorem SnP.g {ar pr : List (Str × Nat)} {g : O} {d z : Nat} (h : SnP ar pr [] d z g) (hd : d ≤ 60) (hz : z ≤ 900) : GoT ar pr g := ⟨⟨h.fit, h.dr.mono (by omega) (by omega), h.tp⟩, h.dr.mono hd hz⟩
theorem sn_all {ar pr : List (Str × Nat)} {d z : Nat} {o : O} (h : SnP ar pr [] d z o) (hz : 1 ≤ z) : SnP ar pr [] (d + 1) (z + 3) (.tup [.str "all", .str "X", o]) := by
  have b := sn_bind (sc := []) (sd := []) (s := "all") (v := "X") (by simp) (by simp) (fun x hx => (nomatch hx)) hz h
  refine ⟨b.fit, ⟨b.dr.noL, b.dr.nod, b.dr.wd, b.dr.pu, b.dr.ss, b.dr.hok, b.dr.dp, ?_⟩, rfl⟩
  show (1 + (1 + (o.sz + 0))) + 1 ≤ z + 3
  have := h.dr.sz
  omega
theorem sn_not3 {ar pr : List (Str × Nat)} {d z : Nat} {o : O} (h : SnP ar pr [] d z o) : SnP ar pr [] (d + 1) (z + 3) (.tup [.str "not", o]) := (sn_not h).mono (Nat.le_refl _) (by omega)
theorem axr_one {ar pr : List (Str × Nat)} {d z : Nat} {o : O} (h : SnP ar pr [] d z o) : AxR ar pr d z [("a1", o)] :=
  ⟨fun r hr => by obtain rfl := List.mem_singleton.mp hr; show ("a1" : Str) ∈ poolA; decide +kernel, fun r hr => by obtain rfl := List.mem_singleton.mp hr; exact h, by simp, by show 1 ≤ 5; decide⟩
theorem q_forR {σ : L2.St} {H : Hp} {tl : TE} {D : Ends} {tu tz : TS} {n : Nat} {j : Nat} (h : Ev tl σ H (.int (n : Nat))) (hz : n ≤ 30000) (Pv : Nat → L2.St → Hp → Prop) (h0 : ∀ H1, Ex H H1 → Pv 0 σ H1)
    (hs : ∀ i σ' H', i < n → Pv i σ' H' → tu { D with nx := Pv (i + 1), ct := Pv (i + 1), bk := tz D } (σ'.set j (some (.int (i : Nat)))) H') (hd : ∀ σ' H', Pv n σ' H' → tz D σ' H') : tSeq (tFor (iRng1 (tCons tl tNil)) (gName j) tu) tz D σ H :=
  h H (Ex.refl H) _ fun H1 e => ⟨_, rfl, by omega, by omega, by
    rw [Int.toNat_natCast]
    refine for_range (lo := 0) (D := { D with nx := tz D }) Pv (h0 H1 e) (fun i σ' H' hi p => ?_) hd
    rw [show (0 : Int) + (i : Nat) = (i : Nat) by omega]
    exact hs i σ' H' hi p⟩
def spLaw (K : PySem.W.Frag) : Sp := fun vs H Q _ => ∃ (a : Addr) (ns : List Int), vs = [.ref a] ∧ SqL K H a (ns.map V.int) ∧ Tabs (tabT K) H ∧ ∀ G, Q (.bl true) G
section
variable {P : Program} {w : World} {K : PySem.W.Frag} {mg : Str → Option Value} {base : Heap}
theorem ok_law (T : TN P w K mg base) (t2 : TabF K mg base) {fd : FuncData} (F : FnP K "law" s_law (He.ga K "law") fd) : FnG P w K mg base 92 (He.ga K "law") fd ["_law_script"] (spLaw K) := by
  obtain ⟨fS, dS, GS, bS, kS, mS⟩ := (ok_start T.toT02).ex
  obtain ⟨fD, dD, GD, bD, kD, mD⟩ := (ok_dr T.toT02).ex
  obtain ⟨fK, dK, GK, bK, kK, mK⟩ := (ok_pick T.toT02).ex
  obtain ⟨fR, dR, GR, bR, kR, mR⟩ := (ok_a_raw T.toT02).ex
  obtain ⟨fA, dA, GA, bA, kA, mA⟩ := (ok_axioms_d T.toT02).ex
  obtain ⟨fN, dN, GN, bN, kN, mN⟩ := (ok_sentence_d T.toT02 5).ex
  obtain ⟨fT, dT, GT, bT, kT, mT⟩ := ok_told_right T t2
  obtain ⟨fU, dU, GU, bU, kU, mU⟩ := ok_refused_right T t2
  refine FnG.of F sc_lw (fun vs H Q E h => by obtain ⟨a, ns, rfl, _⟩ := h; rfl) (fun c _ A outer s H vs Q hg hr h => ?_)
  obtain ⟨a, ns, rfl, hS, hT, kf⟩ := h
  have hr' : Room 91 (XL P w K mg base (He.ga K "law") c A outer s H).A := hr
  have hg' : (XL P w K mg base (He.ga K "law") c A outer s H).A.guards = some [] := hg
  refine ⟨_, PSs.nox (pss_cons (ps_set (i := 1) sc_lw.nd rfl (by first | exact Or.inl rfl | exact Or.inr rfl) (pe_call GS (hr'.mono (by decide)) (by rfl) mS kS bS .nil pass0 (pa_cons (pv 0) pa_nil)))
    (pss_cons (ps_for PassesOwn.never rfl (pi_range1 (by rfl) T.range (pa_cons pe_int pa_nil)) (pg_name (i := 2) sc_lw.nd rfl (Or.inl rfl))
      (pss_cons (ps_set (i := 3) sc_lw.nd rfl (by first | exact Or.inl rfl | exact Or.inr rfl) (pe_call GR (hr'.mono (by decide)) (by rfl) mR kR bR .nil pass0 (pa_cons (pv 1) (pa_cons (pe_call GD (hr'.mono (by decide)) (by rfl) mD kD bD .nil pass0 (pa_cons (pv 1) (pa_cons pe_int pa_nil))) (pa_cons (pe_call GD (hr'.mono (by decide)) (by rfl) mD kD bD .nil pass0 (pa_cons (pv 1) (pa_cons pe_int pa_nil))) (pa_cons (pe_call GD (hr'.mono (by decide)) (by rfl) mD kD bD .nil pass0 (pa_cons (pv 1) (pa_cons pe_int pa_nil))) pa_nil))))))
      (pss_cons (ps_set (i := 4) sc_lw.nd rfl (by first | exact Or.inl rfl | exact Or.inr rfl) (pe_call GA (hr'.mono (by decide)) (by rfl) mA kA bA .nil pass0 (pa_cons (pv 1) (pa_cons (pv 3) (pa_cons (pe_call GK (hr'.mono (by decide)) (by rfl) mK kK bK .nil pass0 (pa_cons (pv 1) (pa_cons (pe_lst (pa_cons pe_int (pa_cons pe_int (pa_cons pe_int (pa_cons pe_int pa_nil))))) pa_nil))) (pa_cons pe_int (pa_cons pe_bl pa_nil)))))))
      (pss_cons (ps_set (i := 5) sc_lw.nd rfl (by first | exact Or.inl rfl | exact Or.inr rfl) (pe_call GN (hr'.mono (by decide)) (by rfl) mN kN bN .nil pass0 (pa_cons (pv 1) (pa_cons (pv 3) (pa_cons (pe_lst pa_nil) (pa_cons pe_int (pa_cons pe_bl pa_nil)))))))
      (pss_one (ps_if (PW.pt (pw_or (pt_not (pt_val (pe_callG GT hg' (hr'.mono (by decide)) (by rfl) mT kT bT (pa_cons (pv 1) (pa_cons (pv 3) (pa_cons (pv 4) (pa_cons (pv 5) pa_nil))))))) (pw_or1 (pt_not (pt_val (pe_callG GU hg' hr' (by rfl) mU kU bU (pa_cons (pv 1) (pa_cons (pv 3) (pa_cons (pv 4) (pa_cons (pv 5) pa_nil))))))))))
        (pss_one ps_never) pss_nil))))))
    (pss_cons (ps_set (i := 3) sc_lw.nd rfl (by first | exact Or.inl rfl | exact Or.inr rfl) (pe_call GR (hr'.mono (by decide)) (by rfl) mR kR bR .nil pass0 (pa_cons (pv 1) (pa_cons pe_int (pa_cons pe_int (pa_cons pe_int pa_nil))))))
    (pss_cons (ps_set (i := 6) sc_lw.nd rfl (by first | exact Or.inl rfl | exact Or.inr rfl) (pe_call GN (hr'.mono (by decide)) (by rfl) mN kN bN .nil pass0 (pa_cons (pv 1) (pa_cons (pv 3) (pa_cons (pe_lst pa_nil) (pa_cons pe_int (pa_cons pe_bl pa_nil)))))))
    (pss_cons (ps_for PassesOwn.never rfl (pi_range1 (by rfl) T.range (pa_cons pe_int pa_nil)) (pg_name (i := 7) sc_lw.nd rfl (Or.inl rfl))
      (pss_one (ps_set (i := 6) sc_lw.nd rfl (by first | exact Or.inl rfl | exact Or.inr rfl) (pe_ifExp (pt_cmpR op_eq (pe_call GD (hr'.mono (by decide)) (by rfl) mD kD bD .nil pass0 (pa_cons (pv 1) (pa_cons pe_int pa_nil))) pe_int (nomark _)) (pe_tup (pa_cons pe_str (pa_cons (pv 6) pa_nil))) (pe_tup (pa_cons pe_str (pa_cons pe_str (pa_cons (pv 6) pa_nil))))))))
    (pss_one (ps_ret (pe_callG GT hg' (hr'.mono (by decide)) (by rfl) mT kT bT (pa_cons (pv 1) (pa_cons (pv 3) (pa_cons (pe_lst (pa_cons (pe_tup (pa_cons pe_str (pa_cons (pv 6) pa_nil))) pa_nil)) (pa_cons (pv 6) pa_nil)))))))))))), ?_⟩
  refine q_asgR ⟨_, rfl, a, ns, rfl, hS, fun p q G0 np nq e0 S0 => ?_⟩
  refine q_forR (n := 4) (ev_is ev_c rfl) (by decide) (fun i σ' G => (∃ c2 c3 c4 c5 : Option V, σ' = [some (.ref a), some (.ref p), c2, c3, c4, c5, none, none]) ∧ Tabs (tabT K) G ∧ ∃ n, Spr G p q n ∧ n ≤ 450000 * (i : Int)) (fun H1 e1 => ⟨⟨none, none, none, none, rfl⟩, (hT.ext e0).ext e1, 0, S0.ext e1, by omega⟩) ?_ ?_
  · rintro i σ' G hi ⟨⟨c2, c3, c4, c5, rfl⟩, hTG, n, S, hn⟩
    refine q_asgR ⟨_, rfl, _, rfl, p, q, n, 3, rfl, S, by omega, by decide, by decide, fun x1 G1 a0 a1 S1 B1 => ⟨_, rfl, p, q, n + 1, 3, rfl, S1, by omega, by decide, by decide, fun x2 G2 b0 b1 S2 B2 => ⟨_, rfl, p, q, n + 1 + 1, 4, rfl, S2, by omega, by decide, by decide, fun x3 G3 d0 d1 S3 B3 => ?_⟩⟩⟩
    obtain ⟨k1, rfl⟩ : ∃ k : Nat, x1 = (k : Int) := ⟨x1.toNat, by omega⟩
    obtain ⟨k2, rfl⟩ : ∃ k : Nat, x2 = (k : Int) := ⟨x2.toNat, by omega⟩
    obtain ⟨k3, rfl⟩ : ∃ k : Nat, x3 = (k : Int) := ⟨x3.toNat, by omega⟩
    have T3 := tabs_but (tabs_but (tabs_but hTG B1 S) B2 S1) B3 S2
    refine ⟨p, q, n + 1 + 1 + 1, k1, k2, k3, rfl, S3, by omega, by omega, by omega, by omega, fun rt ar pr n4 G4 hraw R S4 hn4 B4 => ?_⟩
    have T4 := tabs_but T3 B4 S3
    refine q_asgR ⟨_, rfl, _, rfl, _, rfl, by show 4 ≤ sizeLine; decide, fun lp nlp => ?_⟩
    have xl := Ex.new (o := .lst [.int 0, .int 1, .int 2, .int 5]) nlp
    have nl := S4.nep nlp
    refine ⟨p, q, lp, n4, [.int 0, .int 1, .int 2, .int 5], rfl, S4.ext xl, by omega, upd_same, nl.1, nl.2, by decide, by decide, fun y G5 hy S5 B5 => ?_⟩
    obtain ⟨m, rfl, hm⟩ : ∃ m : Nat, y = .int (m : Nat) ∧ m ≤ 5 := by
      simp only [List.mem_cons, List.not_mem_nil, or_false] at hy
      rcases hy with rfl | rfl | rfl | rfl
      · exact ⟨0, rfl, by omega⟩
      · exact ⟨1, rfl, by omega⟩
      · exact ⟨2, rfl, by omega⟩
      · exact ⟨5, rfl, by omega⟩
    have B45 : But p q G4 G5 := (But.of xl).trans B5
    have T5 := tabs_but T4 B45 S4
    have raw5 := hraw.but S4 B45
    refine ⟨p, q, rt, n4 + 1, ar, pr, m, rfl, S5, by omega, raw5, R, hm, fun c acc rs n6 G6 nc hc hov A0 hrl S6 hn6 B6 => ?_⟩
    have T6 := tabs_but T5 B6 S5
    have raw6 := raw5.but S5 B6
    have cpq := S5.nep nc
    have A1 := A0.s (by decide) (by decide)
    refine q_asgR ⟨_, rfl, _, rfl, by show 0 ≤ sizeLine; omega, fun ls nls => ?_⟩
    have xs := Ex.new (o := .lst []) nls
    have ns' := S6.nep nls
    refine ⟨p, q, rt, ls, n6, ar, pr, [], 3, rfl, S6.ext xs, ?_, raw6.ext xs, R, upd_same, ns'.1, ns'.2, ScV.nil, by decide, fun v g n7 G7 hv hg7 S7 hn7 B7 => ?_⟩
    · have : (K02.dS (mu [] 3) : Nat) = 1331 := rfl
      rw [this]
      omega
    have h1331 : (K02.dS (mu [] 3) : Nat) = 1331 := rfl
    rw [h1331] at hn7
    have B67 : But p q G6 G7 := (But.of xs).trans B7
    have T7 := tabs_but T6 B67 S6
    have raw7 := raw6.but S6 B67
    have g0 : GoT ar pr g := SnP.g hv (by decide) (by decide)
    have W := A1.r.f
    have rows7 : ∃ xs, G7 c = some (.lst xs) ∧ OVs G7 xs (rs.map axO) := ⟨acc, B67 _ _ cpq.1 cpq.2 hc, OVs.tx (S6.tx B67) W.noL W.nod hov⟩
    refine ⟨_, rfl, _, rfl, _, rfl, _, rfl, p, q, rt, c, v, n7, ar, pr, rs, g, rfl, S7, by omega, T7, raw7, R, rows7, cpq.1, cpq.2, hg7, A1, g0, fun G8 n8 go8 S8 hn8 T8 => ⟨true, rfl, ?_⟩⟩
    have ext8 : ∀ b u, b ≠ p → b ≠ q → (∀ ps, u ≠ .tbl ps) → G7 b = some u → G8 b = some u := fun b u h1 h2 hu hb => go8 b u (by rintro (z | z); exact h1 z; exact h2 z) hu hb
    have rows8 : ∃ xs, G8 c = some (.lst xs) ∧ OVs G8 xs (rs.map axO) := by
      obtain ⟨xs, h1, h2⟩ := rows7
      refine ⟨xs, ext8 _ _ cpq.1 cpq.2 lst_tbl h1, ?_⟩
      exact (OVs.tx S7.txQ W.noL W.nod h2).ext (go8.ex.trans hx_ex)
    have raw8 : RwV G8 p q rt ar pr := by
      obtain ⟨a, b, ys, zs, y1, na1, na2, nb1, nb2, ha, hb, hx, hy⟩ := raw7.ex
      have eh : ∀ {us : List V} {os : List O}, O.hasLs os = false → O.nods os = true → OVs G7 us os → OVs G8 us os := fun h1 h2 h => (OVs.tx S7.txQ h1 h2 h).ext (go8.ex.trans hx_ex)
      exact ⟨a, b, ys, zs, hx_ex _ _ (go8.ex _ _ (S7.txQ _ _ y1)), na1, na2, nb1, nb2, ext8 _ _ na1 na2 lst_tbl ha, ext8 _ _ nb1 nb2 lst_tbl hb, eh (prs_noL _) (prs_nod _) hx, eh (prs_noL _) (prs_nod _) hy⟩
    have g8 : OV G8 v g := (OV.tx S7.txQ g0.dr.noL g0.dr.nod hg7).ext (go8.ex.trans hx_ex)
    refine ⟨_, rfl, _, rfl, _, rfl, _, rfl, p, q, rt, c, v, n8, ar, pr, rs, g, rfl, S8, by omega, T8, raw8, R, rows8, cpq.1, cpq.2, g8, A1, g0, fun G9 n9 go9 S9 hn9 T9 => ⟨true, rfl, ?_⟩⟩
    refine ⟨⟨_, _, _, _, rfl⟩, T9, n9, S9, ?_⟩
    have : ((i + 1 : Nat) : Int) = (i : Int) + 1 := by omega
    rw [this]
    omega
  · rintro σ' G ⟨⟨c2, c3, c4, c5, rfl⟩, hTG, n, S, hn⟩
    refine q_asgR ⟨_, rfl, p, q, n, 2, 2, 3, rfl, S, by omega, by decide, by decide, by decide, fun rt ar pr n1 G1 hraw R S1 hn1 B1 => ?_⟩
    have T1 := tabs_but hTG B1 S
    refine q_asgR ⟨_, rfl, _, rfl, by show 0 ≤ sizeLine; omega, fun ls nls => ?_⟩
    have xs := Ex.new (o := .lst []) nls
    have ns' := S1.nep nls
    refine ⟨p, q, rt, ls, n1, ar, pr, [], 1, rfl, S1.ext xs, ?_, hraw.ext xs, R, upd_same, ns'.1, ns'.2, ScV.nil, by decide, fun v o n2 G2 hv ho S2 hn2 B2 => ?_⟩
    · have : (K02.dS (mu [] 1) : Nat) = 299 := rfl
      rw [this]
      omega
    have h299 : (K02.dS (mu [] 1) : Nat) = 299 := rfl
    rw [h299] at hn2
    have B12 : But p q G1 G2 := (But.of xs).trans B2
    have T2 := tabs_but T1 B12 S1
    have raw2 := hraw.but S1 B12
    refine q_forR (n := 55) (ev_is ev_c rfl) (by decide) (fun i σ' G => (∃ (c7 : Option V) (v6 : V) (o6 : O), σ' = [some (.ref a), some (.ref p), c2, some (.ref rt), c4, c5, some v6, c7] ∧ SnP ar pr [] (5 + i) (68 + 3 * i) o6 ∧ OV G v6 o6) ∧ Tabs (tabT K) G ∧ RwV G p q rt ar pr ∧ ∃ n', Spr G p q n' ∧ n' ≤ n2 + (i : Int)) (fun H1 e1 => ⟨⟨none, v, o, rfl, hv, ho.ext e1⟩, T2.ext e1, raw2.ext e1, n2, S2.ext e1, by omega⟩) ?_ ?_
    · rintro i σ' G' hi ⟨⟨c7, v6, o6, rfl, hv6, ho6⟩, T', raw', n', S', hn'⟩
      refine s_asgR ⟨_, rfl, p, q, n', 2, rfl, S', by omega, by decide, by decide, fun r G3 r0 r1 S3 B3 => ⟨rfl, _, rfl, ?_⟩⟩
      have T3 := tabs_but T' B3 S'
      have raw3 := raw'.but S' B3
      have ho3 := OV.tx (S'.tx B3) hv6.dr.noL hv6.dr.nod ho6
      have hn3 : n' + 1 ≤ n2 + ((i + 1 : Nat) : Int) := by omega
      by_cases hr0 : V.int r = V.int 0
      · rw [decide_eq_true hr0]
        refine ⟨_, rfl, by show 2 ≤ sizeLine; decide, fun t nt => ?_⟩
        have xt := Ex.new (o := .tup [.str "not", v6]) nt
        exact ⟨⟨_, .ref t, _, rfl, (sn_not3 hv6).mono (by omega) (by omega), ⟨t, _, rfl, upd_same, .cons rfl (.cons (ho3.ext xt) .nil)⟩⟩, T3.ext xt, raw3.ext xt, n' + 1, S3.ext xt, hn3⟩
      · rw [decide_eq_false hr0]
        refine ⟨_, rfl, by show 3 ≤ sizeLine; decide, fun t nt => ?_⟩
        have xt := Ex.new (o := .tup [.str "all", .str "X", v6]) nt
        exact ⟨⟨_, .ref t, _, rfl, (sn_all hv6 (by omega)).mono (by omega) (by omega), ⟨t, _, rfl, upd_same, .cons rfl (.cons rfl (.cons (ho3.ext xt) .nil))⟩⟩, T3.ext xt, raw3.ext xt, n' + 1, S3.ext xt, hn3⟩
    · rintro σ' G' ⟨⟨c7, v6, o6, rfl, hv6, ho6⟩, T', raw', n', S', hn'⟩
      refine ⟨_, rfl, _, rfl, _, rfl, by show 2 ≤ sizeLine; decide, fun t nt => ⟨by show 1 ≤ sizeLine; decide, fun l nl => ⟨_, rfl, ?_⟩⟩⟩
      have xt := Ex.new (o := .tup [.str "a1", v6]) nt
      have xl := Ex.new (o := .lst [.ref t]) nl
      have x2 := xt.trans xl
      have nn := S'.nep (fresh_back xt nl)
      have h6 := ho6.ext x2
      have A0 : RwS ar pr [("a1", o6)] := (axr_one hv6).s (by decide) (by decide)
      refine ⟨p, q, rt, l, v6, n', ar, pr, [("a1", o6)], o6, rfl, S'.ext x2, by omega, T'.ext x2, raw'.ext x2, R, ⟨_, upd_same, .cons ⟨t, _, rfl, xl _ _ upd_same, .cons rfl (.cons h6 .nil)⟩ .nil⟩, nn.1, nn.2, h6, A0, hv6.g (by decide) (by decide), fun G8 n8 _ _ _ _ => kf G8⟩
end
end K02

set_option Elab.async false
set_option linter.all false
set_option maxRecDepth 100000
set_option maxHeartbeats 4000000
/-! The law's call from the head's heap, where no guard stands; facts of the error classes. -/
namespace K02
open PySem PySem.Spec PyProof.Rows L2 LamX
/-- what is tracked at first: the tables of T, the script at a -/
def H00 (K : PySem.W.Frag) (a : Addr) (T : List Addr) (u : HO) : Hp := fun b => if b ∈ T then some (.tbl #[]) else if b = a ∧ K.lookup a = none then some u else none
section
variable {K : PySem.W.Frag} {a : Addr} {T : List Addr} {u : HO}
theorem h00_tab {b : Addr} (h : b ∈ T) : H00 K a T u b = some (.tbl #[]) := if_pos h
theorem h00_a (n : a ∉ T) (k : K.lookup a = none) : H00 K a T u a = some u := (if_neg n).trans (if_pos ⟨rfl, k⟩)
theorem h00_some {b : Addr} {o : HO} (h : H00 K a T u b = some o) : (b ∈ T ∧ o = .tbl #[]) ∨ (b = a ∧ K.lookup a = none ∧ o = u) := by
  unfold H00 at h
  by_cases c : b ∈ T
  · rw [if_pos c] at h
    exact .inl ⟨c, (Option.some.inj h).symm⟩
  · rw [if_neg c] at h
    by_cases c2 : b = a ∧ K.lookup a = none
    · rw [if_pos c2] at h
      exact .inr ⟨c2.1, c2.2, (Option.some.inj h).symm⟩
    · rw [if_neg c2] at h
      cases h
theorem h00_none {b : Addr} (h1 : b ∉ T) (h2 : b = a → K.lookup a ≠ none) : H00 K a T u b = none := by
  unfold H00
  rw [if_neg h1]
  exact if_neg fun z => h2 z.1 z.2
end
abbrev tabObj : Obj := { cls := .none, data := .fields #[] }
theorem law_callG {P : Program} {w : World} {K : PySem.W.Frag} {mg mb : Str → Option Value} {k : Nat} {fa a : Addr} {cs : List (Addr × Addr)} {fd : FuncData} {x : Str} {sp : Sp} {s : Shared} {vs : List Value} {ns : List Int}
    (KX : K.In s.heap) (hns : s.heap.Ns mainGlobals mg) (hb : s.heap.Ns builtinsNs mb) (hbb : ∀ x : Str, x ≠ "__name__" → mb x = bootBuiltins x) (hlim : s.heap.NoLimit) (hg : s.gens = #[])
    (hT : ∀ p ∈ cs, s.heap.get? p.2 = some tabObj) (nT : ∀ p ∈ cs, K.lookup p.2 = none) (C : ∀ p ∈ cs, PySem.W.CodeHd s.heap p.1 p.2)
    (hbm : ∃ (bm : Addr) (ob : Obj), mg "__builtins__" = some (.ref bm) ∧ bm ≠ builtinsNs ∧ s.heap.get? bm = some ob ∧ ob.cls = .type "module" ∧ ob.dict = some builtinsNs ∧ ob.data = .plain)
    (ha : s.heap.get? a = some { cls := .type "list", data := .seq vs.toArray }) (hi : IntsAre vs ns) (hl : ns.length ≤ sizeLine) (hr : Room k callerA)
    (F : ∀ base : Heap, K.In base → base.Ns mainGlobals mg → (∀ p ∈ cs, TabB base mg p.1 p.2) → FnG P w K mg base k fa fd [x] sp) (hbind : ∀ (s : Shared) (u : Value), BindsTo s fd ⟨[u], []⟩ [(x, u)])
    (hsp : ∀ H : Hp, (∀ p ∈ cs, H p.2 = some (.tbl #[])) → SqL K H a (ns.map V.int) → sp [.ref a] H (fun v _ => v = .bl true) E0) :
    codeAny (model P w) callerA (.call (.ref fa) ⟨[.ref a], []⟩) (fun r s' => r = .ok (.ret (.bool true)) ∧ OldK s.heap s'.heap ∧ s'.os = s.os ∧ AllBare s'.gens) s := by
  have rv := vals_ints hi
  let T := cs.map (·.2)
  let u : HO := .frz { cls := .type "list", data := .seq vs.toArray } (.lst (ns.map V.int))
  let H := H00 K a T u
  have tabAt : ∀ b ∈ T, s.heap.get? b = some tabObj := fun b hb => by
    obtain ⟨p, hp, e⟩ := List.mem_map.mp hb
    rw [← e]
    exact hT p hp
  have aT : a ∉ T := fun z => by
    have q := (tabAt a z).symm.trans ha
    cases q
  -- what is neither a list nor a table is not tracked
  have free : ∀ {b : Addr} {o : Obj}, s.heap.get? b = some o → (∀ its n, o.data ≠ .seq its n) → o.data ≠ .fields #[] → H b = none := fun {b o} e n1 n2 => h00_none (fun z => by
    rw [tabAt b z] at e
    exact n2 (by rw [← Option.some.inj e])) fun z => by
    rw [z, ha] at e
    exact (n1 _ _ (by rw [← Option.some.inj e])).elim
  have hok : HOk P w H s.heap := fun b o e => by
    rcases h00_some e with ⟨z, rfl⟩ | ⟨rfl, _, rfl⟩
    · exact tabAt b z
    · exact ⟨ha, by rw [List.length_map]; exact hl, vs, _, rv, ha⟩
  have hS : SqL K H a (ns.map V.int) := by
    cases q : K.lookup a with
    | none => exact .inl (.inr ⟨_, h00_a aT q⟩)
    | some o =>
      have e := (KX a o q).symm.trans ha
      rw [Option.some.inj e] at q
      exact .inr ⟨_, vs.toArray, _, q, rfl, rfl, rfl, by rw [List.size_toArray, hi.length]; exact hl, by simpa using rv⟩
  have up : ∀ {b : Addr} {o : Obj}, s.heap.get? b = some o → H b = none → (hidT s.heap H).get? b = some o := fun e n => hidT_get e n
  have ups : ∀ {b : Addr} {m : Str → Option Value}, s.heap.Ns b m → (hidT s.heap H).Ns b m := fun {b m} ⟨o, es, ep, e, d, r⟩ =>
    ⟨o, es, ep, up e (free e (fun _ _ z => by rw [d] at z; cases z) fun z => by rw [d] at z; cases z), d, r⟩
  have kin : K.In (hidT s.heap H) := fun b o e => up (KX b o e) (h00_none (fun z => by
    obtain ⟨p, hp, ep⟩ := List.mem_map.mp z
    rw [← ep, nT p hp] at e
    cases e) fun z => by
    rw [← z, e]
    exact Option.some_ne_none _)
  have md : L2.Mod K mg (hidT s.heap H) := ⟨kin, ups hns, ⟨mb, ups hb, hbb⟩, let ⟨mc, h1, h2⟩ := hlim; ⟨mc, ups h1, h2⟩⟩
  have TB : ∀ p ∈ cs, TabB (hidT s.heap H) mg p.1 p.2 := fun p hp => by
    refine ⟨?_, ?_, fun z => ?_⟩
    · obtain ⟨o, us, file, tf, flags, tg, inF, text, tt, e1, r1, r2, r3, r⟩ := C p hp
      refine ⟨o, us, file, tf, flags, tg, inF, text, tt, up e1 (free e1 (fun _ _ z => by rw [r2] at z; cases z) fun z => ?_), r1, r2, r3, r⟩
      rw [r2] at z
      cases z
      cases r3
    · obtain ⟨bm, ob, b1, b2, b3, b4, b5, b6⟩ := hbm
      refine ⟨bm, ob, b1, b2, fun q => ?_, fun q => ?_, up b3 (free b3 (fun _ _ z => by rw [b6] at z; cases z) fun z => by rw [b6] at z; cases z), b4, b5, b6⟩
      · obtain ⟨o, es, ep, e, d, _⟩ := hns
        rw [q, e] at b3
        cases b3
        rw [d] at b6
        cases b6
      · rw [q, hT p hp] at b3
        cases b3
        cases b6
    · obtain ⟨o, es, ep, e, d, _⟩ := hns
      rw [z, hT p hp] at e
      cases e
      cases d
  have e0 : Env0 P w K mg (hidT s.heap H) callerA [] s H := ⟨rfl, md, fun b o e => of_hidT e, Nat.le_of_eq (hidT_size _ _), trivial, (fun b hb => nomatch (show b ∈ ([] : List Addr) from hb)), hok, .of_eq hg⟩
  refine codeAny_mono ((F _ kin (ups hns) TB).run callerA [] s H ⟨[.ref a], []⟩ [.ref a] [.ref a] _ rfl hr e0 (hbind s (.ref a)) (.cons rfl .nil) (hsp H (fun p hp => h00_tab (List.mem_map.mpr ⟨p, hp, rfl⟩)) hS)) fun r s' h => ?_
  match r, h with
  | .error _, h => exact (show False from h).elim
  | .ok (.ret v), ⟨x, H', os, bare, un, hok', rx, q⟩ =>
    obtain rfl : x = .bl true := q
    obtain rfl : v = Value.bool true := rx
    have more : ∀ p ∈ cs, ∃ m : Array Value, s'.heap.get? p.2 = some { cls := .none, data := .fields m } := fun p hp => by
      obtain ⟨m, z⟩ := un.tbls p.2 #[] (h00_tab (List.mem_map.mpr ⟨p, hp, rfl⟩))
      exact ⟨_, hok' p.2 _ z⟩
    have stay : ∀ b o, b ∉ T → s.heap.get? b = some o → s'.heap.get? b = some o := fun b o nb e => by
      cases q : H b with
      | none => exact un.keep b o e q (fun z => nomatch (show b ∈ ([] : List Addr) from z)) (by simp)
      | some y =>
        rcases h00_some q with ⟨z, _⟩ | ⟨z, _, z2⟩
        · exact (nb z).elim
        · rw [z2] at q
          obtain ⟨f1, _⟩ := hok b _ q
          obtain ⟨f2, _⟩ := hok' b _ (un.frzs b _ _ q)
          rw [← Option.some.inj (f1.symm.trans e)]
          exact f2
    refine ⟨rfl, ⟨fun b o e => ?_, fun b o e => ?_⟩, os, bare⟩
    · by_cases hb : b ∈ T
      · obtain ⟨p, hp, rfl⟩ := List.mem_map.mp hb
        obtain ⟨m, hm⟩ := more p hp
        obtain rfl := Option.some.inj ((hT p hp).symm.trans e)
        exact .inr (.inl ⟨((C p hp).tab (hT p hp)).isCodeTable, rfl, #[], m, rfl, by rw [Array.empty_append]; exact hm⟩)
      · exact .inl (stay b o hb e)
    · by_cases hb : b ∈ T
      · obtain ⟨p, hp, rfl⟩ := List.mem_map.mp hb
        obtain ⟨m, hm⟩ := more p hp
        exact ⟨_, hm⟩
      · exact ⟨o, stay b o hb e⟩
structure ClF (K : PySem.W.Frag) (bm : List Value) (C : Addr) (fs : List Str) : Prop where
  cls : ∃ nm qn N bs sn sub ab col dd k0 k1 k2 k3 k5, K.lookup C = some (excClassObj nm qn C N bs bm true sn sub ab col dd k0 k1 k2 k3 k5 "ValueError.__new__")
  sa : PySem.W.findIn K (.ref C) "__setattr__" = some (some (.builtin "object.__setattr__"))
  ga : PySem.W.findIn K (.ref C) "__getattribute__" = some (some (.builtin "BaseException.__getattribute__"))
  gg : PySem.W.findIn K (.ref C) "__getattr__" = some none
  gc : PySem.W.findIn K (.ref C) "__class__" = some (some (.builtin "object.__class__"))
  kp : PySem.W.keepIn K (.ref C) = true
  no : ∀ f ∈ fs, PySem.W.findIn K (.ref C) f = some none
theorem cl_ok {K : PySem.W.Frag} {bm : List Value} {C : Addr} {fs : List Str} (h : clB K bm C fs = true) : ClF K bm C fs := by
  unfold clB at h
  obtain ⟨h1, h⟩ := Bool.and_eq_true_iff.mp h
  obtain ⟨h2, h⟩ := Bool.and_eq_true_iff.mp h
  obtain ⟨h3, h⟩ := Bool.and_eq_true_iff.mp h
  obtain ⟨h4, h⟩ := Bool.and_eq_true_iff.mp h
  obtain ⟨h5, h⟩ := Bool.and_eq_true_iff.mp h
  obtain ⟨h6, h7⟩ := Bool.and_eq_true_iff.mp h
  exact ⟨shape_ok h1, He.eqO_ok h2, He.eqO_ok h3, He.eqO_ok h4, He.eqO_ok h5, h6, fun f hf => He.eqO_ok (List.all_eq_true.mp h7 f hf)⟩
section
variable {K : PySem.W.Frag} {bm : List Value} {C : Addr} {fs : List Str}
theorem ClF.clsIn (T : ClF K bm C fs) : ∃ cd, PySem.W.clsIn K C = some cd ∧ cd.mro = .ref C :: bm ∧ cd.hasDict = true := by
  obtain ⟨nm, qn, N, bs, sn, sub, ab, col, dd, k0, k1, k2, k3, k5, hC⟩ := T.cls
  exact ⟨{ name := nm, bases := bs, mro := .ref C :: bm, ns := N, qualname := qn, hasDict := true, slotNames := sn, subclasses := sub, abstract := ab, collection := col, hasDel := false }, by unfold PySem.W.clsIn; rw [hC], rfl, rfl⟩
theorem ClF.mro (T : ClF K bm C fs) (b : Value) : PySem.W.mroIn K C b = some ((Value.ref C :: bm).contains b) := by
  obtain ⟨cd, h1, h2, h3⟩ := T.clsIn
  unfold PySem.W.mroIn
  rw [h1, Option.bind_some, h2]
  rfl
theorem ClF.ty (T : ClF K bm C fs) : PySem.W.typeIn K (.ref C) = some (.type "type") := by
  obtain ⟨nm, qn, N, bs, sn, sub, ab, col, dd, k0, k1, k2, k3, k5, hC⟩ := T.cls
  show (K.lookup C).map (·.cls) = some (.type "type")
  rw [hC]
  rfl
theorem ClF.dict (T : ClF K bm C fs) : PySem.W.hasDictIn K C = true := by
  obtain ⟨cd, h1, h2, h3⟩ := T.clsIn
  unfold PySem.W.hasDictIn
  rw [h1]
  exact h3
theorem ClF.sub (T : ClF K bm C fs) (b : Value) : PySem.W.subIn K (.ref C) b = some ((Value.ref C :: bm).contains b) := T.mro b
theorem ClF.oex (T : ClF K bm C fs) (hbm : PySem.HandSPX.refsVE bm = true) : OexC K C := by
  obtain ⟨nm, qn, N, bs, sn, sub, ab, col, dd, k0, k1, k2, k3, k5, hC⟩ := T.cls
  refine ⟨⟨nm, qn, N, bs, bm, sn, sub, ab, col, dd, k0, k1, k2, k3, k5, hC, hbm⟩, T.sa, ?_, T.ty, T.kp⟩
  rw [T.sub, List.contains_cons, PySem.HandSPX.refsVE_contains _ _ hbm]
  rfl
theorem get_cls : PySem.W.specialIn K (.builtin "object.__class__") "__get__" = some (some (.builtin "getset_descriptor.__get__")) := by
  kernel_rfl
theorem takes_cls : PySem.W.takesIn K (.builtin "object.__class__") = some true := by
  kernel_rfl
theorem ClF.xf (T : ClF K bm C fs) (hbm : PySem.HandSPX.refsVE bm = true) : XfC K C := by
  refine ⟨T.ga, T.gg, ?_, T.dict⟩
  rw [T.sub, List.contains_cons, PySem.HandSPX.refsVE_contains _ _ hbm]
  rfl
end
end K02

set_option Elab.async false
set_option linter.all false
set_option maxRecDepth 100000
set_option maxHeartbeats 4000000
/-! The head's facts; the end. -/
namespace K02
open PySem PySem.Spec PyProof.Rows L2 LamX
section
variable {P : Program} {w : World} {K : PySem.W.Frag} {h h0 base : Heap} {mg : Str → Option Value}
theorem fa_glo {x : Str} (hx : x ∈ dnms) : He.Fa.glo x ∈ fa := List.mem_append.mpr (.inl (List.mem_map.mpr ⟨x, hx, rfl⟩))
theorem fa_cls {x : Str} (hx : x ∈ cnms) : He.Fa.glo x ∈ fa := List.mem_append.mpr (.inr (List.mem_append.mpr (.inl (List.mem_map.mpr ⟨x, hx, rfl⟩))))
theorem fa_free {x : Str} (hx : x ∈ fBl) : He.Fa.free x ∈ fa := List.mem_append.mpr (.inr (List.mem_append.mpr (.inr (List.mem_append.mpr (.inl (List.mem_map.mpr ⟨x, hx, rfl⟩))))))
theorem fa_o {f : He.Fa} (i : Nat) (hf : faO[i]? = some f := by rfl) : f ∈ fa := List.mem_append.mpr (.inr (List.mem_append.mpr (.inr (List.mem_append.mpr (.inr (List.mem_of_getElem? hf))))))
theorem fn_at {i : Nat} {d : He.DefD} (hi : fnA[i]? = some d) : fn[i]? = some d := by
  unfold fn
  rw [List.getElem?_append_left (List.getElem?_eq_some_iff.mp hi).1]
  exact hi
theorem exA_ok (e : exA K = true) : (∀ p ∈ xnm, exC K p.1 p.2 = true) ∧ exO K = true ∧ (∀ p ∈ xnm, ∀ y ∈ cnms, PySem.W.exmOne K (.ref (He.ga K p.1)) (.ref (He.ga K y)) = some (decide (p.1 = y))) ∧ (∀ x ∈ hds, PySem.W.nsIn K (He.ga K "KEPT") x = some none) ∧ (∀ x ∈ kws, ∃ v, PySem.W.nsIn K (He.ga K "KEPT") x = some (some v)) ∧ exT K = true ∧ exU K = true := by
  unfold exA at e
  obtain ⟨e1, e⟩ := Bool.and_eq_true_iff.mp e
  obtain ⟨e2, e⟩ := Bool.and_eq_true_iff.mp e
  obtain ⟨eT, e⟩ := Bool.and_eq_true_iff.mp e
  obtain ⟨e3, e⟩ := Bool.and_eq_true_iff.mp e
  obtain ⟨e4, eU⟩ := Bool.and_eq_true_iff.mp e
  unfold exN at e4
  obtain ⟨e4, e5⟩ := Bool.and_eq_true_iff.mp e4
  refine ⟨fun p hp => List.all_eq_true.mp e1 p hp, e2, fun p hp y hy => of_decide_eq_true (List.all_eq_true.mp (List.all_eq_true.mp e3 p hp) y hy), fun x hx => He.eqO_ok (List.all_eq_true.mp e4 x hx), fun x hx => ?_, eT, eU⟩
  have := List.all_eq_true.mp e5 x hx
  unfold isIn at this
  split at this
  · rename_i v hv
    exact ⟨v, hv⟩
  · cases this
/-- what is known of an own class -/
structure OwC (K : PySem.W.Frag) (x : Str) : Prop where
  ha : PySem.W.findIn K (.ref (He.ga K x)) "__class__" = some (some (.builtin "object.__class__"))
  hm : PySem.W.mroIn K (He.ga K x) (.type "object") = some true
  ty : PySem.W.typeIn K (.ref (He.ga K x)) = some (.type "type")
  ne : PySem.W.findIn K (.ref (He.ga K x)) "__ne__" = some (some (.builtin "object.__ne__"))
  ob : PySem.W.subIn K (.ref (He.ga K x)) (.type "object") = some true
  bt : ∀ t ∈ (["int", "str", "list", "tuple", "dict"] : List String), PySem.W.subIn K (.ref (He.ga K x)) (.type t) = some false
  ot : ∀ y ∈ onms, x ≠ y → PySem.W.subIn K (.ref (He.ga K x)) (.ref (He.ga K y)) = some false
theorem exO_ok (e : exO K = true) : ∀ x ∈ onms, OwC K x := fun x hx => by
  have e := List.all_eq_true.mp e x hx
  unfold exO1 at e
  obtain ⟨e1, e⟩ := Bool.and_eq_true_iff.mp e
  obtain ⟨e2, e⟩ := Bool.and_eq_true_iff.mp e
  obtain ⟨e3, e⟩ := Bool.and_eq_true_iff.mp e
  obtain ⟨e4, e⟩ := Bool.and_eq_true_iff.mp e
  obtain ⟨e5, e⟩ := Bool.and_eq_true_iff.mp e
  obtain ⟨e6, e7⟩ := Bool.and_eq_true_iff.mp e
  refine ⟨He.eqO_ok e1, of_decide_eq_true e2, of_decide_eq_true e3, He.eqO_ok e4, of_decide_eq_true e5, fun t ht => of_decide_eq_true (List.all_eq_true.mp e6 t ht), fun y hy ne => ?_⟩
  have := List.all_eq_true.mp e7 y hy
  rw [Bool.or_eq_true] at this
  rcases this with h | h
  · exact absurd (of_decide_eq_true h) ne
  · exact of_decide_eq_true h
theorem OwC.cls {x : Str} (o : OwC K x) : (PySem.W.clsIn K (He.ga K x)).isSome = true := by
  have h := o.hm
  unfold PySem.W.mroIn at h
  cases hc : PySem.W.clsIn K (He.ga K x) with
  | none => rw [hc] at h; cases h
  | some cd => rfl
theorem kit_ref {t : Value} {x : Str} {b : Bool} (o : OwC K x) (ne : (t == Value.ref (He.ga K x)) = false) (h : PySem.W.subIn K t (.ref (He.ga K x)) = some b) : PySem.W.kitOne K t (.ref (He.ga K x)) = some b := by
  unfold PySem.W.kitOne
  rw [if_neg (by rw [ne]; decide)]
  unfold PySem.W.kitCls
  dsimp only
  rw [o.cls, o.ty]
  rw [if_pos (by decide)]
  exact h
theorem kit_bt {x : Str} (o : OwC K x) : ∀ t ∈ (["int", "str", "list", "tuple", "dict"] : List String), PySem.W.kitOne K (.ref (He.ga K x)) (.type t) = some false := fun t ht => by
  have hm : PySem.W.kitMeta t = true := by
    have : ∀ t ∈ (["int", "str", "list", "tuple", "dict"] : List String), PySem.W.kitMeta t = true := by decide +kernel
    exact this t ht
  have hs := o.bt t ht
  unfold PySem.W.kitOne
  rw [if_neg (by intro z; cases z)]
  unfold PySem.W.kitCls
  dsimp only
  rw [hm, if_pos rfl]
  exact hs
theorem txt_vals : ∀ {xs : List Str} {us : List Value}, us.map txtO = xs.map some → Vals (sVs xs) us
  | [], [], _ => .nil
  | x :: xs, u :: us, h => by
    have h := List.cons.inj (show txtO u :: us.map txtO = some x :: xs.map some from h)
    refine .cons ?_ (txt_vals h.2)
    cases u with
    | str y t =>
      obtain rfl : y = x := Option.some.inj h.1
      exact ⟨t, rfl⟩
    | _ => cases h.1
  | [], _ :: _, h => nomatch h
  | _ :: _, [], h => nomatch h
theorem tupB_ok {a : Addr} {xs : List Str} (e : tupB K a xs = true) (hl : xs.length ≤ 100) : ∀ H : Hp, SqT K H a (sVs xs) := fun H => by
  unfold tupB at e
  split at e
  · rename_i c d its n sl hk
    obtain ⟨e1, e⟩ := Bool.and_eq_true_iff.mp e
    obtain ⟨e2, e3⟩ := Bool.and_eq_true_iff.mp e
    have e1 := of_decide_eq_true e1
    have e2 := of_decide_eq_true e2
    have e3 := of_decide_eq_true e3
    subst e1
    exact .inr ⟨_, its, n, hk, rfl, rfl, Evl.sz_of (by omega), txt_vals e3⟩
  · cases e
theorem errC_of (X : K.In base) (G : base.Ns mainGlobals mg) (c : SaysA w h0 K) {x z : Str} {i : Nat} (hx : x ∈ cnms) (e : exC K x z = true) {p1 p2 p3 p4 : Pos} {params : Arguments} {scope : Scope} {qual : Str}
    (hd : fn[i]? = some ⟨(x, some "__init__"), "__init__", qual, params, [.Assign [.Attribute (.Name "self" p1) z p2] (.Name z p3) p4], scope, [], []⟩) (hs : FnScope ["self", z] ["self", z] scope)
    (hb : ∀ (kV doc pm : Value) (an : Option Addr) (cdv ct : Value) (us : List Value), us.length = 2 → bindArgs (PySem.W.fnOf "__init__" qual params [.Assign [.Attribute (.Name "self" p1) z p2] (.Name z p3) p4] scope .none kV doc pm an cdv ct) ⟨us, []⟩ = pure ((["self", z] : List Str).zip us))
    (z1 : (z == ("__debug__" : Str)) = false) (z2 : (z == ("__classdict__" : Str)) = false) : ErrC P w K mg base x z := by
  unfold exC at e
  obtain ⟨e1, e2⟩ := Bool.and_eq_true_iff.mp e
  obtain ⟨e3, e4⟩ := Bool.and_eq_true_iff.mp e2
  obtain ⟨e5, e6⟩ := Bool.and_eq_true_iff.mp e4
  obtain ⟨e7, e8⟩ := Bool.and_eq_true_iff.mp e6
  have T := cl_ok e1
  obtain ⟨fd, F⟩ := c.t.d.def_ i hd
  exact ⟨T.oex (bm_ve _), T.xf (bm_ve _), T.no _ (by simp), He.glo_ok X G (c.t.d.facts (fa_cls hx)), of_decide_eq_true e7, z1, z2, _, fd, p1, p2, p3, p4, params, scope, qual, He.eqO_ok e3, of_decide_eq_true e5, F, hs, F.bindsN hb⟩
theorem t02_of (X : K.In base) (G : base.Ns mainGlobals mg) (c : SaysA w h0 K) : T02 P w K mg base := by
  obtain ⟨x1, x2, x3, x4, x5, x6, x7⟩ := exA_ok c.ex
  have er : ∀ p ∈ xnm, ErrC P w K mg base p.1 p.2 := fun p hp => by
    have e := x1 p hp
    simp only [xnm, List.mem_cons, List.not_mem_nil, or_false] at hp
    rcases hp with rfl | rfl | rfl | rfl | rfl | rfl
    · exact errC_of (i := 38) X G c (by decide) e (p1 := _) (p2 := _) (p3 := _) (p4 := _) (params := _) (scope := _) (qual := _) rfl ⟨rfl, rfl, rfl, by decide +kernel, rfl, by decide +kernel, by decide +kernel⟩ (fun kV doc pm an cdv ct us hl => match us, hl with | [_, _], _ => rfl) rfl rfl
    · exact errC_of (i := 39) X G c (by decide) e (p1 := _) (p2 := _) (p3 := _) (p4 := _) (params := _) (scope := _) (qual := _) rfl ⟨rfl, rfl, rfl, by decide +kernel, rfl, by decide +kernel, by decide +kernel⟩ (fun kV doc pm an cdv ct us hl => match us, hl with | [_, _], _ => rfl) rfl rfl
    · exact errC_of (i := 40) X G c (by decide) e (p1 := _) (p2 := _) (p3 := _) (p4 := _) (params := _) (scope := _) (qual := _) rfl ⟨rfl, rfl, rfl, by decide +kernel, rfl, by decide +kernel, by decide +kernel⟩ (fun kV doc pm an cdv ct us hl => match us, hl with | [_, _], _ => rfl) rfl rfl
    · exact errC_of (i := 41) X G c (by decide) e (p1 := _) (p2 := _) (p3 := _) (p4 := _) (params := _) (scope := _) (qual := _) rfl ⟨rfl, rfl, rfl, by decide +kernel, rfl, by decide +kernel, by decide +kernel⟩ (fun kV doc pm an cdv ct us hl => match us, hl with | [_, _], _ => rfl) rfl rfl
    · exact errC_of (i := 42) X G c (by decide) e (p1 := _) (p2 := _) (p3 := _) (p4 := _) (params := _) (scope := _) (qual := _) rfl ⟨rfl, rfl, rfl, by decide +kernel, rfl, by decide +kernel, by decide +kernel⟩ (fun kV doc pm an cdv ct us hl => match us, hl with | [_, _], _ => rfl) rfl rfl
    · exact errC_of (i := 43) X G c (by decide) e (p1 := _) (p2 := _) (p3 := _) (p4 := _) (params := _) (scope := _) (qual := _) rfl ⟨rfl, rfl, rfl, by decide +kernel, rfl, by decide +kernel, by decide +kernel⟩ (fun kV doc pm an cdv ct us hl => match us, hl with | [_, _], _ => rfl) rfl rfl
  exact {
    fr := fun x hx => He.free_ok X G (c.t.d.facts (fa_free hx))
    df := fun i x st hi => by
      obtain ⟨fd, F⟩ := c.t.d.def_ i (fn_at hi)
      have hm : (dN x st).name ∈ dnms := List.mem_map.mpr ⟨_, List.mem_of_getElem? hi, rfl⟩
      exact ⟨⟨fd, F⟩, He.glo_ok X G (c.t.d.facts (fa_glo hm))⟩
    kd := c.t.tab 0 rfl
    kn := x4
    kw := x5
    kept := He.glo_ok X G (c.t.d.facts (fa_o 0))
    letters := He.str_ok X G (c.t.d.facts (fa_o 1))
    capitals := He.str_ok X G (c.t.d.facts (fa_o 2))
    longest := He.int_ok X G (c.t.d.facts (fa_o 3))
    most := He.int_ok X G (c.t.d.facts (fa_o 4))
    er := er
    xp := x3
    cl := fun x hx => He.glo_ok X G (c.t.d.facts (fa_cls hx)) }
theorem fun_qual {x q1 q2 : Str} {p1 p2 : Arguments} {b1 b2 : List Stmt} {s1 s2 : Scope} {f : Addr} {fd1 fd2 : FuncData} (F1 : FunD K x q1 p1 b1 s1 [] [] f fd1) (F2 : FunD K x q2 p2 b2 s2 [] [] f fd2) : q1 = q2 := by
  obtain ⟨oc, od, dV, kV, doc, pm, an, cdv, ct, osl, e1, l1, _⟩ := F1.ex
  obtain ⟨oc', od', dV', kV', doc', pm', an', cdv', ct', osl', e2, l2, _⟩ := F2.ex
  rw [l1] at l2
  have e := Option.some.inj l2
  have e3 : fd1 = fd2 := by
    have := congrArg Obj.data e
    exact Data.func.inj this
  rw [e1, e2] at e3
  exact congrArg FuncData.qualname e3
theorem tn_of (X : K.In base) (G : base.Ns mainGlobals mg) (c : SaysA w h0 K) : TN P w K mg base := by
  obtain ⟨x1, x2, x3, x4, x5, x6, x7⟩ := exA_ok c.ex
  have O := exO_ok x2
  obtain ⟨b1, b2⟩ := Bool.and_eq_true_iff.mp x6
  have hC : ∀ x ∈ onms, Cls K (He.ga K x) := fun x hx => by
    simp only [onms, List.mem_cons, List.not_mem_nil, or_false] at hx
    rcases hx with rfl | rfl | rfl
    · exact He.cls_ok (c.t.d.facts (fa_o 8))
    · exact He.cls_ok (c.t.d.facts (fa_o 16))
    · exact He.cls_ok (c.t.d.facts (fa_o 24))
  have hG : ∀ x ∈ onms, mg x = some (.ref (He.ga K x)) := fun x hx => by
    simp only [onms, List.mem_cons, List.not_mem_nil, or_false] at hx
    rcases hx with rfl | rfl | rfl
    · exact He.glo_ok X G (c.t.d.facts (fa_o 7))
    · exact He.glo_ok X G (c.t.d.facts (fa_o 15))
    · exact He.glo_ok X G (c.t.d.facts (fa_o 23))
  obtain ⟨n1, N1⟩ := c.t.d.def_ 44 (d := dM "Names" "__init__" s_Names_init) rfl
  obtain ⟨n2, N2⟩ := c.t.d.def_ 48 (d := dM "Theory" "__init__" s_Theory_init) rfl
  obtain ⟨n3, N3⟩ := c.t.d.def_ 52 (d := dM "Problem" "__init__" s_Problem_init) rfl
  have ne12 : He.ga K "Names" ≠ He.ga K "Theory" := fun z => by
    have h : He.ma K (He.ga K "Names") "__init__" = He.ma K (He.ga K "Theory") "__init__" := by rw [z]
    have M1 : FunD K "__init__" "Names.__init__" (defArgs s_Names_init) (defBody s_Names_init) (defScope s_Names_init) [] [] (He.ma K (He.ga K "Names") "__init__") n1 := N1
    have M2 : FunD K "__init__" "Theory.__init__" (defArgs s_Theory_init) (defBody s_Theory_init) (defScope s_Theory_init) [] [] (He.ma K (He.ga K "Theory") "__init__") _ := N2
    rw [h] at M1
    exact absurd (fun_qual M1 M2) (by decide +kernel)
  have ne13 : He.ga K "Names" ≠ He.ga K "Problem" := fun z => by
    have h : He.ma K (He.ga K "Names") "__init__" = He.ma K (He.ga K "Problem") "__init__" := by rw [z]
    have M1 : FunD K "__init__" "Names.__init__" (defArgs s_Names_init) (defBody s_Names_init) (defScope s_Names_init) [] [] (He.ma K (He.ga K "Names") "__init__") n1 := N1
    have M2 : FunD K "__init__" "Problem.__init__" (defArgs s_Problem_init) (defBody s_Problem_init) (defScope s_Problem_init) [] [] (He.ma K (He.ga K "Problem") "__init__") _ := N3
    rw [h] at M1
    exact absurd (fun_qual M1 M2) (by decide +kernel)
  have ne23 : He.ga K "Theory" ≠ He.ga K "Problem" := fun z => by
    have h : He.ma K (He.ga K "Theory") "__init__" = He.ma K (He.ga K "Problem") "__init__" := by rw [z]
    have M1 : FunD K "__init__" "Theory.__init__" (defArgs s_Theory_init) (defBody s_Theory_init) (defScope s_Theory_init) [] [] (He.ma K (He.ga K "Theory") "__init__") n2 := N2
    have M2 : FunD K "__init__" "Problem.__init__" (defArgs s_Problem_init) (defBody s_Problem_init) (defScope s_Problem_init) [] [] (He.ma K (He.ga K "Problem") "__init__") _ := N3
    rw [h] at M1
    exact absurd (fun_qual M1 M2) (by decide +kernel)
  have neq : ∀ x ∈ onms, ∀ y ∈ onms, x ≠ y → He.ga K x ≠ He.ga K y := fun x hx y hy => by
    simp only [onms, List.mem_cons, List.not_mem_nil, or_false] at hx hy
    rcases hx with rfl | rfl | rfl <;> rcases hy with rfl | rfl | rfl
    · exact fun h => absurd rfl h
    · exact fun _ => ne12
    · exact fun _ => ne13
    · exact fun _ => ne12.symm
    · exact fun h => absurd rfl h
    · exact fun _ => ne23
    · exact fun _ => ne13.symm
    · exact fun _ => ne23.symm
    · exact fun h => absurd rfl h
  exact {
    toT02 := t02_of X G c
    bnd := tupB_ok b1 (by decide)
    jn := tupB_ok b2 (by decide)
    mgB := He.glo_ok X G (c.t.d.facts (fa_o 5))
    mgJ := He.glo_ok X G (c.t.d.facts (fa_o 6))
    iO := fun x hx => ⟨hC x hx, (O x hx).ha, get_cls, takes_cls, (O x hx).hm, (O x hx).ty, kit_bt (O x hx)⟩
    gO := hG
    nF := He.noat_ok (c.t.d.facts (fa_o 9))
    nP := He.noat_ok (c.t.d.facts (fa_o 10))
    nNm := He.noat_ok (c.t.d.facts (fa_o 17))
    nAx := He.noat_ok (c.t.d.facts (fa_o 18))
    nTh := He.noat_ok (c.t.d.facts (fa_o 25))
    nGo := He.noat_ok (c.t.d.facts (fa_o 26))
    mkN := by
      obtain ⟨fd, F⟩ := c.t.d.def_ 44 (d := dM "Names" "__init__" s_Names_init) rfl
      exact ⟨_, fd, He.mkr_ok (c.t.d.facts (fa_o 11)), F⟩
    mkT := by
      obtain ⟨fd, F⟩ := c.t.d.def_ 48 (d := dM "Theory" "__init__" s_Theory_init) rfl
      exact ⟨_, fd, He.mkr_ok (c.t.d.facts (fa_o 19)), F⟩
    mkP := by
      obtain ⟨fd, F⟩ := c.t.d.def_ 52 (d := dM "Problem" "__init__" s_Problem_init) rfl
      exact ⟨_, fd, He.mkr_ok (c.t.d.facts (fa_o 27)), F⟩
    mFu := by
      obtain ⟨fd, F⟩ := c.t.d.def_ 45 (d := dM "Names" "functions" s_Names_functions) rfl
      exact ⟨_, fd, He.meth_ok (c.t.d.facts (fa_o 12)), F⟩
    mPr := by
      obtain ⟨fd, F⟩ := c.t.d.def_ 46 (d := dM "Names" "predicates" s_Names_predicates) rfl
      exact ⟨_, fd, He.meth_ok (c.t.d.facts (fa_o 13)), F⟩
    mNe := by
      obtain ⟨fd, F⟩ := c.t.d.def_ 47 (d := dM "Names" "__eq__" s_Names_eq) rfl
      exact ⟨_, fd, He.meth_ok (c.t.d.facts (fa_o 14)), F⟩
    mNm := by
      obtain ⟨fd, F⟩ := c.t.d.def_ 49 (d := dM "Theory" "names" s_Theory_names) rfl
      exact ⟨_, fd, He.meth_ok (c.t.d.facts (fa_o 20)), F⟩
    mAx := by
      obtain ⟨fd, F⟩ := c.t.d.def_ 50 (d := dM "Theory" "axioms" s_Theory_axioms) rfl
      exact ⟨_, fd, He.meth_ok (c.t.d.facts (fa_o 21)), F⟩
    mTe := by
      obtain ⟨fd, F⟩ := c.t.d.def_ 51 (d := dM "Theory" "__eq__" s_Theory_eq) rfl
      exact ⟨_, fd, He.meth_ok (c.t.d.facts (fa_o 22)), F⟩
    mTh := by
      obtain ⟨fd, F⟩ := c.t.d.def_ 53 (d := dM "Problem" "theory" s_Problem_theory) rfl
      exact ⟨_, fd, He.meth_ok (c.t.d.facts (fa_o 28)), F⟩
    mGo := by
      obtain ⟨fd, F⟩ := c.t.d.def_ 54 (d := dM "Problem" "goal" s_Problem_goal) rfl
      exact ⟨_, fd, He.meth_ok (c.t.d.facts (fa_o 29)), F⟩
    mPe := by
      obtain ⟨fd, F⟩ := c.t.d.def_ 55 (d := dM "Problem" "__eq__" s_Problem_eq) rfl
      exact ⟨_, fd, He.meth_ok (c.t.d.facts (fa_o 30)), F⟩
    ot := fun x hx y hy n => kit_ref (O y hy) (by
      have := neq x hx y hy n
      cases h : (Value.ref (He.ga K x) == Value.ref (He.ga K y)) with
      | false => rfl
      | true => exact absurd (Value.ref.inj (eq_of_beq h)) this) ((O x hx).ot y hy n)
    ne := fun x hx => (O x hx).ne
    sub := fun x hx => (O x hx).ob }
end
theorem tri_nil : TriplesOk (#[] : Array Value).toList := by trivial
abbrev lw : PySem.W.OpenLaw := PySem.Challenge.rw_eithershown_k02_whole_theories
abbrev dK := HandSHeadRun.topDef R.prog 61
theorem walkK : PySem.W.WalkO (PySem.W.view R.prog [61]) loose (PySem.W.XL (PySem.W.view R.prog [61]) []) hookA.says lw.row.toRowW dK [] (fun f vs => PySem.call f vs) := by
  refine Att.attach_callB (n := 63) rfl rfl fun w s₀ s₁ mg mb fa o pm cd doc a vs ns G Y ho hd hcd hmg hobj hints hlen hbits hg => ?_
  obtain ⟨K, KX, c⟩ := Y
  obtain ⟨fd, F⟩ := c.t.d.def_ 37 (d := dN "law" s_law) rfl
  have e : fa = He.ga K "law" := by
    have q := (He.glo_ok KX G.T.g (c.t.d.facts (fa_glo (x := "law") (List.mem_map.mpr ⟨dN "law" s_law, List.mem_of_getElem? (i := 37) rfl, rfl⟩)))).symm.trans hmg
    exact (Value.ref.inj (Option.some.inj q)).symm
  subst e
  have tl : ∀ p ∈ tf.map (He.cT K), ∃ q ∈ tf, He.cT K q = p := fun p hp => List.mem_map.mp hp
  refine law_callG (cs := tf.map (He.cT K)) (k := 92) (x := "_law_script") (sp := spLaw K) (fd := fd) KX G.T.g G.T.b G.T.builtins G.T.nolimit hg (fun p hp => ?_) (fun p hp => ?_) (fun p hp => ?_) G.T.bmain hobj hints (Nat.le_trans hlen (by rw [sizeLine_eq]; decide)) ?_
    (fun base KB GB TB => ok_law (tn_of KB GB c) ⟨fun p hp => TB _ (List.mem_map.mpr ⟨p, hp, rfl⟩), of_decide_eq_true (exA_ok c.ex).2.2.2.2.2.2⟩ F) (fun s u => F.bindsA (ps := ["_law_script"]) (fun kV doc pm an cdv ct us hl => match us, hl with | [_], _ => rfl) s [u] rfl) (fun H hT hS => ⟨a, ns, rfl, hS, ?_, fun _ => rfl⟩)
  · obtain ⟨q, hq, rfl⟩ := tl p hp
    exact c.empty q hq
  · obtain ⟨q, hq, rfl⟩ := tl p hp
    exact c.out q hq
  · obtain ⟨q, hq, rfl⟩ := tl p hp
    exact PySem.W.codeHd_of_K KX (c.hd q hq)
  · exact ⟨rfl, by decide +kernel, by decide +kernel⟩
  · intro z hz
    obtain ⟨q, hq, rfl⟩ := List.mem_map.mp hz
    exact ⟨#[], hT _ (List.mem_map.mpr ⟨q, hq, rfl⟩), tri_nil, fun pos cv e => nomatch e⟩
end K02
open PySem PySem.W PySem.Calls PyProof.Rows
theorem PySem.Challenge.cw_eithershown_k02_whole_theories_holds : PySem.Challenge.rw_eithershown_k02_whole_theories.Holds := by
  w_on; o_law
  refine HandSHeadRun.head_any (r := OpenLaw.row PySem.Challenge.rw_eithershown_k02_whole_theories) (q := PySem.W.view K02.R.prog [61]) (H := K02.hookA) (ob := fun s => K02.obA (K02.gT s)) (M := 9000) (loose := K02.loose) (d := K02.dK) (kwd := []) (fun s => K02.obA_eq (HandSHeadRun.getT_eq s)) (by kernel_rfl) (fun s => by kernel_rfl) K02.run (by rfl) (by rfl) (by rfl) (by rfl) (by first | assumption | decide +kernel) (by decide +kernel) ⟨rfl, rfl, rfl, rfl, rfl, by decide +kernel⟩ ?hw K02.walkK
  case hw => w_witness2

