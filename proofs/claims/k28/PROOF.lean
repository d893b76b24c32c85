import PyProof.Rows.All
import Wide.All
import OpenK.AllK
import Wide.FinOn
import KE.KStateDown
import Lean
import HandS.ForMost
import HandS.ForExc
import HandS.Words
import HandS.WordsExc
import HandS.Defaults
import HandS.ExcInit
import HandS.ExcIs
import HandS.ExcField
import HandS.Lambda
import HandS.Head0
import HandS.Head1
import HandS.Head2
import HandS.HeadEnd
import HandS.HeadHook1
import HandS.HeadHook2
import HandS.HeadHook3
import HandS.HeadHook4
import HandS.EndTab
import PySem.Challenge.RW_eithershown_k28_whole_orders
import HandS.Evl
import HandS.IsInst
import HandS.More
import HandS.StrMore
import PyProof.AutoSeq1
import HandS.CallLocal
import HandS.Walk
import HandS.DictComp
import HandS.Zip
import KE.GoesMore
import HandS.ExcOwn
import HandS.Wide
import HandS.TryMany
import HandS.ListItems
import HandS.Iter
import HandS.TryOnly
import HandS.Deep
import HandS.SetFor
import HandS.OwnEq
import HandS.Style
import HandS.HeadWalk
set_option Elab.async false
set_option linter.all false
set_option maxRecDepth 100000
set_option maxHeartbeats 0
/-! The text by places, the head's looks. -/
namespace K28
open PySem PySem.Spec PyProof.Rows L2
def top (i : Nat) : Stmt := PySem.Challenge.pw_eithershown_k28_whole_orders.main.body.getD i (.Pass ⟨0, 0, 0, 0⟩)
abbrev FnP (K : PySem.W.Frag) (x : Str) (st : Stmt) (f : Addr) (fd : FuncData) : Prop := FunD K x x (defArgs st) (defBody st) (defScope st) [] [] f fd
abbrev s_is_integer : Stmt := top 22
abbrev s_is_number : Stmt := top 23
abbrev s_is_list : Stmt := top 24
abbrev s_is_pair : Stmt := top 25
abbrev s_is_spelled : Stmt := top 26
abbrev s_is_name : Stmt := top 27
abbrev s_is_variable : Stmt := top 28
abbrev s_bad_pair : Stmt := top 29
abbrev s_has_lists : Stmt := top 30
abbrev s_frozen : Stmt := top 31
abbrev s_exchanged : Stmt := top 33
abbrev s_frozen_substitution : Stmt := top 34
abbrev s_part_at : Stmt := top 35
abbrev s_with_part : Stmt := top 36
abbrev s_has_places : Stmt := top 38
abbrev s_words_fit : Stmt := top 39
abbrev s_word_fits : Stmt := top 40
abbrev s_is_equality : Stmt := top 41
abbrev s_atom_fits : Stmt := top 42
abbrev s_is_any_word : Stmt := top 43
abbrev s_is_any_atom : Stmt := top 44
abbrev s_is_any_substitution : Stmt := top 45
abbrev s_checked_word : Stmt := top 47
abbrev s_check_place : Stmt := top 48
abbrev s_word_put : Stmt := top 49
abbrev s_is_weight : Stmt := top 51
abbrev s_check_order : Stmt := top 53
abbrev s_first_unordered : Stmt := top 54
abbrev s_checked_ordered : Stmt := top 55
abbrev s_weigh : Stmt := top 56
abbrev s_is_above : Stmt := top 57
abbrev s_compare : Stmt := top 58
abbrev s_checked_substitution : Stmt := top 60
abbrev s_put : Stmt := top 61
abbrev s__law_d_word : Stmt := top 63
abbrev s__law_d_atom : Stmt := top 64
abbrev s__law_d_parts : Stmt := top 65
abbrev s__law_d_odd_words : Stmt := top 66
abbrev s__law_d_loose : Stmt := top 67
abbrev s__law_d_met : Stmt := top 68
abbrev s__law_d_weight : Stmt := top 69
abbrev s__law_d_above : Stmt := top 70
abbrev s__law_d_rows : Stmt := top 71
abbrev s__law_start : Stmt := top 72
abbrev s__law_draw : Stmt := top 73
abbrev s__law_pick : Stmt := top 74
abbrev s__law_mixed : Stmt := top 75
abbrev s__law_same : Stmt := top 76
abbrev s__law_each_once : Stmt := top 77
abbrev s__law_loose : Stmt := top 78
abbrev s__law_due : Stmt := top 79
abbrev s__law_two : Stmt := top 80
abbrev s__law_order_right : Stmt := top 81
abbrev s__law_handed_on : Stmt := top 82
abbrev s__law_refused_right : Stmt := top 83
abbrev s_law : Stmt := top 84
def dN (x : Str) (st : Stmt) : He.DefD := ⟨(x, none), x, x, defArgs st, defBody st, defScope st, [], []⟩
def fnA0 : List (He.DefD) := [dN "is_integer" s_is_integer, dN "is_number" s_is_number, dN "is_list" s_is_list, dN "is_pair" s_is_pair, dN "is_spelled" s_is_spelled, dN "is_name" s_is_name, dN "is_variable" s_is_variable, dN "bad_pair" s_bad_pair, dN "has_lists" s_has_lists, dN "frozen" s_frozen, dN "exchanged" s_exchanged, dN "frozen_substitution" s_frozen_substitution, dN "part_at" s_part_at, dN "with_part" s_with_part, dN "has_places" s_has_places, dN "words_fit" s_words_fit, dN "word_fits" s_word_fits, dN "is_equality" s_is_equality, dN "atom_fits" s_atom_fits, dN "is_any_word" s_is_any_word]
def fnA1 : List (He.DefD) := [dN "is_any_atom" s_is_any_atom, dN "is_any_substitution" s_is_any_substitution, dN "checked_word" s_checked_word, dN "check_place" s_check_place, dN "word_put" s_word_put, dN "is_weight" s_is_weight, dN "check_order" s_check_order, dN "first_unordered" s_first_unordered, dN "checked_ordered" s_checked_ordered, dN "weigh" s_weigh, dN "is_above" s_is_above, dN "compare" s_compare, dN "checked_substitution" s_checked_substitution, dN "put" s_put, dN "_law_d_word" s__law_d_word, dN "_law_d_atom" s__law_d_atom, dN "_law_d_parts" s__law_d_parts, dN "_law_d_odd_words" s__law_d_odd_words, dN "_law_d_loose" s__law_d_loose, dN "_law_d_met" s__law_d_met]
def fnA2 : List (He.DefD) := [dN "_law_d_weight" s__law_d_weight, dN "_law_d_above" s__law_d_above, dN "_law_d_rows" s__law_d_rows, dN "_law_start" s__law_start, dN "_law_draw" s__law_draw, dN "_law_pick" s__law_pick, dN "_law_mixed" s__law_mixed, dN "_law_same" s__law_same, dN "_law_each_once" s__law_each_once, dN "_law_loose" s__law_loose, dN "_law_due" s__law_due, dN "_law_two" s__law_two, dN "_law_order_right" s__law_order_right, dN "_law_handed_on" s__law_handed_on, dN "_law_refused_right" s__law_refused_right, dN "law" s_law]
def fnA : List (He.DefD) := fnA0 ++ fnA1 ++ fnA2
def loose0 : List (Str) := ["__name__", "ShowError", "BadArities", "BadClause", "BadClauses", "BadNumber", "BadOrder", "BadPairs", "BadPlace", "BadRows", "BadSubstitution", "BadTaken", "BadTruth", "BadWord", "NotGround", "NotOrdered", "LETTERS", "CAPITALS", "LONGEST", "MOST_PLACES", "KEPT", "is_integer", "is_number", "is_list", "is_pair", "is_spelled", "is_name", "is_variable", "bad_pair", "has_lists"]
def loose1 : List (Str) := ["frozen", "exchanged", "frozen_substitution", "part_at", "with_part", "has_places", "words_fit", "word_fits", "is_equality", "atom_fits", "is_any_word", "is_any_atom", "is_any_substitution", "checked_word", "check_place", "word_put", "is_weight", "Order", "check_order", "first_unordered", "checked_ordered", "weigh", "is_above", "compare", "checked_substitution", "put", "_law_d_word", "_law_d_atom", "_law_d_parts", "_law_d_odd_words"]
def loose2 : List (Str) := ["_law_d_loose", "_law_d_met", "_law_d_weight", "_law_d_above", "_law_d_rows", "_law_start", "_law_draw", "_law_pick", "_law_mixed", "_law_same", "_law_each_once", "_law_loose", "_law_due", "_law_two", "_law_order_right", "_law_handed_on", "_law_refused_right"]
def loose : List (Str) := loose0 ++ loose1 ++ loose2
/-- walking names to what they stand for -/
def nv (g : Addr → Option Obj) (x : Str) : Addr := He.ga (He.frG g [mainGlobals]) x
def codeOf (g : Addr → Option Obj) (f : Addr) : List Addr := match g f with
  | some ⟨_, _, .func fd, _⟩ => He.refV fd.code
  | _ => []
def objsM (g : Addr → Option Obj) (ms : List Str) (x : Str) : List Addr := match g (nv g x) with
  | some ⟨_, _, .cls cd, _⟩ => nv g x :: cd.ns :: ms.flatMap fun m => (match PySem.W.nsIn (He.frG g [cd.ns]) cd.ns m with
    | some (some (.ref f)) => f :: codeOf g f
    | _ => [])
  | _ => []
def objsC (g : Addr → Option Obj) (x : Str) : List Addr := objsM g ["__init__"] x
def objsF (g : Addr → Option Obj) (x : Str) : List Addr := nv g x :: codeOf g (nv g x)
def dnms : List Str := fnA.map (·.name)
abbrev sI (i : Nat) : Stmt := inClass (top i) 0
def dI (x : Str) (i : Nat) : He.DefD := ⟨(x, some "__init__"), "__init__", x ++ ".__init__", defArgs (sI i), defBody (sI i), defScope (sI i), [], []⟩
abbrev s_init : Stmt := inClass (top 52) 0
abbrev s_rows : Stmt := inClass (top 52) 1
abbrev s_eq : Stmt := inClass (top 52) 2
def dM (x m : Str) (st : Stmt) : He.DefD := ⟨(x, some m), m, x ++ ("." : Str) ++ m, defArgs st, defBody st, defScope st, [], []⟩
def fnI : List He.DefD := [dI "BadWord" 13, dI "BadPlace" 8, dI "BadSubstitution" 10, dI "BadRows" 9, dI "BadOrder" 6, dI "NotOrdered" 15, dM "Order" "__init__" s_init, dM "Order" "rows" s_rows, dM "Order" "__eq__" s_eq]
def fn : List He.DefD := fnA ++ fnI
def cnms : List Str := ["BadArities", "BadClause", "BadClauses", "BadNumber", "BadOrder", "BadPairs", "BadPlace", "BadRows", "BadSubstitution", "BadTaken", "BadTruth", "BadWord", "NotGround", "NotOrdered"]
def asK (g : Addr → Option Obj) : List Addr := mainGlobals :: sysModules :: nv g "KEPT" :: (objsC g "ShowError" ++ cnms.flatMap (objsC g) ++ objsM g ["__init__", "rows", "__eq__"] "Order") ++ dnms.flatMap (objsF g)
def fK (g : Addr → Option Obj) : PySem.W.Frag := He.frT g (asK g)
def fBl : List Str := ["all", "any", "bool", "dict", "enumerate", "int", "isinstance", "len", "list", "min", "range", "sorted", "str", "sum", "tuple", "zip"]
def faG : List He.Fa := dnms.map He.Fa.glo
def faC : List He.Fa := cnms.map He.Fa.glo
def faF : List He.Fa := fBl.map He.Fa.free
def faO : List He.Fa := [.glo "KEPT", .str "LETTERS" "abcdefghijklmnopqrstuvwxyz", .str "CAPITALS" "ABCDEFGHIJKLMNOPQRSTUVWXYZ", .int "LONGEST" 8, .int "MOST_PLACES" 6, .glo "Order", .cls "Order", .noat "Order" "_rows", .noat "Order" "weights", .noat "Order" "ranks", .mkr "Order", .meth "Order" "rows", .meth "Order" "__eq__"]
def fa : List He.Fa := faG ++ (faC ++ (faF ++ faO))
def kept0 : List Str := ["all", "some", "not", "and", "or", "then", "iff", "false", "axiom", "goal", "function", "predicate", "things", "is", "by", "on", "of", "put", "for", "in", "at"]
def kept1 : List Str := ["into", "given", "instance", "resolve", "replace", "same", "alike", "either", "turned", "chained", "parts", "holds", "class", "fact", "cell", "clash", "size", "follows", "fails", "open", "watch", "hold"]
def kept : List Str := kept0 ++ kept1
def ts : List He.Tab := [(fun K => He.ga K "KEPT", kept)]
/-- the defs that make lambdas -/
def tf : List He.Defn := [("_law_refused_right", none)]
abbrev R : PySem.W.OpenRow := PySem.W.OpenLaw.row PySem.Challenge.rw_eithershown_k28_whole_orders
/-- names that are heads of words -/
def hds : List Str := ["a", "b", "c", "f", "g", "h", "p", "q", "r", "s", "u", "v", "w", "x", "late"]
def bmS (S : Addr) : List Value := .ref S :: PySem.HandSPX.veTail
def shapeB (K : PySem.W.Frag) (C : Addr) (bm : List Value) : Bool := match K.lookup C with
  | some ⟨.type "type", _, .cls cd, sl⟩ => (match sl.toList with
    | [_, _, _, _, some (.builtin n), _] => n == "ValueError.__new__" && (!cd.hasDel && (cd.hasDict && cd.mro == .ref C :: bm))
    | _ => false)
  | _ => false
/-- what is asked of each such class: C, its mro, the names that it must not have -/
def clB (K : PySem.W.Frag) (bm : List Value) (C : Addr) (fs : List Str) : Bool :=
  shapeB K C bm && (He.eqO (PySem.W.findIn K (.ref C) "__setattr__") (some (some (.builtin "object.__setattr__"))) &&
  (He.eqO (PySem.W.findIn K (.ref C) "__getattribute__") (some (some (.builtin "BaseException.__getattribute__"))) &&
  (He.eqO (PySem.W.findIn K (.ref C) "__getattr__") (some none) &&
  (He.eqO (PySem.W.findIn K (.ref C) "__class__") (some (some (.builtin "object.__class__"))) &&
  (PySem.W.keepIn K (.ref C) && fs.all fun f => He.eqO (PySem.W.findIn K (.ref C) f) (some none))))))
def exC (K : PySem.W.Frag) (x z : Str) : Bool := clB K (bmS (He.ga K "ShowError")) (He.ga K x) [z] && (He.eqO (PySem.W.findIn K (.ref (He.ga K x)) "__init__") (some (some (.ref (He.ma K (He.ga K x) "__init__")))) &&
  (decide (PySem.W.typeIn K (.ref (He.ma K (He.ga K x) "__init__")) = some (.type "function")) && (decide (PySem.W.exmOne K (.ref (He.ga K x)) (.ref (He.ga K x)) = some true) &&
  decide (PySem.W.subIn K (.ref (He.ga K x)) (.type "BaseException") = some true))))
/-- the errors that are raised, with the name of what they keep -/
def xnm : List (Str × Str) := [("BadWord", "thing"), ("BadPlace", "thing"), ("BadSubstitution", "thing"), ("BadRows", "index"), ("BadOrder", "thing"), ("NotOrdered", "name")]
def exO (K : PySem.W.Frag) : Bool := He.eqO (PySem.W.findIn K (.ref (He.ga K "Order")) "__class__") (some (some (.builtin "object.__class__"))) && (decide (PySem.W.mroIn K (He.ga K "Order") (.type "object") = some true) && decide (PySem.W.typeIn K (.ref (He.ga K "Order")) = some (.type "type")))
def exP (K : PySem.W.Frag) : Bool := xnm.all fun p => cnms.all fun y => decide (PySem.W.exmOne K (.ref (He.ga K p.1)) (.ref (He.ga K y)) = some (decide (p.1 = y)))
def exN (K : PySem.W.Frag) : Bool := (hds.all fun x => He.eqO (PySem.W.nsIn K (He.ga K "KEPT") x) (some none)) && (match PySem.W.nsIn K (He.ga K "KEPT") "not" with
  | some (some _) => true
  | _ => false)
def exA (K : PySem.W.Frag) : Bool := (xnm.all fun p => exC K p.1 p.2) && (exO K && (exP K && exN K))
def obA (g : Addr → Option Obj) : He.AlT × Bool := (He.obsT fa fn ts (fK g), exA (fK g) && He.tabsB g tf (fK g))
def valA (w : World) : He.AlT × Bool := (He.valT fn ts w, true)
noncomputable abbrev gT (s : PySem.W.SharedT) : Addr → Option Obj := HandSHeadRun.getT s
structure SaysA (w : World) (h : Heap) (K : PySem.W.Frag) : Prop where
  t : He.SaysT fa fn ts w K
  ex : exA K = true
  hd : ∀ p ∈ tf, PySem.W.codeHdIn K (He.cT K p).1 (He.cT K p).2 = true
  out : ∀ p ∈ tf, K.lookup (He.cT K p).2 = none
  empty : ∀ p ∈ tf, h.get? (He.cT K p).2 = some { cls := .none, data := .fields #[] }
theorem says_of {w : World} {h : Heap} (e : obA h.get? = valA w) : SaysA w h (fK h.get?) := by
  have e2 := congrArg (fun z : He.AlT × Bool => z.2) e
  obtain ⟨h1, h2⟩ := Bool.and_eq_true_iff.mp e2
  have key : ∀ p ∈ tf, PySem.W.codeHdIn (fK h.get?) (He.cT (fK h.get?) p).1 (He.cT (fK h.get?) p).2 = true ∧ ∃ o, h.get? (He.cT (fK h.get?) p).2 = some o ∧ He.emptyTab o = true := fun p hp => by
    obtain ⟨a1, a2⟩ := Bool.and_eq_true_iff.mp (List.all_eq_true.mp h2 p hp)
    refine ⟨a1, ?_⟩
    cases q : h.get? (He.cT (fK h.get?) p).2 with
    | none =>
      rw [q] at a2
      cases a2
    | some o =>
      rw [q] at a2
      exact ⟨o, rfl, a2⟩
  exact ⟨congrArg (fun z : He.AlT × Bool => z.1) e, h1, fun p hp => (key p hp).1, fun p hp => by
    obtain ⟨_, o, q, z⟩ := key p hp
    exact He.frT_none q z, fun p hp => by
    obtain ⟨_, o, q, z⟩ := key p hp
    rw [q, He.emptyTab_eq z]⟩
def hookA : PySem.W.Hook where
  α := He.AlT × Bool
  obs := fun s => obA s.heap.get?
  val := fun w => valA w
  says := fun w h => ∃ K : PySem.W.Frag, K.In h ∧ SaysA w h K
  of := fun _ _ e => ⟨_, He.frT_in, says_of e⟩
  keeps := fun _ _ _ ⟨K, hK, c⟩ k => ⟨K, PySem.W.Frag.In.keeps hK k, ⟨c.t, c.ex, c.hd, c.out, fun p hp => k _ _ (c.empty p hp)⟩⟩
theorem obA_eq {g : Addr → Option Obj} {s : Shared} (h : ∀ a, g a = s.heap.get? a) : obA g = hookA.obs s := by
  have e : g = s.heap.get? := funext h
  rw [e] <;> rfl
end K28

set_option Elab.async false
set_option linter.all false
set_option maxRecDepth 100000
set_option maxHeartbeats 0
namespace K28
open PySem PySem.Spec PyProof.Rows L2
theorem run_f (w : World) : HandSHeadRun.RunEq R (PySem.W.view R.prog [84]) hookA (fun s => obA (gT s)) 9000 loose (w.withFollow "special-get-raises" false) := by
  intro os
  kernel_rfl
theorem run_t (w : World) : HandSHeadRun.RunEq R (PySem.W.view R.prog [84]) hookA (fun s => obA (gT s)) 9000 loose (w.withFollow "special-get-raises" true) := by
  intro os
  kernel_rfl
theorem run (w : World) : HandSHeadRun.RunEq R (PySem.W.view R.prog [84]) hookA (fun s => obA (gT s)) 9000 loose w :=
  PySem.W.byRow2 "special-get-raises" (P := fun w => HandSHeadRun.RunEq R (PySem.W.view R.prog [84]) hookA (fun s => obA (gT s)) 9000 loose w) run_f run_t w
end K28

set_option Elab.async false
set_option linter.all false
set_option maxRecDepth 100000
set_option maxHeartbeats 4000000
/-! What serves any def: isinstance, lists, walks. -/
namespace K28
open PySem PySem.Spec PyProof.Rows L2 Evl
section
variable {H G : Hp}
/-- all tuples stay -/
def Tx (H G : Hp) : Prop := ∀ a xs, H a = some (.tup xs) → G a = some (.tup xs)
theorem Tx.of (e : Ex H G) : Tx H G := fun a xs h => e a _ h
theorem Tx.refl (H : Hp) : Tx H H := fun _ _ h => h
theorem Tx.trans {J : Hp} (a : Tx H G) (b : Tx G J) : Tx H J := fun c xs h => b c xs (a c xs h)
theorem Tx.lst {p : Addr} {xs : List V} {o : HO} (h : H p = some (.lst xs)) : Tx H (upd H p o) := fun a ys e => by
  rw [upd_ne (ne_of e h (by intro z; cases z))]
  exact e
theorem Tx.dct {p : Addr} {xs : List (Key × V)} {o : HO} (h : H p = some (.dK xs)) : Tx H (upd H p o) := fun a ys e => by
  rw [upd_ne (ne_of e h (by intro z; cases z))]
  exact e
end
/-! ### isinstance(e, C), C a built-in; (list, tuple) -/
abbrev tIsi (K : PySem.W.Frag) (t : String) (te : TE) : TE := tCB (rIsi K) (tCons te (tCons (tC (.ty t)) tNil))
abbrev tIsi2 (K : PySem.W.Frag) (te : TE) : TE := tCB (rIsiT K) (tCons te (tCons (tTup (tCons (tC (.ty "list")) (tCons (tC (.ty "tuple")) tNil))) tNil))
section
variable {X : Cx} {e : Expr} {te : TE} {p q r q1 q2 pos : Pos}
theorem pe_isiB {n : Str} {t : String} (m1 : X.mg "isinstance" = none) (m2 : X.mg n = none) (hv : bootBuiltins n = some (.type t)) (he : PE X e te) (g1 : Gl X "isinstance" := by rfl) (g2 : Gl X n := by rfl) (hn : n ≠ "__name__" := by decide) (hd : (n == ("__debug__" : Str)) = false := by decide)
    (hs : starEach [e, .Name n q] X.env = (false, eval e X.env) :: starEach [.Name n q] X.env := by rfl) (hs2 : starEach [.Name n q] X.env = (false, eval (.Name n q) X.env) :: starEach [] X.env := by rfl) (hpl : (backTo pos (starEach [.Name n q] X.env)).any (·.1) = false := by rfl) :
    PE X (.Call (.Name "isinstance" p) [e, .Name n q] [] pos) (tIsi X.K t te) :=
  pe_callB call_isi g1 m1 PyProof.Rows.boot_isinstance (pa_cons he (pa_cons (pe_bltn (v := .ty t) g2 m2 hv rfl hn hd) pa_nil hs2) hs) (by decide) (by decide) hs hpl
theorem pe_isiLT (m1 : X.mg "isinstance" = none) (m2 : X.mg "list" = none) (m3 : X.mg "tuple" = none) (he : PE X e te) (g1 : Gl X "isinstance" := by rfl) (g2 : Gl X "list" := by rfl) (g3 : Gl X "tuple" := by rfl)
    (hs : starEach [e, .Tuple [.Name "list" q1, .Name "tuple" q2] x1 r] X.env = (false, eval e X.env) :: starEach [.Tuple [.Name "list" q1, .Name "tuple" q2] x1 r] X.env := by rfl)
    (hs2 : starEach [.Tuple [.Name "list" q1, .Name "tuple" q2] x1 r] X.env = (false, eval (.Tuple [.Name "list" q1, .Name "tuple" q2] x1 r) X.env) :: starEach [] X.env := by rfl)
    (hs3 : starEach [.Name "list" q1, .Name "tuple" q2] X.env = (false, eval (.Name "list" q1) X.env) :: starEach [.Name "tuple" q2] X.env := by rfl) (hs4 : starEach [.Name "tuple" q2] X.env = (false, eval (.Name "tuple" q2) X.env) :: starEach [] X.env := by rfl)
    (hpl : (backTo pos (starEach [.Tuple [.Name "list" q1, .Name "tuple" q2] x1 r] X.env)).any (·.1) = false := by rfl) :
    PE X (.Call (.Name "isinstance" p) [e, .Tuple [.Name "list" q1, .Name "tuple" q2] x1 r] [] pos) (tIsi2 X.K te) :=
  pe_callB call_isiT g1 m1 PyProof.Rows.boot_isinstance (pa_cons he (pa_cons (pe_tup (pa_cons (pe_bltn (v := .ty "list") g2 m2 PyProof.Rows.boot_list rfl (by decide) (by decide)) (pa_cons (pe_bltn (v := .ty "tuple") g3 m3 PyProof.Rows.boot_tuple rfl (by decide) (by decide)) pa_nil hs4) hs3)) pa_nil hs2) hs) (by decide) (by decide) hs hpl
end
theorem tyx_ext {K : PySem.W.Frag} {H G : Hp} {v : V} {t : Value} (e : Ex H G) (h : TyX K H v t) : TyX K G v t := by
  cases h with
  | base h =>
    refine .base ?_
    cases h with
    | non => exact .non
    | bl x => exact .bl x
    | int i => exact .int i
    | str x => exact .str x
    | flt x => exact .flt x
    | lst h => exact .lst (e _ _ h)
    | frz h => exact .frz (e _ _ h)
    | tup h => exact .tup (e _ _ h)
    | dK h => exact .dK (e _ _ h)
    | dT h => exact .dT (e _ _ h)
    | ins h a b c d f => exact .ins (e _ _ h) a b c d f
  | byt b => exact .byt b
  | set h => exact .set (e _ _ h)
  | kList a b => exact .kList a b
  | kTuple a b => exact .kTuple a b
  | kDict a b => exact .kDict a b
  | fTuple h => exact .fTuple (e _ _ h)
  | fDict h => exact .fDict (e _ _ h)
section
variable {K : PySem.W.Frag} {σ : L2.St} {H : Hp} {te : TE} {v : V}
theorem ev_isi {m n : String} {b : Bool} (h : Ev te σ H v) (ty : TyX K H v (.type m)) (e : kitB m n = some b) : Ev (tIsi K n te) σ H (.bl b) :=
  ev_cb (ea_cons h (ea_cons ev_c ea_nil)) fun H1 x Q q => ⟨v, .ty n, _, _, b, rfl, .ty n, tyx_ext x ty, kit_ty e, q H1 (Ex.refl H1)⟩
/-- is it a list or a tuple -/
def isLT (m : String) : Bool := m == "list" || m == "tuple"
theorem ev_isi2 {m : String} {b1 b2 : Bool} (h : Ev te σ H v) (ty : TyX K H v (.type m)) (e1 : kitB m "list" = some b1) (e2 : kitB m "tuple" = some b2) : Ev (tIsi2 K te) σ H (.bl (b1 || b2)) := fun H1 x Q q =>
  h H1 x _ fun H2 x2 => ⟨by show 2 ≤ sizeLine; decide, fun p hp => by
    have x3 : Ex H2 (upd H2 p (.tup [.ty "list", .ty "tuple"])) := Ex.new hp
    show rIsiT K [v, .ref p] _ Q
    refine ⟨v, p, [.ty "list", .ty "tuple"], _, [.type "list", .type "tuple"], b1 || b2, rfl, upd_same, .cons (.ty _) (.cons (.ty _) .nil), tyx_ext ((x.trans x2).trans x3) ty, ?_, q _ (x2.trans x3)⟩
    cases b1 with
    | true => exact kitAny_cons (kit_ty e1) (fun z => nomatch z) fun _ => rfl
    | false => exact kitAny_cons (kit_ty e1) (fun _ => by
        cases b2 with
        | true => exact kitAny_cons (kit_ty e2) (fun z => nomatch z) fun _ => rfl
        | false => exact kitAny_cons (kit_ty e2) (fun _ => kitAny_nil) fun z => nomatch z) fun z => nomatch z⟩
end
theorem extend_tup (l : Addr) (items : Array Value) (n : Nat) (b : Addr) (dd : Option Addr) (sl : Array (Option Value)) (items2 : Array Value) (n2 : Nat) (hs0 : ¬(!items.isEmpty && Builtin.List.listTooLong (items.size + items2.size)) = true) (hs1 : items.size ≤ sizeLine) (hs2 : items.size + items2.size ≤ sizeLine + 1) :
    Meets (Builtin.«list.extend» ⟨[.ref l, .ref b], []⟩) (fun _ R s => s.heap.get? l = some { cls := .type "list", dict := none, data := .seq items n, slots := #[] } ∧ s.heap.get? b = some { cls := .type "tuple", dict := dd, data := .seq items2 n2, slots := sl } ∧ R (.ok (.ret Value.none)) { s with heap := s.heap.update l (Obj.mapSeq fun x => x ++ items2), toks := s.toks }) :=
  .of_wp fun prog w A R s h => by
    obtain ⟨hp, g, d, tk, os⟩ := s
    obtain ⟨hl, hb, h⟩ := h
    have f1 := PySem.AutoSeq1.idx_int
    have f2 := PySem.AutoSeq1.sub_tuple_tuple
    have f3 := PySem.AutoSeq1.sub_list_list
    have f4 := PySem.AutoSeq1.sub_tuple_list
    have f5 := PySem.AutoSeq1.sub_list_tuple
    have hz' : (items ++ items2).size ≤ sizeLine + 1 := by rw [Array.size_append]; exact hs2
    wp_walk using (wpAny_updateSeq hl rfl (hz := hs1) (_hz' := hz')), PySem.AutoSeq1.wpAny_loadPart' hl, PySem.AutoSeq1.wpAny_loadPart' hb
    exact ⟨_, rfl, h⟩
def rExtT (K : PySem.W.Frag) : V → List V → Hp → VK → Prop := fun x vs H Q => ∃ l b xs zs, x = .ref l ∧ vs = [.ref b] ∧ H l = some (.lst xs) ∧ SqT K H b zs ∧ xs.length + zs.length ≤ sizeLine ∧ Q .non (upd H l (.lst (xs ++ zs)))
theorem mt_extT {X : Cx} : MtM X "list.extend" (rExtT X.K) := by
  intro pins s σ H x vs v us Q I rx rv h
  obtain ⟨l, b, xs, zs, rfl, rfl, hH, hB, hz, q⟩ := h
  cases rx
  obtain ⟨u, rfl, ru⟩ := rv.one
  cases ru
  obtain ⟨z, its, n, r, hl, e⟩ := I.lstM hH
  obtain ⟨its2, r2, ⟨o, e2, oc, n2, od⟩, hl2⟩ := I.tuple hB
  obtain ⟨oc', dd, dt, sl⟩ := o
  dsimp only at oc od
  subst oc od
  have h1 := r2.length
  have hsz : its.toArray.size + its2.toArray.size ≤ sizeLine := by rw [List.size_toArray, List.size_toArray]; omega
  have hlong : ¬ (!its.toArray.isEmpty && Builtin.List.listTooLong (its.toArray.size + its2.toArray.size)) = true := by
    rw [notLongL hsz, Bool.and_false]
    exact Bool.false_ne_true
  refine call_meets F.slot_list_extend ⟨_, e, rfl⟩ F.entry_list_extend (F.args_list_extend_2 _ _)
    (extend_tup l its.toArray n b dd sl its2.toArray n2 hlong (by rw [List.size_toArray]; omega) (by omega)) ⟨e, e2, ?_⟩
  refine ⟨.non, _, I.lset (its' := its ++ its2) hH e (by simp) (r.append r2) ?_, rfl, q⟩
  rw [List.length_append]
  omega
section
variable {K : PySem.W.Frag} {σ : L2.St} {H G : Hp} {te ta tb : TE} {v : V}
theorem et_truL {p : Addr} {xs : List V} (h : Ev te σ H (.ref p)) (hs : SqL K H p xs) : EvT (fun σ H Q => te σ H fun x H' => ∃ k, TruV K x H' k ∧ Q k H') σ H (!xs.isEmpty) :=
  fun H1 e Q q => h H1 e _ fun H2 e2 => ⟨_, .inl ⟨xs, ex_l (e.trans e2) hs, rfl⟩, q H2 e2⟩
abbrev tLen (K : PySem.W.Frag) (te : TE) : TE := tCB (fun xs H Q => ∃ x n, xs = [x] ∧ LenV K x H n ∧ Q (.int n) H) (tCons te tNil)
theorem ev_lenG {n : Nat} (h : Ev te σ H v) (l : ∀ G, Ex H G → LenV K v G n) : Ev (tLen K te) σ H (.int n) := fun H1 e Q q => h H1 e _ fun H2 e2 => ⟨v, n, rfl, l H2 (e.trans e2), q H2 e2⟩
theorem ev_lenT {p : Addr} {xs : List V} (h : Ev te σ H (.ref p)) (hs : SqT K H p xs) : Ev (tLen K te) σ H (.int (xs.length : Nat)) := ev_lenG h fun G e => .inr ⟨xs, ex_t e hs, rfl⟩
theorem ev_lenL {p : Addr} {xs : List V} (h : Ev te σ H (.ref p)) (hs : SqL K H p xs) : Ev (tLen K te) σ H (.int (xs.length : Nat)) := ev_lenG h fun G e => .inl ⟨xs, ex_l e hs, rfl⟩
theorem ev_lenS {x : Str} (h : Ev te σ H (.str x)) (l : x.length ≤ 1000) : Ev (tLen K te) σ H (.int (x.length : Nat)) := ev_lenG h fun G e => ⟨Nat.le_trans l (by decide), rfl⟩
end
section
variable {K : PySem.W.Frag} {σ : L2.St} {H G : Hp} {te ta tb : TE} {v : V} {D : Ends} {tz : TS}
theorem last_at {xs : List V} {y : V} : (xs ++ [y])[(xs ++ [y]).length - 1]? = some y := by simp
/-- y = xs.pop() -/
theorem q_pop {l : Addr} {xs : List V} {y : V} {j : Nat} (hl : H l = some (.lst (xs ++ [y]))) (ha : Ev ta σ H (.ref l)) (k : ∀ H1, Ex H H1 → tz D (σ.set j (some y)) (upd H1 l (.lst xs))) : tSeq (tAsg (tBM0 K "list" rPop ta) (gName j)) tz D σ H :=
  ha H (Ex.refl H) _ fun H1 e1 => ⟨.inl ⟨rfl, _, sq_of (e1 l _ hl)⟩, l, _, y, rfl, rfl, e1 l _ hl, last_at, by
    rw [List.dropLast_concat]
    exact k H1 e1⟩
/-- xs.extend(t), t a tuple -/
theorem s_extT {l b : Addr} {xs zs : List V} (hl : H l = some (.lst xs)) (ha : Ev ta σ H (.ref l)) (hb : Ev te σ H (.ref b)) (hz : SqT K H b zs) (hs : xs.length + zs.length ≤ 100000) (k : ∀ H1, Ex H H1 → D.nx σ (upd H1 l (.lst (xs ++ zs)))) :
    tDrop (tBM K "list" (rExtT K) ta (tCons te tNil)) D σ H := ha H (Ex.refl H) _ fun H1 e1 => ⟨.inl ⟨rfl, _, sq_of (e1 l _ hl)⟩, hb H1 e1 _ fun H2 e2 =>
  ⟨l, b, xs, zs, rfl, rfl, e2 l _ (e1 l _ hl), ex_t (e1.trans e2) hz, sz_of hs, k H2 (e1.trans e2)⟩⟩
theorem q_extT {l b : Addr} {xs zs : List V} (hl : H l = some (.lst xs)) (ha : Ev ta σ H (.ref l)) (hb : Ev te σ H (.ref b)) (hz : SqT K H b zs) (hs : xs.length + zs.length ≤ 100000) (k : ∀ H1, Ex H H1 → tz D σ (upd H1 l (.lst (xs ++ zs)))) :
    tSeq (tDrop (tBM K "list" (rExtT K) ta (tCons te tNil))) tz D σ H := s_extT (D := { D with nx := tz D }) hl ha hb hz hs k
/-- xs.extend(t), t a new list -/
theorem s_extL {l : Addr} {xs zs : List V} (hl : H l = some (.lst xs)) (ha : Ev ta σ H (.ref l)) (hb : EvL te σ H zs) (hs : xs.length + zs.length ≤ 100000) (k : ∀ H1, Ex H H1 → D.nx σ (upd H1 l (.lst (xs ++ zs)))) :
    tDrop (tBM K "list" rExtend ta (tCons te tNil)) D σ H := ha H (Ex.refl H) _ fun H1 e1 => ⟨.inl ⟨rfl, _, sq_of (e1 l _ hl)⟩, hb H1 e1 _ fun p H2 _ e2 hp =>
  ⟨l, p, xs, zs, rfl, rfl, e2 l _ (e1 l _ hl), hp, sz_of hs, k H2 (e1.trans e2)⟩⟩
theorem q_extL {l : Addr} {xs zs : List V} (hl : H l = some (.lst xs)) (ha : Ev ta σ H (.ref l)) (hb : EvL te σ H zs) (hs : xs.length + zs.length ≤ 100000) (k : ∀ H1, Ex H H1 → tz D σ (upd H1 l (.lst (xs ++ zs)))) :
    tSeq (tDrop (tBM K "list" rExtend ta (tCons te tNil))) tz D σ H := s_extL (D := { D with nx := tz D }) hl ha hb hs k
end
section
variable {K : PySem.W.Frag} {σ : L2.St} {H G : Hp} {te ta tb : TE} {v : V}
theorem ev_m0 {g : Str → Bool} {x : Str} (h : Ev te σ H (.str x)) : Ev (tM0 (fun x xs H Q => ∃ a, x = V.str a ∧ xs = [] ∧ True ∧ Q (.bl (g a)) H) te) σ H (.bl (g x)) := fun H1 e Q q =>
  h H1 e _ fun H2 e2 => ⟨⟨x, rfl⟩, x, rfl, rfl, trivial, q H2 e2⟩
theorem rv_insign {c : Nat} {z : Str} : RV (fun x y H Q => ∃ (c : Nat) (z : Str), x = .str ⟨#[c]⟩ ∧ y = .str z ∧ Q (.bl (decide (c ∈ z.cps.toList))) H) (.str ⟨#[c]⟩) (.str z) H (.bl (decide (c ∈ z.cps.toList))) := fun H1 _ _ q => ⟨c, z, rfl, rfl, q H1 (Ex.refl H1)⟩
theorem rv_notInKd {d : Addr} {x : Str} (h : PySem.W.nsIn K d x = some none) : RV (fun x y H Q => ∃ (z : Str) (r : Option Value), x = .str z ∧ y = .ref d ∧ PySem.W.nsIn K d z = some r ∧ Q (.bl (!r.isSome)) H) (.str x) (.ref d) H (.bl true) := fun H1 _ _ q => ⟨x, none, rfl, rfl, h, q H1 (Ex.refl H1)⟩
end
section
variable {K : PySem.W.Frag} {σ : L2.St} {H G : Hp} {te ta tb tl : TE} {v : V} {D : Ends} {tu tz : TS}
abbrev gPair (K : PySem.W.Frag) (j1 j2 : Nat) : TG := gTup K 2 (gCons (gName j1) (gCons (gName j2) gNil))
/-- for i, x in enumerate(xs) -/
theorem s_forEnum {a : Addr} {xs : List V} {j1 j2 : Nat} (h : Ev tl σ H (.ref a)) (hx : SqL K H a xs) (Pv : Nat → L2.St → Hp → Prop) (h0 : ∀ H1, Ex H H1 → Pv 0 σ H1) (hl : ∀ i σ' H', i ≤ xs.length → Pv i σ' H' → SqL K H' a xs)
    (hs : ∀ (i : Nat) x σ' H' H2, xs[i]? = some x → Pv i σ' H' → Ex H' H2 → tu { D with nx := Pv (i + 1), ct := Pv (i + 1), bk := D.nx } ((σ'.set j1 (some (.int i))).set j2 (some x)) H2) (hd : ∀ σ' H', Pv xs.length σ' H' → D.nx σ' H') : tFor (iEnum K (tCons tl tNil)) (gPair K j1 j2) tu D σ H :=
  h H (Ex.refl H) _ fun H1 e => ⟨a, xs, rfl, ex_l e hx, for_it walk_enum Pv (h0 H1 e) hl (fun i v σ' H' H2 hi p y => by
    obtain ⟨T, x, z, rfl, hT, rfl, e1, e2⟩ := y
    cases e1
    exact ⟨T, _, rfl, SqT.of upd_same, rfl, _, _, rfl, _, _, rfl, rfl, hs i z σ' H' _ e2 p (Ex.new hT)⟩) hd⟩
theorem q_forEnum {a : Addr} {xs : List V} {j1 j2 : Nat} (h : Ev tl σ H (.ref a)) (hx : SqL K H a xs) (Pv : Nat → L2.St → Hp → Prop) (h0 : ∀ H1, Ex H H1 → Pv 0 σ H1) (hl : ∀ i σ' H', i ≤ xs.length → Pv i σ' H' → SqL K H' a xs)
    (hs : ∀ (i : Nat) x σ' H' H2, xs[i]? = some x → Pv i σ' H' → Ex H' H2 → tu { D with nx := Pv (i + 1), ct := Pv (i + 1), bk := tz D } ((σ'.set j1 (some (.int i))).set j2 (some x)) H2) (hd : ∀ σ' H', Pv xs.length σ' H' → tz D σ' H') : tSeq (tFor (iEnum K (tCons tl tNil)) (gPair K j1 j2) tu) tz D σ H :=
  s_forEnum (D := { D with nx := tz D }) h hx Pv h0 hl hs hd
end
/-- a call of the def that a name holds -/
theorem ev_callL {σ : L2.St} {H : Hp} {i : Nat} {f : Addr} {sp : Sp} {dvs vs : List V} {E : XK} {ta : TA} {z : V} (hs : σ[i]? = some (some (.ref f))) (h : EvA ta σ H vs) (hp : SpV sp (vs ++ dvs) H z) : Ev (tCallL i f sp dvs E ta) σ H z := fun H1 e Q q =>
  ⟨hs, h H1 e _ fun H2 e2 => hp H2 (e.trans e2) Q (fun H3 e3 => q H3 (e2.trans e3)) E⟩
section
variable {K : PySem.W.Frag} {σ : L2.St} {H G : Hp} {te ta tb tl : TE} {v : V} {D : Ends} {tu tz : TS}
theorem cut1 {α : Type} (x : α) (xs : List α) : ((x :: xs).drop (HT.sIx (x :: xs).length 0 (some 1))).take (HT.sIx (x :: xs).length (x :: xs).length none - HT.sIx (x :: xs).length 0 (some 1)) = xs := by
  have e1 : HT.sIx (x :: xs).length 0 (some 1) = 1 := by simp [HT.sIx]
  have e2 : HT.sIx (x :: xs).length (x :: xs).length none = (x :: xs).length := by simp [HT.sIx]
  rw [e1, e2]
  simp
/-- t[1:] -/
theorem eu_tail {a : Addr} {x : V} {xs : List V} (h : Ev te σ H (.ref a)) (ha : SqT K H a (x :: xs)) : EvU (tSl (rSlT K) te (tPart (tC (.int 1))) tNoPart) σ H xs := fun H1 e Q q =>
  h H1 e _ fun H2 e2 => ⟨1, rfl, ⟨a, x :: xs, rfl, ex_t (e.trans e2) ha, fun z => by
    have e1 : HT.sIx (x :: xs).length 0 (some 1) = 1 := by simp [HT.sIx]
    rw [e1] at z
    exact absurd z.1 (by decide), fun p hp => by
    have e0 : cutV (x :: xs) (some 1) none = xs := cut1 x xs
    rw [e0]
    exact q p _ (fresh_back e2 hp) (e2.trans (Ex.new hp)) upd_same⟩⟩
/-- xs.extend(t), t a new tuple -/
theorem s_extU {l : Addr} {xs zs : List V} (hl : H l = some (.lst xs)) (ha : Ev ta σ H (.ref l)) (hb : EvU te σ H zs) (hs : xs.length + zs.length ≤ 100000) (k : ∀ H1, Ex H H1 → D.nx σ (upd H1 l (.lst (xs ++ zs)))) :
    tDrop (tBM K "list" (rExtT K) ta (tCons te tNil)) D σ H := ha H (Ex.refl H) _ fun H1 e1 => ⟨.inl ⟨rfl, _, sq_of (e1 l _ hl)⟩, hb H1 e1 _ fun p H2 _ e2 hp =>
  ⟨l, p, xs, zs, rfl, rfl, e2 l _ (e1 l _ hl), st_of hp, sz_of hs, k H2 (e1.trans e2)⟩⟩
/-- a call with a new list ahead -/
theorem ev_callNL {sp : Sp} {vs dvs xs : List V} {E : XK} {tr : TA} {z : V} (h : EvL te σ H xs) (hr : EvA tr σ H vs) (hp : ∀ p H1, Ex H H1 → H1 p = some (.lst xs) → SpV sp ((.ref p :: vs) ++ dvs) H1 z) : Ev (tCall sp dvs E (tCons te tr)) σ H z := fun H1 e Q q =>
  h H1 e _ fun p H2 _ e2 h2 => hr H2 (e.trans e2) _ fun H3 e3 => hp p H3 ((e.trans e2).trans e3) (e3 _ _ h2) H3 (Ex.refl _) Q (fun H4 e4 => q H4 ((e2.trans e3).trans e4)) E
theorem ev_isN {b : Bool} (h : Ev te σ H v) (e : decide (v = .non) = b) : Ev (tIsN te) σ H (.bl b) := fun H1 x Q q => h H1 x _ fun H2 x2 => by
  subst e
  exact q H2 x2
end
def A2 {α β : Type} (R : α → β → Prop) : List α → List β → Prop
  | [], [] => True
  | a :: as, b :: bs => R a b ∧ A2 R as bs
  | _, _ => False
section
variable {α β : Type} {R S : α → β → Prop}
theorem A2.mono (h : ∀ a b, R a b → S a b) : ∀ {as : List α} {bs : List β}, A2 R as bs → A2 S as bs
  | [], [], _ => trivial
  | _ :: _, _ :: _, k => ⟨h _ _ k.1, A2.mono h k.2⟩
  | [], _ :: _, k => k.elim
  | _ :: _, [], k => k.elim
theorem A2.append : ∀ {as cs : List α} {bs ds : List β}, A2 R as bs → A2 R cs ds → A2 R (as ++ cs) (bs ++ ds)
  | [], _, [], _, _, k => k
  | _ :: _, _, _ :: _, _, h, k => ⟨h.1, A2.append h.2 k⟩
  | [], _, _ :: _, _, h, _ => h.elim
  | _ :: _, _, [], _, h, _ => h.elim
theorem A2.length : ∀ {as : List α} {bs : List β}, A2 R as bs → as.length = bs.length
  | [], [], _ => rfl
  | _ :: _, _ :: _, k => congrArg (· + 1) (A2.length k.2)
  | [], _ :: _, k => k.elim
  | _ :: _, [], k => k.elim
theorem A2.get : ∀ {as : List α} {bs : List β} {i : Nat} {a : α}, A2 R as bs → as[i]? = some a → ∃ b, bs[i]? = some b ∧ R a b
  | [], [], i, a, _, e => by simp at e
  | x :: as, y :: bs, 0, a, h, e => by
    obtain rfl : x = a := by simpa using e
    exact ⟨y, rfl, h.1⟩
  | _ :: as, _ :: bs, i + 1, a, h, e => by
    obtain ⟨b, q, r⟩ := A2.get (i := i) (a := a) h.2 (by simpa using e)
    exact ⟨b, by simpa using q, r⟩
  | [], _ :: _, _, _, h, _ => h.elim
  | _ :: _, [], _, _, h, _ => h.elim
theorem A2.getb : ∀ {as : List α} {bs : List β} {i : Nat} {b : β}, A2 R as bs → bs[i]? = some b → ∃ a, as[i]? = some a ∧ R a b
  | [], [], i, a, _, e => by simp at e
  | x :: as, y :: bs, 0, b, h, e => by
    obtain rfl : y = b := by simpa using e
    exact ⟨x, rfl, h.1⟩
  | _ :: as, _ :: bs, i + 1, b, h, e => by
    obtain ⟨a, q, r⟩ := A2.getb (i := i) (b := b) h.2 (by simpa using e)
    exact ⟨a, by simpa using q, r⟩
  | [], _ :: _, _, _, h, _ => h.elim
  | _ :: _, [], _, _, h, _ => h.elim
theorem A2.of_map {γ : Type} {f : γ → α} : ∀ {cs : List γ} {bs : List β}, A2 R (cs.map f) bs → A2 (fun c b => R (f c) b) cs bs
  | [], [], _ => trivial
  | _ :: _, _ :: _, k => ⟨k.1, A2.of_map k.2⟩
  | [], _ :: _, k => k.elim
  | _ :: _, [], k => k.elim
end
/-! ### what evaluates to a thing of which P holds -/
def EvP (te : TE) (σ : L2.St) (H : Hp) (P : V → Hp → Prop) : Prop := ∀ H1, Ex H H1 → ∀ Q : VK, (∀ v H2, Ex H1 H2 → P v H2 → Q v H2) → te σ H1 Q
/-- a new list of which P holds -/
def EvLP (te : TE) (σ : L2.St) (H : Hp) (P : List V → Hp → Prop) : Prop := ∀ H1, Ex H H1 → ∀ Q : VK, (∀ p xs H2, H1 p = none → Ex H1 H2 → H2 p = some (.lst xs) → P xs H2 → Q (.ref p) H2) → te σ H1 Q
/-- what stays true -/
def Up (P : Hp → Prop) : Prop := ∀ H G, Ex H G → P H → P G
section
variable {K : PySem.W.Frag} {σ : L2.St} {H G : Hp} {te ta tb tl tk tx : TE} {tt : TT} {v : V} {D : Ends} {tu tz : TS} {J : It} {n : Nat} {vs : List Nat}
theorem EvP.of (h : Ev te σ H v) {P : V → Hp → Prop} (p : ∀ G, Ex H G → P v G) : EvP te σ H P := fun H1 e Q q => h H1 e _ fun H2 e2 => q v H2 e2 (p H2 (e.trans e2))
theorem EvP.mono (e : Ex H G) {P : V → Hp → Prop} (h : EvP te σ H P) : EvP te σ G P := fun H1 e1 Q q => h H1 (e.trans e1) Q q
theorem EvP.tup {ta : TA} {xs : List V} {P : V → Hp → Prop} (h : EvU (tTup ta) σ H xs) (p : ∀ a G, Ex H G → G a = some (.tup xs) → P (.ref a) G) : EvP (tTup ta) σ H P := fun H1 e Q q => h H1 e _ fun a H2 _ e2 ha => q _ _ e2 (p a H2 (e.trans e2) ha)
def Cwp (H0 : Hp) (f : Nat → Bool) (Pe : Nat → V → Hp → Prop) (Dl : Addr) (i : Nat) (H : Hp) : Prop := H0 Dl = none ∧ Ex H0 H ∧ ∃ acc, H Dl = some (.lst acc) ∧ acc.length ≤ i ∧ A2 (fun i y => Pe i y H) ((List.range i).filter f) acc
theorem cwp0 {H0 : Hp} {f : Nat → Bool} {Pe : Nat → V → Hp → Prop} {Dl : Addr} (h : H0 Dl = none) : Cwp H0 f Pe Dl 0 (upd H0 Dl (.lst [])) := ⟨h, Ex.new h, [], upd_same, Nat.le_refl _, trivial⟩
/-- what stays true if the thing at Dl, not known ahead, changes -/
def UpD (H0 : Hp) (Dl : Addr) (P : Hp → Prop) : Prop := ∀ H G xs, H Dl = some (.lst xs) → Ex H0 H → Ex H0 G → (∀ a o, a ≠ Dl → H a = some o → G a = some o) → P H → P G
theorem cwp_turn {H0 H1 H2 : Hp} {f : Nat → Bool} {Pe : Nat → V → Hp → Prop} {Dl : Addr} {i : Nat} {σ2 : L2.St} (up : ∀ i v, UpD H0 Dl (Pe i v)) (p : Cwp H0 f Pe Dl i H1) (e12 : Ex H1 H2) (hi : i < 50000) (ht : EvT tt σ2 H2 (f i)) (he : f i = true → ∀ H3, Ex H2 H3 → EvP te σ2 H3 (Pe i)) :
    tt σ2 H2 fun b H3 => if b = true then te σ2 H3 fun y H4 => ∃ acc, H4 Dl = some (.lst acc) ∧ acc.length < sizeLine ∧ Cwp H0 f Pe Dl (i + 1) (upd H4 Dl (.lst (acc ++ [y]))) else Cwp H0 f Pe Dl (i + 1) H3 := by
  obtain ⟨p1, p2, acc, p3, p4, p5⟩ := p
  have e2 : Ex H0 H2 := p2.trans e12
  refine ht H2 (Ex.refl _) _ fun H3 e3 => ?_
  have e03 := e2.trans e3
  cases hf : f i with
  | true =>
    show te σ2 H3 fun y H4 => ∃ acc, H4 Dl = some (.lst acc) ∧ acc.length < sizeLine ∧ Cwp H0 f Pe Dl (i + 1) (upd H4 Dl (.lst (acc ++ [y])))
    refine he hf H3 e3 H3 (Ex.refl _) _ fun y H4 e4 hy => ?_
    have hD : H4 Dl = some (.lst acc) := e4 _ _ (e3 _ _ (e12 _ _ p3))
    have e04 := e03.trans e4
    have e05 : Ex H0 (upd H4 Dl (.lst (acc ++ [y]))) := Ex.mut e04 p1
    have kp : ∀ a o, a ≠ Dl → H4 a = some o → (upd H4 Dl (.lst (acc ++ [y]))) a = some o := fun a o n h => by
      rw [upd_ne n]
      exact h
    refine ⟨acc, hD, sz_lt (by omega), p1, e05, _, upd_same, by simp; omega, ?_⟩
    rw [List.range_succ, List.filter_append, List.filter_cons, if_pos hf]
    refine A2.append (A2.mono (fun j z h => ?_) p5) ⟨up _ _ _ _ _ hD e04 e05 kp hy, trivial⟩
    exact up _ _ _ _ _ p3 p2 e05 (fun a o n h => kp a o n (e4 _ _ (e3 _ _ (e12 _ _ h)))) h
  | false =>
    show Cwp H0 f Pe Dl (i + 1) H3
    refine ⟨p1, e03, acc, e3 _ _ (e12 _ _ p3), by omega, ?_⟩
    rw [List.range_succ, List.filter_append, List.filter_cons, if_neg (by rw [hf]; decide)]
    show A2 _ (_ ++ []) _
    rw [List.append_nil]
    exact A2.mono (fun j z h => up _ _ _ _ _ p3 p2 e03 (fun a o _ q => e3 _ _ (e12 _ _ q)) h) p5
theorem walk_zipT {a b : Addr} {xs ys : List V} (hn : n = min xs.length ys.length) : Walk (RZ.ItzT K a b) n (fun H => SqT K H a xs ∧ SqT K H b ys) (YPair (fun i => xs[i]?) (fun i => ys[i]?)) := by
  subst hn
  refine ⟨fun i _ hi q => ?_, fun _ q => ⟨xs, ys, q.1, q.2, by omega⟩, fun i H v H' _ q y => ?_⟩
  · have h1 : i < xs.length := by omega
    have h2 : i < ys.length := by omega
    exact ⟨xs, ys, xs[i], ys[i], q.1, q.2, by simp [h1], by simp [h2]⟩
  · obtain ⟨T, x, z, h1, h2, h3, h4, h5⟩ := y
    exact ⟨T, x, z, h1, h2, h3, h4 xs q.1, h5 ys q.2⟩
/-- for x in t, t a new tuple -/
theorem s_forNT {xs : List V} {j : Nat} (h : EvU tl σ H xs) (Pv : Addr → Nat → L2.St → Hp → Prop) (h0 : ∀ p H1, H p = none → Ex H H1 → H1 p = some (.tup xs) → Pv p 0 σ H1) (hl : ∀ p i σ' H', i ≤ xs.length → Pv p i σ' H' → SqT K H' p xs)
    (hs : ∀ p i x σ' H', xs[i]? = some x → Pv p i σ' H' → tu { D with nx := Pv p (i + 1), ct := Pv p (i + 1), bk := D.nx } (σ'.set j (some x)) H') (hd : ∀ p σ' H', Pv p xs.length σ' H' → D.nx σ' H') : tFor (iTup K tl) (gName j) tu D σ H :=
  h H (Ex.refl H) _ fun p H1 hp e h1 => ⟨p, rfl, ⟨xs, st_of h1⟩, for_tup (Pv p) (h0 p H1 hp e h1) (hl p) (hs p) (hd p)⟩
theorem q_forNT {xs : List V} {j : Nat} (h : EvU tl σ H xs) (Pv : Addr → Nat → L2.St → Hp → Prop) (h0 : ∀ p H1, H p = none → Ex H H1 → H1 p = some (.tup xs) → Pv p 0 σ H1) (hl : ∀ p i σ' H', i ≤ xs.length → Pv p i σ' H' → SqT K H' p xs)
    (hs : ∀ p i x σ' H', xs[i]? = some x → Pv p i σ' H' → tu { D with nx := Pv p (i + 1), ct := Pv p (i + 1), bk := tz D } (σ'.set j (some x)) H') (hd : ∀ p σ' H', Pv p xs.length σ' H' → tz D σ' H') : tSeq (tFor (iTup K tl) (gName j) tu) tz D σ H :=
  s_forNT (D := { D with nx := tz D }) h Pv h0 hl hs hd
/-- for x, y in zip(s, t), new tuples -/
theorem q_forZipNT {xs ys : List V} {j1 j2 : Nat} {t1 t2 : TE} (h1 : EvU t1 σ H xs) (h2 : EvU t2 σ H ys) (Pv : Nat → L2.St → Hp → Prop) (h0 : ∀ H1, Ex H H1 → Pv 0 σ H1) (hE : ∀ i σ' H', Pv i σ' H' → Ex H H')
    (hp : ∀ i σ' H' G, Pv i σ' H' → Ex H' G → Pv i σ' G)
    (hs : ∀ i x y σ' H', xs[i]? = some x → ys[i]? = some y → Pv i σ' H' → ∀ N : L2.St → Hp → Prop, (∀ σ2 H2, Pv (i + 1) σ2 H2 → Ex H' H2 → N σ2 H2) → tu { D with nx := N, ct := N, bk := tz D } ((σ'.set j1 (some x)).set j2 (some y)) H') (hd : ∀ σ' H', Pv (min xs.length ys.length) σ' H' → tz D σ' H') :
    tSeq (tFor (RZ.iZipA K (tCons t1 (tCons t2 tNil))) (gPair K j1 j2) tu) tz D σ H :=
  h1 H (Ex.refl H) _ fun p H1 _ e1 hp1 => h2 H1 e1 _ fun q H2 _ e2 hq => ⟨p, q, xs, ys, rfl, .inr ⟨st_of (e2 _ _ hp1), st_of hq,
    for_it (walk_zipT (K := K) (a := p) (b := q) (xs := xs) (ys := ys) rfl) (fun i σ' H' => Pv i σ' H' ∧ H' p = some (.tup xs) ∧ H' q = some (.tup ys)) ⟨h0 H2 (e1.trans e2), e2 _ _ hp1, hq⟩ (fun i σ' H' _ z => ⟨st_of z.2.1, st_of z.2.2⟩)
      (fun i v σ' H' H'' hi z y => by
        obtain ⟨T, x, w, rfl, hT, rfl, ex, ey⟩ := y
        have eT : Ex H' (upd H' T (.tup [x, w])) := Ex.new hT
        exact ⟨T, _, rfl, SqT.of upd_same, rfl, _, _, rfl, _, _, rfl, rfl, hs i x w σ' _ ex ey (hp i σ' H' _ z.1 eT) _ fun σ2 H2 a e => ⟨a, e _ _ (eT _ _ z.2.1), e _ _ (eT _ _ z.2.2)⟩⟩) (fun σ' H' z => hd σ' H' z.1)⟩⟩
/-- a dict comprehension over a walk -/
theorem dc_it {J : It} {G : Hp → Prop} {Y : Nat → Hp → V → Hp → Prop} (w : Walk J n G Y) {g : TG} {H1 : Hp} {Dl : Addr} {Qd : Hp → Prop} (Pv : Nat → Hp → Prop) (h0 : Pv 0 (upd H1 Dl (.dK []))) (hG : ∀ i H, i ≤ n → Pv i H → G H)
    (hs : ∀ i x H H', i < n → Pv i H → Y i H x H' → g x (wipe σ vs) H' fun σ2 H2 => wipe σ2 vs = wipe σ vs ∧ tt σ2 H2 fun b H3 =>
      if b = true then tk σ2 H3 fun y H4 => tx σ2 H4 fun z H5 => ∃ kvs k, y = kV k ∧ H5 Dl = some (.dK kvs) ∧ kvs.length < sizeLine ∧ Pv (i + 1) (upd H5 Dl (.dK (putK kvs k z))) else Pv (i + 1) H3) (hd : ∀ H, Pv n H → Qd H) :
    ∃ W : Nat → Nat → Hp → Prop, (∃ m, W 0 m (upd H1 Dl (.dK []))) ∧ ∀ i m H, W i m H →
      (J.stop i H ∧ Qd H) ∨ (J.go i H ∧ ∃ Nx : Hp → Prop, (∀ H', Nx H' → ∃ m', m' < m ∧ W (i + 1) m' H') ∧ ∀ x H', J.yld i H x H' → g x (wipe σ vs) H' fun σ2 H2 => wipe σ2 vs = wipe σ vs ∧ tt σ2 H2 fun b H3 =>
        if b = true then tk σ2 H3 fun y H4 => tx σ2 H4 fun z H5 => ∃ kvs k, y = kV k ∧ H5 Dl = some (.dK kvs) ∧ kvs.length < sizeLine ∧ Nx (upd H5 Dl (.dK (putK kvs k z))) else Nx H3) := by
  refine ⟨fun i m H => m = n - i ∧ i ≤ n ∧ Pv i H, ⟨n, by simp, Nat.zero_le _, h0⟩, ?_⟩
  rintro i m H ⟨rfl, hi, p⟩
  have q := hG i H hi p
  by_cases hlt : i < n
  · exact .inr ⟨w.goes i H hlt q, Pv (i + 1), fun H' p' => ⟨n - (i + 1), by omega, rfl, hlt, p'⟩, fun x H' y => hs i x H H' hlt p (w.yields i H x H' hlt q y)⟩
  · have e : i = n := by omega
    subst e
    exact .inl ⟨w.stops H q, hd H p⟩
end
set_option maxHeartbeats 1000000 in
theorem meets_enum1 {v : Value} {o : Obj} {H : Heap → Prop} (B : Begins v o H) :
    Meets (Builtin.«enumerate.__new__» ⟨[.type "enumerate", v], []⟩) (fun _ R s => H s.heap ∧
      R (.ok (.ret (.ref (s.heap.push o).objs.size))) { s with heap := (s.heap.push o).push { cls := .type "enumerate", data := .fields #[.none, .bool false, .ref s.heap.objs.size, rawInt 0, .none, .none] } }) :=
  .of_wp fun prog w A R s h => by
    obtain ⟨hp, g, d, tk, os⟩ := s
    obtain ⟨h1, h⟩ := h
    have hsub := sub_enumerate
    have q1 : ∀ {A' : Around} {E : Value → Shared → Prop} {Q : Value → Shared → Prop}, Q (.ref hp.objs.size) ⟨hp.push o, g, d, tk, os⟩ → wpAny (model prog w) A' (pyIter v) Q E ⟨hp, g, d, tk, os⟩ :=
      fun q => B.iter prog w _ _ ⟨hp, g, d, tk, os⟩ _ h1 q
    wp_walk using q1
    refine wpAny_stack_any fun st => wpAny_pure ?_
    split
    · rename_i c _ _ _ _ _
      cases (c == Value.type "enumerate")
      · wp_walk using q1
        exact ⟨_, rfl, h⟩
      · wp_walk using q1
        exact ⟨_, rfl, h⟩
    · wp_walk using q1
      exact ⟨_, rfl, h⟩
theorem call_enum1 {prog : Program} {w : World} {A : Around} {E : Value → Shared → Prop} {s : Shared} {v : Value} {o : Obj} {H : Heap → Prop} {Q : Value → Shared → Prop} (B : Begins v o H) (h1 : H s.heap)
    (h : ∀ h', IsEnum h' (s.heap.objs.size + 1) s.heap.objs.size 0 .none → h'.get? s.heap.objs.size = some o → h'.objs.size = s.heap.objs.size + 2 →
      (∀ b o, s.heap.get? b = some o → h'.get? b = some o) → Q (.ref (s.heap.objs.size + 1)) { s with heap := h' }) :
    wpAny (model prog w) A (call (.type "enumerate") [v]) Q E s := by
  refine callType_new F.called_enumerate (by decide) (F.typeCall_enumerate_1 _) (F.newCall_enumerate_1 _) (fun obj => F.args_object_init_2 obj _) F.entry_enumerate_new
    (meets_enum1 B) ⟨h1, ?_⟩
  have hz : (s.heap.push o).objs.size = s.heap.objs.size + 1 := Heap.size_push ..
  show _ ∧ _
  rw [hz]
  have he : IsEnum ((s.heap.push o).push { cls := .type "enumerate", data := .fields #[.none, .bool false, .ref s.heap.objs.size, rawInt 0, .none, .none] }) (s.heap.objs.size + 1) s.heap.objs.size 0 .none := by
    have := Heap.get?_push_size (s.heap.push o) (o := { cls := .type "enumerate", data := .fields #[.none, .bool false, .ref s.heap.objs.size, rawInt 0, .none, .none] }) rfl
    rw [hz] at this; exact this
  refine ⟨⟨_, he, rfl⟩, h _ he (Heap.get?_push_of_some _ (Heap.get?_push_size _ B.free)) (by rw [Heap.size_push, hz]) fun b o x => Heap.get?_push_of_some _ (Heap.get?_push_of_some _ x)⟩
/-- the tuple at a as it stands at each turn, each item in a new pair -/
def IteT (K : PySem.W.Frag) (a : Addr) : It :=
  ⟨fun i H => ∃ (xs : List V) (x : V), SqT K H a xs ∧ xs[i]? = some x, fun i H v H' => ∃ T x, v = .ref T ∧ H T = none ∧ H' = upd H T (.tup [.int (i : Nat), x]) ∧ ∀ xs, SqT K H a xs → xs[i]? = some x, fun i H => ∃ xs : List V, SqT K H a xs ∧ xs.length ≤ i⟩
theorem draws_end {prog : Program} {w : World} {A : Around} {it a : Addr} {items : Array Value} {i : Nat} (hh : A.handled = none) (hne : a ≠ it) (hx : items[i]? = none) :
    Draws prog w A it [it, a] i (fun _ _ => False) (fun j h => j = i ∧ h.IsTupleIter it a i ∧ h.IsTuple a items) where
  live := fun _ _ st => let ⟨o, ho, _⟩ := st.2.1; ⟨o, ho⟩
  frame := fun _ _ _ st hk => ⟨st.1, st.2.1.at fun o e => hk it (by simp) o e, st.2.2.at fun o e => hk a (by simp) o e⟩
  item := fun j s Q E hj st _ => absurd st.1 (by omega)
  done := fun s Q E st hE => wpAny_nextOf_tuple_end hh st.2.1 st.2.2 hx hE
theorem turn_enumT {P : Program} {w : World} {K : PySem.W.Frag} {elts : List Expr} {kk : Nat} {tpos : Pos} (a e it : Addr) :
    Turn P w K (.Tuple elts kk tpos) (IteT K a) [e, it] e (fun i h => (∃ old, IsEnum h e it ((i : Nat) : Int) old) ∧ h.IsTupleIter it a i ∧ e ≠ it ∧ a ≠ it ∧ e ≠ a) where
  mem := by simp
  obj := fun i h st b hb => by
    obtain ⟨⟨old, he⟩, ⟨o, ho, hc, hd⟩, _⟩ := st
    have e' : b = e ∨ b = it := by simpa using hb
    rcases e' with z | z
    · rw [z]; exact ⟨_, he, fun v q => nomatch q⟩
    · rw [z]; exact ⟨o, ho, fun v q => by rw [hd] at q; cases q⟩
  keep := fun i h h' st k => let ⟨⟨old, he⟩, hi, hne⟩ := st; ⟨⟨old, k e (by simp) _ he⟩, hi.at fun o q => k it (by simp) o q, hne⟩
  item := by
    intro X hP hw hK hc i pins s σ H E I hf st hg
    subst hP hw hK
    obtain ⟨⟨old, he⟩, hit, hne, hai, hea⟩ := st
    obtain ⟨xs, x, hq, hx⟩ := hg
    obtain ⟨its, rv, p, hz⟩ := I.tuple hq
    obtain ⟨u, hu, ru⟩ := rv.get hx
    have hel : e < s.heap.objs.size := Heap.lt_size he
    have hil : it < s.heap.objs.size := by obtain ⟨_, q, _⟩ := hit; exact Heap.lt_size q
    have hlt : i < its.toArray.size := by
      have := (List.getElem?_eq_some_iff.mp hu).1
      simpa using this
    refine wpAny_pyNext_enum_itemD (Draws.tuple (A := X.A.in1) (I.ok.hd hc) it a hai its.toArray) he ⟨hit, p⟩ hlt hne (by simp [hne, hea]) fun y h' tk hy ho hst hT hsz hk => ?_
    have hyu : y = u := by
      have e1 : its.toArray[i]? = some u := by simpa using hu
      rw [e1] at hy
      exact (Option.some.inj hy).symm
    subst hyu
    refine ⟨_, rfl, wpAny_letOwnedTupleGo_enum (s := { s with heap := h', toks := tk + 1 }) ho fun h'' he' sb => ?_⟩
    have hT2 : h''.get? s.heap.objs.size = some { cls := .type "tuple", data := .seq #[.int i tk, y] } := (sb.2 _ (Nat.ne_of_gt hel)).trans hT
    have new : ObjOk X.prog X.w (upd H s.heap.objs.size (.tup [.int (i : Nat), x])) h'' s.heap.objs.size (.tup [.int (i : Nat), x]) :=
      ⟨by show 2 ≤ sizeLine; decide, [.int i tk, y], .cons ⟨_, rfl⟩ (.cons ru .nil), ⟨_, hT2, rfl, _, rfl⟩⟩
    have I1 : Inv X pins σ (upd H s.heap.objs.size (.tup [.int (i : Nat), x])) { s with heap := h'', toks := tk + 1 } :=
      I.turnedNew (ch := [e, it]) (fun b ob hb q => (sb.2 b (fun z => hb (by simp [z]))).trans (hk b ob (fun z => hb (by simp [z])) (fun z => hb (by simp [z])) q)) hf (Nat.le_refl _) new
    refine ⟨.ref s.heap.objs.size, _, I1, rfl, ⟨_, x, rfl, I.hok.fresh (Nat.le_refl _), rfl, fun ys hy => by rw [I.tuple_inj hy hq]; exact hx⟩, ⟨⟨y, ?_⟩, hst.1.at fun o q => (sb.2 it (Ne.symm hne)).trans q, hne, hai, hea⟩, fun b hb => ?_⟩
    · have e1 : ((i + 1 : Nat) : Int) = (i : Int) + 1 := by omega
      rw [e1]; exact he'
    · have hb' : b < s.heap.objs.size := by
        have e' : b = e ∨ b = it := by simpa using hb
        rcases e' with z | z
        · rw [z]; exact hel
        · rw [z]; exact hil
      rw [upd_ne (Nat.ne_of_lt hb')]
      exact (hf b hb).1
  done := by
    intro X hP hw hK hc i pins s σ H E I hf st hg
    subst hP hw hK
    obtain ⟨⟨old, he⟩, hit, hne, hai, hea⟩ := st
    obtain ⟨xs, hq, hx⟩ := hg
    obtain ⟨its, rv, p, hz⟩ := I.tuple hq
    obtain ⟨f0, f1, f2, f3, f4, f5⟩ := hf it (by simp)
    have hl := rv.length
    have hx0 : its.toArray[i]? = none := by simp; omega
    exact wpAny_pyNext_enum_endD (draws_end (A := X.A.in1) (I.ok.hd hc) hai hx0) he ⟨rfl, hit, p⟩ fun h' eb => ⟨rfl, I.turned (t' := s.toks) (fun b o hb q => eb b o hb q) f0 f1 f3 f4 f5⟩
  self := fun A i s Q E st h => let ⟨⟨_, he⟩, _⟩ := st; wpAny_pyIter_enum he h
def iEnumT (K : PySem.W.Frag) (ta : TA) : TI := fun σ H R => ta σ H fun vs H1 => ∃ a xs, vs = [.ref a] ∧ SqT K H1 a xs ∧ R (IteT K a) H1
theorem pi_enumT {X : Cx} {e : Expr} {ta : TA} {p pos tpos : Pos} {elts : List Expr} {kk : Nat} (hg : Gl X "enumerate") (hm : X.mg "enumerate" = none) (ha : PA X [e] ta) (hs : starEach [e] X.env = [(false, eval e X.env)] := by rfl) :
    PI X (.Tuple elts kk tpos) (.Call (.Name "enumerate" p) [e] [] pos) (iEnumT X.K ta) := by
  refine ⟨fun pins s σ H R I h => ?_⟩
  refine Call_ (ld_blt I hg hm boot_enumerate (PyProof.Rows.callWith_type1 (thn (ha.run pos pins s σ H _ I h) fun us s1 ⟨vs, H1, I1, r1, q1⟩ => ?_) hs rfl))
  obtain ⟨a, xs, ex, hq, q⟩ := q1
  subst ex
  cases r1 with
  | cons r rr =>
    cases rr
    cases r
    obtain ⟨its, rv, p', hz⟩ := I1.tuple hq
    have hal : a < s1.heap.objs.size := by obtain ⟨_, q, _⟩ := p'; exact Heap.lt_size q
    refine call_enum1 (begins_tuple a its.toArray) (show s1.heap.IsTuple a its.toArray from p') fun h' he hit hsz hk => wpAny_pyIter_enum he ?_
    have I2 : Inv X pins σ H1 { s1 with heap := h' } := I1.kept (t' := s1.toks) hk
    refine ⟨s1.heap.objs.size + 1, [s1.heap.objs.size + 1, s1.heap.objs.size], _, _, H1, rfl, I2, turn_enumT a (s1.heap.objs.size + 1) s1.heap.objs.size, ⟨⟨.none, he⟩, ⟨_, hit, rfl, rfl⟩, Nat.succ_ne_self _, Nat.ne_of_lt hal, Nat.ne_of_gt (Nat.lt_succ_of_lt hal)⟩, fun b hb => ?_, q⟩
    have e' : b = s1.heap.objs.size + 1 ∨ b = s1.heap.objs.size := by simpa using hb
    have hle : s1.heap.objs.size ≤ b := by
      rcases e' with z | z
      · rw [z]; exact Nat.le_add_right _ _
      · rw [z]; exact Nat.le_refl _
    exact I1.fpOk hle (I1.hok.fresh hle)
theorem walk_enumT {K : PySem.W.Frag} {a : Addr} {xs : List V} : Walk (IteT K a) xs.length (fun H => SqT K H a xs) (YPair (fun i => some (.int (i : Nat))) (fun i => xs[i]?)) := by
  refine ⟨fun i _ hi q => ⟨xs, xs[i], q, by simp [hi]⟩, fun _ q => ⟨xs, q, Nat.le_refl _⟩, fun i H v H' _ q y => ?_⟩
  obtain ⟨T, x, h1, h2, h3, h4⟩ := y
  exact ⟨T, .int (i : Nat), x, h1, h2, h3, rfl, h4 xs q⟩
/-- for i, x in enumerate(t), t a new tuple -/
theorem q_forEnumNT {K : PySem.W.Frag} {σ : L2.St} {H : Hp} {tl : TE} {D : Ends} {tu tz : TS} {xs : List V} {j1 j2 : Nat} (h : EvU tl σ H xs) (Pv : Nat → L2.St → Hp → Prop) (h0 : ∀ H1, Ex H H1 → Pv 0 σ H1)
    (hs : ∀ (i : Nat) x σ' H' H2, xs[i]? = some x → Pv i σ' H' → Ex H' H2 → ∀ N : L2.St → Hp → Prop, (∀ σ3 H3, Pv (i + 1) σ3 H3 → Tx H2 H3 → N σ3 H3) → tu { D with nx := N, ct := N, bk := tz D } ((σ'.set j1 (some (.int i))).set j2 (some x)) H2) (hd : ∀ σ' H', Pv xs.length σ' H' → tz D σ' H') : tSeq (tFor (iEnumT K (tCons tl tNil)) (gPair K j1 j2) tu) tz D σ H :=
  h H (Ex.refl H) _ fun p H1 _ e hp => ⟨p, xs, rfl, st_of hp, for_it walk_enumT (fun i σ' H' => Pv i σ' H' ∧ H' p = some (.tup xs)) ⟨h0 H1 e, hp⟩ (fun i σ' H' _ z => st_of z.2) (fun i v σ' H' H2 hi z y => by
    obtain ⟨T, x, w, rfl, hT, rfl, e1, e2⟩ := y
    cases e1
    have eT : Ex H' (upd H' T (.tup [.int (i : Nat), w])) := Ex.new hT
    exact ⟨T, _, rfl, st_of upd_same, rfl, _, _, rfl, _, _, rfl, rfl, hs i w σ' H' _ e2 z.1 eT _ fun σ3 H3 a t => ⟨a, t _ _ (eT _ _ z.2)⟩⟩) fun σ' H' z => hd σ' H' z.1⟩
section
variable {K : PySem.W.Frag} {σ : L2.St} {H : Hp} {te ta tb : TE} {v : V}
theorem rv_neB {a b : Bool} : Evl.RV rNe (.bl a) (.bl b) H (.bl (!decide (V.bl a = V.bl b))) := rv_ne rfl
theorem ev_isiN {m : String} {cs : List String} {b : Bool} (h : Ev te σ H v) (ty : TyX K H v (.type m)) (e : PySem.W.kitAny K (.type m) (cs.map Value.type) = some b) {ta : TA} (ht : EvU (tTup ta) σ H (cs.map V.ty)) : Ev (tCB (rIsiT K) (tCons te (tCons (tTup ta) tNil))) σ H (.bl b) := fun H1 x Q q =>
  h H1 x _ fun H2 x2 => ht H2 (x.trans x2) _ fun p H3 hp x3 h3 => by
    show rIsiT K [v, .ref p] H3 Q
    have pr : ∀ cs : List String, Paired ClsV (cs.map V.ty) (cs.map Value.type) := fun cs => by
      induction cs with
      | nil => exact .nil
      | cons c cs ih => exact .cons (.ty c) ih
    exact ⟨v, p, cs.map V.ty, _, cs.map Value.type, b, rfl, h3, pr cs, tyx_ext ((x.trans x2).trans x3) ty, e, q _ (x2.trans x3)⟩
end
end K28

set_option Elab.async false
set_option linter.all false
set_option maxRecDepth 100000
set_option maxHeartbeats 4000000
/-! Any object, as data; words. -/
namespace K28
open PySem PySem.Spec PyProof.Rows L2 Evl
inductive O where
  | non | bl (b : Bool) | int (i : Int) | str (s : Str) | dct | lst (xs : List O) | tup (xs : List O)
def O.seq : Bool → List O → O
  | true, xs => .lst xs
  | false, xs => .tup xs
mutual
def O.sz : O → Nat
  | .non => 1 | .bl _ => 1 | .int _ => 1 | .str _ => 1 | .dct => 1 | .lst xs => O.szs xs + 1 | .tup xs => O.szs xs + 1
def O.szs : List O → Nat
  | [] => 0
  | x :: xs => x.sz + O.szs xs
end
mutual
def O.dp : O → Nat
  | .non => 0 | .bl _ => 0 | .int _ => 0 | .str _ => 0 | .dct => 0 | .lst xs => O.dps xs + 1 | .tup xs => O.dps xs + 1
def O.dps : List O → Nat
  | [] => 0
  | x :: xs => max x.dp (O.dps xs)
end
mutual
def O.strip : O → O
  | .non => .non | .bl b => .bl b | .int i => .int i | .str s => .str s | .dct => .dct | .lst xs => .tup (O.strips xs) | .tup xs => .tup (O.strips xs)
def O.strips : List O → List O
  | [] => []
  | x :: xs => x.strip :: O.strips xs
end
mutual
def O.hasL : O → Bool
  | .non => false | .bl _ => false | .int _ => false | .str _ => false | .dct => false | .lst _ => true | .tup xs => O.hasLs xs
def O.hasLs : List O → Bool
  | [] => false
  | x :: xs => x.hasL || O.hasLs xs
end
mutual
def OV (H : Hp) : V → O → Prop
  | v, .non => v = .non
  | v, .bl b => v = .bl b
  | v, .int i => v = .int i
  | v, .str s => v = .str s
  | v, .dct => ∃ a, v = .ref a ∧ H a = some (.dK [])
  | v, .lst xs => ∃ a vs, v = .ref a ∧ H a = some (.lst vs) ∧ OVs H vs xs
  | v, .tup xs => ∃ a vs, v = .ref a ∧ H a = some (.tup vs) ∧ OVs H vs xs
def OVs (H : Hp) : List V → List O → Prop
  | vs, [] => vs = []
  | vs, o :: os => ∃ v us, vs = v :: us ∧ OV H v o ∧ OVs H us os
end
section
variable {H G : Hp}
mutual
theorem OV.ext (e : Ex H G) : ∀ {o : O} {v : V}, OV H v o → OV G v o
  | .non, _, h => h
  | .bl _, _, h => h
  | .int _, _, h => h
  | .str _, _, h => h
  | .dct, _, ⟨a, h1, h2⟩ => ⟨a, h1, e _ _ h2⟩
  | .lst _, _, ⟨a, vs, h1, h2, h3⟩ => ⟨a, vs, h1, e _ _ h2, OVs.ext e h3⟩
  | .tup _, _, ⟨a, vs, h1, h2, h3⟩ => ⟨a, vs, h1, e _ _ h2, OVs.ext e h3⟩
theorem OVs.ext (e : Ex H G) : ∀ {os : List O} {vs : List V}, OVs H vs os → OVs G vs os
  | [], _, h => h
  | _ :: _, _, ⟨v, us, h1, h2, h3⟩ => ⟨v, us, h1, OV.ext e h2, OVs.ext e h3⟩
end
theorem OVs.length : ∀ {os : List O} {vs : List V}, OVs H vs os → vs.length = os.length
  | [], _, h => by rw [show _ = [] from h]; rfl
  | _ :: _, _, ⟨v, us, h1, h2, h3⟩ => by rw [h1, List.length_cons, List.length_cons, OVs.length h3]
theorem OVs.nil : OVs H [] [] := rfl
theorem OVs.cons {v : V} {vs : List V} {o : O} {os : List O} (h : OV H v o) (k : OVs H vs os) : OVs H (v :: vs) (o :: os) := ⟨v, vs, rfl, h, k⟩
theorem OVs.append : ∀ {os ps : List O} {vs us : List V}, OVs H vs os → OVs H us ps → OVs H (vs ++ us) (os ++ ps)
  | [], _, _, _, h, k => by rw [show _ = [] from h]; exact k
  | _ :: _, _, _, _, ⟨v, us, h1, h2, h3⟩, k => by rw [h1]; exact ⟨v, _, rfl, h2, OVs.append h3 k⟩
theorem OVs.snoc : ∀ {os : List O} {o : O} {vs : List V}, OVs H vs (os ++ [o]) → ∃ us v, vs = us ++ [v] ∧ OVs H us os ∧ OV H v o
  | [], _, _, ⟨v, us, h1, h2, h3⟩ => ⟨[], v, by rw [h1, show us = [] from h3]; rfl, rfl, h2⟩
  | _ :: _, _, _, ⟨v, us, h1, h2, h3⟩ => by
    obtain ⟨ws, w, e, a, b⟩ := OVs.snoc h3
    exact ⟨v :: ws, w, by rw [h1, e]; rfl, ⟨v, ws, rfl, h2, a⟩, b⟩
theorem OVs.get : ∀ {os : List O} {vs : List V} {i : Nat} {v : V}, OVs H vs os → vs[i]? = some v → ∃ o, os[i]? = some o ∧ OV H v o
  | [], _, i, v, h, e => by rw [show _ = [] from h] at e; simp at e
  | o :: _, _, 0, v, ⟨u, us, h1, h2, h3⟩, e => by
    rw [h1] at e
    obtain rfl : u = v := by simpa using e
    exact ⟨o, rfl, h2⟩
  | _ :: _, _, i + 1, v, ⟨u, us, h1, h2, h3⟩, e => by
    rw [h1] at e
    obtain ⟨o, a, b⟩ := OVs.get (i := i) (v := v) h3 (by simpa using e)
    exact ⟨o, by simpa using a, b⟩
theorem OVs.geto : ∀ {os : List O} {vs : List V} {i : Nat} {o : O}, OVs H vs os → os[i]? = some o → ∃ v, vs[i]? = some v ∧ OV H v o
  | [], _, i, v, h, e => by simp at e
  | o :: _, _, 0, p, ⟨u, us, h1, h2, h3⟩, e => by
    obtain rfl : o = p := by simpa using e
    exact ⟨u, by rw [h1]; rfl, h2⟩
  | _ :: _, _, i + 1, v, ⟨u, us, h1, h2, h3⟩, e => by
    obtain ⟨w, a, b⟩ := OVs.geto (i := i) h3 (by simpa using e)
    exact ⟨w, by rw [h1]; simpa using a, b⟩
theorem O.szs_app : ∀ (xs ys : List O), O.szs (xs ++ ys) = O.szs xs + O.szs ys
  | [], ys => by simp [O.szs]
  | x :: xs, ys => by
    show x.sz + O.szs (xs ++ ys) = x.sz + O.szs xs + O.szs ys
    rw [O.szs_app xs ys]
    omega
theorem O.sz_pos : ∀ o : O, 1 ≤ o.sz
  | .non => Nat.le_refl _ | .bl _ => Nat.le_refl _ | .int _ => Nat.le_refl _ | .str _ => Nat.le_refl _ | .dct => Nat.le_refl _
  | .lst xs => Nat.le_add_left _ _ | .tup xs => Nat.le_add_left _ _
theorem O.len_szs : ∀ xs : List O, xs.length ≤ O.szs xs
  | [] => Nat.le_refl _
  | x :: xs => by
    have h := O.len_szs xs
    have h1 := x.sz_pos
    show xs.length + 1 ≤ x.sz + O.szs xs
    omega
/-- a list or a tuple -/
theorem OV.seq {v : V} {b : Bool} {xs : List O} (h : OV H v (O.seq b xs)) : ∃ a vs, v = .ref a ∧ H a = some (if b = true then .lst vs else .tup vs) ∧ OVs H vs xs := by
  cases b with
  | true => exact h
  | false => exact h
theorem O.seq_sz {b : Bool} {xs : List O} : (O.seq b xs).sz = O.szs xs + 1 := by cases b <;> rfl
end
/-! ### of what type -/
def O.ty : O → String
  | .non => "NoneType" | .bl _ => "bool" | .int _ => "int" | .str _ => "str" | .dct => "dict" | .lst _ => "list" | .tup _ => "tuple"
def O.isInt : O → Bool
  | .bl _ => true | .int _ => true | _ => false
def O.isBool : O → Bool
  | .bl _ => true | _ => false
def O.isStr : O → Bool
  | .str _ => true | _ => false
def O.isLst : O → Bool
  | .lst _ => true | _ => false
def O.isTup : O → Bool
  | .tup _ => true | _ => false
def O.isDct : O → Bool
  | .dct => true | _ => false
section
variable {K : PySem.W.Frag} {σ : L2.St} {H G : Hp} {te ta tb : TE} {v : V} {o : O}
theorem OV.tyx (h : OV H v o) : TyX K H v (.type o.ty) := by
  cases o with
  | non => rw [show v = .non from h]; exact .base .non
  | bl b => rw [show v = .bl b from h]; exact .base (.bl b)
  | int i => rw [show v = .int i from h]; exact .base (.int i)
  | str s => rw [show v = .str s from h]; exact .base (.str s)
  | dct => obtain ⟨a, rfl, h1⟩ := h; exact .base (.dK h1)
  | lst xs => obtain ⟨a, vs, rfl, h1, _⟩ := h; exact .base (.lst h1)
  | tup xs => obtain ⟨a, vs, rfl, h1, _⟩ := h; exact .base (.tup h1)
theorem kit_int (o : O) : kitB o.ty "int" = some o.isInt := by cases o <;> dsimp only [O.ty, O.isInt] <;> decide +kernel
theorem kit_bool (o : O) : kitB o.ty "bool" = some o.isBool := by cases o <;> dsimp only [O.ty, O.isBool] <;> decide +kernel
theorem kit_str (o : O) : kitB o.ty "str" = some o.isStr := by cases o <;> dsimp only [O.ty, O.isStr] <;> decide +kernel
theorem kit_lst (o : O) : kitB o.ty "list" = some o.isLst := by cases o <;> dsimp only [O.ty, O.isLst] <;> decide +kernel
theorem kit_tup (o : O) : kitB o.ty "tuple" = some o.isTup := by cases o <;> dsimp only [O.ty, O.isTup] <;> decide +kernel
theorem kit_dct (o : O) : kitB o.ty "dict" = some o.isDct := by cases o <;> dsimp only [O.ty, O.isDct] <;> decide +kernel
theorem ev_isInt (h : Ev te σ H v) (k : OV H v o) : Ev (tIsi K "int" te) σ H (.bl o.isInt) := ev_isi h k.tyx (kit_int o)
theorem ev_isBool (h : Ev te σ H v) (k : OV H v o) : Ev (tIsi K "bool" te) σ H (.bl o.isBool) := ev_isi h k.tyx (kit_bool o)
theorem ev_isStr (h : Ev te σ H v) (k : OV H v o) : Ev (tIsi K "str" te) σ H (.bl o.isStr) := ev_isi h k.tyx (kit_str o)
theorem ev_isLst (h : Ev te σ H v) (k : OV H v o) : Ev (tIsi K "list" te) σ H (.bl o.isLst) := ev_isi h k.tyx (kit_lst o)
theorem ev_isTup (h : Ev te σ H v) (k : OV H v o) : Ev (tIsi K "tuple" te) σ H (.bl o.isTup) := ev_isi h k.tyx (kit_tup o)
theorem ev_isDct (h : Ev te σ H v) (k : OV H v o) : Ev (tIsi K "dict" te) σ H (.bl o.isDct) := ev_isi h k.tyx (kit_dct o)
theorem ev_isSeq (h : Ev te σ H v) (k : OV H v o) : Ev (tIsi2 K te) σ H (.bl (o.isLst || o.isTup)) := ev_isi2 h k.tyx (kit_lst o) (kit_tup o)
theorem O.seq_of {o : O} (h : (o.isLst || o.isTup) = true) : ∃ b xs, o = O.seq b xs := by
  cases o with
  | lst xs => exact ⟨true, xs, rfl⟩
  | tup xs => exact ⟨false, xs, rfl⟩
  | _ => cases h
end
/-! ### rules for either of two kinds -/
theorem ix_or {X : Cx} {r1 r2 : R2} (h1 : IxR X r1) (h2 : IxR X r2) : IxR X (fun x y H Q => r1 x y H Q ∨ r2 x y H Q) := by
  intro value slice pins s σ H x y v u Q I rx ry h e
  rcases h with h | h
  · exact h1 value slice pins s σ H x y v u Q I rx ry h e
  · exact h2 value slice pins s σ H x y v u Q I rx ry h e
theorem op_or {X : Cx} {f : Value → Value → Sem Value} {r1 r2 : R2} (h1 : OpR X f r1) (h2 : OpR X f r2) : OpR X f (fun x y H Q => r1 x y H Q ∨ r2 x y H Q) := by
  intro pins s σ H x y v u Q I rx ry h
  rcases h with h | h
  · exact h1 pins s σ H x y v u Q I rx ry h
  · exact h2 pins s σ H x y v u Q I rx ry h
theorem mt_or {X : Cx} {id : String} {r1 r2 : V → List V → Hp → VK → Prop} (h1 : MtM X id r1) (h2 : MtM X id r2) : MtM X id (fun x vs H Q => r1 x vs H Q ∨ r2 x vs H Q) := by
  intro pins s σ H x vs v us Q I rx rv h
  rcases h with h | h
  · exact h1 pins s σ H x vs v us Q I rx rv h
  · exact h2 pins s σ H x vs v us Q I rx rv h
section
variable {K : PySem.W.Frag} {σ : L2.St} {H G : Hp} {te ta tb : TE} {v : V} {D : Ends} {tz : TS}
/-- x[i], x a list or a tuple -/
abbrev rIxQ (K : PySem.W.Frag) : R2 := fun x y H Q => rIxL K x y H Q ∨ rIxT K x y H Q
theorem ix_seq {X : Cx} : IxR X (rIxQ X.K) := ix_or ix_list ix_tup
abbrev rSlQ (K : PySem.W.Frag) : V → Option Int → Option Int → Hp → VK → Prop := fun x lo hi H Q => rSlL K x lo hi H Q ∨ rSlT K x lo hi H Q
theorem sl_seq {X : Cx} : SlR X (rSlQ X.K) := SlR.or sl_list sl_tup
/-- xs.extend(ys), ys a new list or a tuple -/
abbrev rExtQ (K : PySem.W.Frag) : V → List V → Hp → VK → Prop := fun x vs H Q => rExtend x vs H Q ∨ rExtT K x vs H Q
theorem mt_extQ {X : Cx} : MtM X "list.extend" (rExtQ X.K) := mt_or mt_extend mt_extT
/-- what stands at a: a list or a tuple -/
def SqB (H : Hp) (b : Bool) (a : Addr) (vs : List V) : Prop := H a = some (if b = true then .lst vs else .tup vs)
theorem SqB.ext {b : Bool} {a : Addr} {vs : List V} (e : Ex H G) (h : SqB H b a vs) : SqB G b a vs := e _ _ h
theorem rv_ixQ {b : Bool} {p : Addr} {vs : List V} {i : Int} (h : SqB H b p vs) (ha : atI vs i = some v) : RV (rIxQ K) (.ref p) (.int i) H v := fun H1 e Q q => by
  cases b with
  | true => exact .inl (rv_ixL (sq_of h) ha H1 e Q q)
  | false => exact .inr (rv_ixT (st_of h) ha H1 e Q q)
theorem ev_notN {b : Bool} (h : Ev te σ H v) (e : (!decide (v = .non)) = b) : Ev (tNotN te) σ H (.bl b) := fun H1 x Q q => h H1 x _ fun H2 x2 => by
  subst e
  exact q H2 x2
theorem ev_lenQ {b : Bool} {p : Addr} {vs : List V} (h : Ev te σ H (.ref p)) (hs : SqB H b p vs) : Ev (tLen K te) σ H (.int (vs.length : Nat)) := by
  cases b with
  | true => exact ev_lenL h (sq_of hs)
  | false => exact ev_lenT h (st_of hs)
/-- a new list or tuple -/
def EvQ (te : TE) (σ : L2.St) (H : Hp) (xs : List V) : Prop := ∀ H1, Ex H H1 → ∀ Q : VK, (∀ b p H2, H1 p = none → Ex H1 H2 → SqB H2 b p xs → Q (.ref p) H2) → te σ H1 Q
/-- x[1:] -/
theorem eq_tail {b : Bool} {a : Addr} {x : V} {xs : List V} (h : Ev te σ H (.ref a)) (ha : SqB H b a (x :: xs)) : EvQ (tSl (rSlQ K) te (tPart (tC (.int 1))) tNoPart) σ H xs := fun H1 e Q q =>
  h H1 e _ fun H2 e2 => ⟨1, rfl, by
    have e0 : cutV (x :: xs) (some 1) none = xs := cut1 x xs
    have ha2 := ha.ext (e.trans e2)
    cases b with
    | true => exact .inl ⟨a, x :: xs, rfl, sq_of ha2, fun p hp => by
        rw [e0]
        exact q true p _ (fresh_back e2 hp) (e2.trans (Ex.new hp)) upd_same⟩
    | false => exact .inr ⟨a, x :: xs, rfl, st_of ha2, fun z => by
        have e1 : HT.sIx (x :: xs).length 0 (some 1) = 1 := by simp [HT.sIx]
        rw [e1] at z
        exact absurd z.1 (by decide), fun p hp => by
        rw [e0]
        exact q false p _ (fresh_back e2 hp) (e2.trans (Ex.new hp)) upd_same⟩⟩
theorem s_extQ {l : Addr} {xs zs : List V} (hl : H l = some (.lst xs)) (ha : Ev ta σ H (.ref l)) (hb : EvQ te σ H zs) (hs : xs.length + zs.length ≤ 100000) (k : ∀ H1, Ex H H1 → D.nx σ (upd H1 l (.lst (xs ++ zs)))) :
    tDrop (tBM K "list" (rExtQ K) ta (tCons te tNil)) D σ H := ha H (Ex.refl H) _ fun H1 e1 => ⟨.inl ⟨rfl, _, sq_of (e1 l _ hl)⟩, hb H1 e1 _ fun b p H2 _ e2 hp => by
  have hl2 := e2 l _ (e1 l _ hl)
  cases b with
  | true => exact .inl ⟨l, p, xs, zs, rfl, rfl, hl2, hp, sz_of hs, k H2 (e1.trans e2)⟩
  | false => exact .inr ⟨l, p, xs, zs, rfl, rfl, hl2, st_of hp, sz_of hs, k H2 (e1.trans e2)⟩⟩
end
end K28

set_option Elab.async false
set_option linter.all false
set_option maxRecDepth 100000
set_option maxHeartbeats 4000000
/-! What is known of the module's names; kinds. -/
namespace K28
open PySem PySem.Spec PyProof.Rows L2 Evl
/-! ### own exception classes -/
theorem shape_ok {K : PySem.W.Frag} {C : Addr} {bm : List Value} (q : shapeB K C bm = true) :
    ∃ nm qn N bs sn sub ab col dd k0 k1 k2 k3 k5, K.lookup C = some (excClassObj nm qn C N bs bm true sn sub ab col dd k0 k1 k2 k3 k5 "ValueError.__new__") := by
  unfold shapeB at q
  split at q
  · rename_i dd cd sl ho
    split at q
    · rename_i k0 k1 k2 k3 n k5 hs
      simp only [Bool.and_eq_true, beq_iff_eq, Bool.not_eq_true'] at q
      obtain ⟨rfl, hdel, hd, hm⟩ := q
      obtain ⟨nm, bs, mro, ns, qn, hdc, sn, sub, ab, col, del⟩ := cd
      dsimp only at hm hdel hd
      subst hm hdel hd
      have hsl : sl = #[k0, k1, k2, k3, some (.builtin "ValueError.__new__"), k5] := by
        obtain ⟨l⟩ := sl
        simp only at hs
        rw [hs]
      subst hsl
      exact ⟨nm, qn, ns, bs, sn, sub, ab, col, dd, k0, k1, k2, k3, k5, ho⟩
    · cases q
  · cases q
theorem bm_ve (S : Addr) : PySem.HandSPX.refsVE (bmS S) = true := by
  show PySem.HandSPX.refsVE PySem.HandSPX.veTail = true
  decide +kernel
/-- a class that keeps one thing -/
structure ErrC (P : Program) (w : World) (K : PySem.W.Frag) (mg : Str → Option Value) (base : Heap) (x z : Str) : Prop where
  oex : OexC K (He.ga K x)
  xf : XfC K (He.ga K x)
  no : PySem.W.findIn K (.ref (He.ga K x)) z = some none
  gl : mg x = some (.ref (He.ga K x))
  te : PySem.W.exmOne K (.ref (He.ga K x)) (.ref (He.ga K x)) = some true
  z1 : (z == ("__debug__" : Str)) = false
  z2 : (z == ("__classdict__" : Str)) = false
  ini : ∃ (fI : Addr) (fd : FuncData) (p1 p2 p3 p4 : Pos) (params : Arguments) (scope : Scope) (qual : Str), PySem.W.findIn K (.ref (He.ga K x)) "__init__" = some (some (.ref fI)) ∧ PySem.W.typeIn K (.ref fI) = some (.type "function") ∧
    FunD K "__init__" qual params [.Assign [.Attribute (.Name "self" p1) z p2] (.Name z p3) p4] scope [] [] fI fd ∧ FnScope ["self", z] ["self", z] scope ∧ Binds K fd ["self", z] []
structure T28 (P : Program) (w : World) (K : PySem.W.Frag) (mg : Str → Option Value) (base : Heap) : Prop where
  fr : ∀ x ∈ fBl, mg x = none
  df : ∀ (i : Nat) (x : Str) (st : Stmt), fnA[i]? = some (dN x st) → (∃ fd, FnP K x st (He.ga K x) fd) ∧ mg x = some (.ref (He.ga K x))
  kd : ∃ es n, KDict K w (He.ga K "KEPT") es n
  kn : ∀ x ∈ hds, PySem.W.nsIn K (He.ga K "KEPT") x = some none
  knot : ∃ v, PySem.W.nsIn K (He.ga K "KEPT") "not" = some (some v)
  kept : mg "KEPT" = some (.ref (He.ga K "KEPT"))
  letters : ∃ t, mg "LETTERS" = some (.str "abcdefghijklmnopqrstuvwxyz" t)
  capitals : ∃ t, mg "CAPITALS" = some (.str "ABCDEFGHIJKLMNOPQRSTUVWXYZ" t)
  longest : ∃ t, mg "LONGEST" = some (.int 8 t)
  most : ∃ t, mg "MOST_PLACES" = some (.int 6 t)
  er : ∀ p ∈ xnm, ErrC P w K mg base p.1 p.2
  xp : ∀ p ∈ xnm, ∀ y ∈ cnms, PySem.W.exmOne K (.ref (He.ga K p.1)) (.ref (He.ga K y)) = some (decide (p.1 = y))
  cl : ∀ x ∈ cnms, mg x = some (.ref (He.ga K x))
/-- a def of the module keeps a promise; CX: what it may let out -/
structure Ok (P : Program) (w : World) (K : PySem.W.Frag) (mg : Str → Option Value) (base : Heap) (CX : CXT) (x : Str) (ps : List Str) (k : Nat) (sp : Sp) : Prop where
  ex : ∃ (f : Addr) (fd : FuncData), FnOk P w K mg base CX k f fd ps sp ∧ Binds K fd ps [] ∧ PySem.W.keepIn K (.ref f) = true ∧ mg x = some (.ref f)
section
variable {P : Program} {w : World} {K : PySem.W.Frag} {mg : Str → Option Value} {base : Heap}
theorem T28.bw (T : T28 P w K mg base) : ErrC P w K mg base "BadWord" "thing" := T.er ("BadWord", "thing") (by decide)
theorem T28.bp (T : T28 P w K mg base) : ErrC P w K mg base "BadPlace" "thing" := T.er ("BadPlace", "thing") (by decide)
theorem T28.bs (T : T28 P w K mg base) : ErrC P w K mg base "BadSubstitution" "thing" := T.er ("BadSubstitution", "thing") (by decide)
theorem T28.br (T : T28 P w K mg base) : ErrC P w K mg base "BadRows" "index" := T.er ("BadRows", "index") (by decide)
theorem T28.bo (T : T28 P w K mg base) : ErrC P w K mg base "BadOrder" "thing" := T.er ("BadOrder", "thing") (by decide)
theorem T28.no (T : T28 P w K mg base) : ErrC P w K mg base "NotOrdered" "name" := T.er ("NotOrdered", "name") (by decide)
theorem T28.any (T : T28 P w K mg base) : mg "any" = none := T.fr _ (by decide)
theorem T28.sum (T : T28 P w K mg base) : mg "sum" = none := T.fr _ (by decide)
theorem T28.isi (T : T28 P w K mg base) : mg "isinstance" = none := T.fr _ (by decide)
theorem T28.len (T : T28 P w K mg base) : mg "len" = none := T.fr _ (by decide)
theorem T28.list (T : T28 P w K mg base) : mg "list" = none := T.fr _ (by decide)
theorem T28.tuple (T : T28 P w K mg base) : mg "tuple" = none := T.fr _ (by decide)
theorem T28.str (T : T28 P w K mg base) : mg "str" = none := T.fr _ (by decide)
theorem T28.int (T : T28 P w K mg base) : mg "int" = none := T.fr _ (by decide)
theorem T28.bool (T : T28 P w K mg base) : mg "bool" = none := T.fr _ (by decide)
theorem T28.dict (T : T28 P w K mg base) : mg "dict" = none := T.fr _ (by decide)
theorem T28.range (T : T28 P w K mg base) : mg "range" = none := T.fr _ (by decide)
theorem T28.enumerate (T : T28 P w K mg base) : mg "enumerate" = none := T.fr _ (by decide)
theorem T28.zip (T : T28 P w K mg base) : mg "zip" = none := T.fr _ (by decide)
theorem T28.all (T : T28 P w K mg base) : mg "all" = none := T.fr _ (by decide)
theorem T28.min (T : T28 P w K mg base) : mg "min" = none := T.fr _ (by decide)
theorem T28.sorted (T : T28 P w K mg base) : mg "sorted" = none := T.fr _ (by decide)
/-- a def by its place, nothing let out -/
theorem T28.ok (T : T28 P w K mg base) (i : Nat) {x : Str} {st : Stmt} {N ps : List Str} {k : Nat} {sp : Sp} (hi : fnA[i]? = some (dN x st)) (S : FnScope N ps (defScope st)) (len : ∀ vs H Q E, sp vs H Q E → vs.length = ps.length)
    (hb : ∀ (kV doc pm : Value) (an : Option Addr) (cdv ct : Value) (us : List Value), us.length = ps.length → bindArgs (PySem.W.fnOf x x (defArgs st) (defBody st) (defScope st) .none kV doc pm an cdv ct) ⟨us, []⟩ = pure (ps.zip us))
    (hbody : ∀ (f : Addr) (cdv : Value) (A : Around) (outer : List Env) (s : Shared) (H : Hp) (vs : List V) (Q : VK) (E : XK), Room k (A.deeper (envOfC x (defScope st) s.heap.objs.size f cdv)) → sp vs H Q E →
      ∃ t, PSs (cxOf CX0 P w K mg base N x (defScope st) f cdv A outer s H E).nox (defBody st) t ∧ t { nx := fun _ H' => Q .non H', rt := Q } (L2.start N vs) H) : Ok P w K mg base CX0 x ps (k + 1) sp := by
  obtain ⟨⟨fd, F⟩, m⟩ := T.df i x st hi
  refine ⟨_, fd, F.ok S len (fun cdv A outer s H vs Q E hr h => ?_), F.bindsN hb, F.kp, m⟩
  obtain ⟨t, h1, h2⟩ := hbody _ cdv A outer s H vs Q E hr h
  exact ⟨t, PSs.nox h1, h2⟩
/-- a def that may raise -/
theorem T28.okX (T : T28 P w K mg base) (i : Nat) {x : Str} {st : Stmt} {N ps : List Str} {k : Nat} {sp : Sp} (hi : fnA[i]? = some (dN x st)) (S : FnScope N ps (defScope st)) (len : ∀ vs H Q E, sp vs H Q E → vs.length = ps.length)
    (hb : ∀ (kV doc pm : Value) (an : Option Addr) (cdv ct : Value) (us : List Value), us.length = ps.length → bindArgs (PySem.W.fnOf x x (defArgs st) (defBody st) (defScope st) .none kV doc pm an cdv ct) ⟨us, []⟩ = pure (ps.zip us))
    (hbody : ∀ (f : Addr) (cdv : Value) (A : Around) (outer : List Env) (s : Shared) (H : Hp) (vs : List V) (Q : VK) (E : XK), Room k (A.deeper (envOfC x (defScope st) s.heap.objs.size f cdv)) → sp vs H Q E →
      ∃ t, PSs (cxOf (L2.CX P w) P w K mg base N x (defScope st) f cdv A outer s H E) (defBody st) t ∧ t { nx := fun _ H' => Q .non H', rt := Q } (L2.start N vs) H) : Ok P w K mg base (L2.CX P w) x ps (k + 1) sp := by
  obtain ⟨⟨fd, F⟩, m⟩ := T.df i x st hi
  exact ⟨_, fd, F.ok S len (fun cdv A outer s H vs Q E hr h => hbody _ cdv A outer s H vs Q E hr h), F.bindsN hb, F.kp, m⟩
end
/-! ### texts -/
def firstIn (s : Str) (z : Str) : Bool := match s.cps.toList with
  | c :: _ => decide (c ∈ z.cps.toList)
  | [] => false
def spelledB (s : Str) : Bool := decide (s.length ≤ 8) && (Txt.isalnum s && Txt.isascii s)
def reachB (s : Str) : Bool := spelledB s && (Txt.islower s && firstIn s "abcdefghijklmnopqrstuvwxyz")
def nameB (s : Str) : Bool := reachB s && !(s == "not")
def varB (s : Str) : Bool := spelledB s && (firstIn s "ABCDEFGHIJKLMNOPQRSTUVWXYZ" && (decide (s.length = 1) || Txt.isdigit (cutS s (some 1) none)))
/-- all texts that stand in any object here -/
def SS : List Str := ["", "x", "a", "Xy", "X1y", "XX", "X", "not", "f", "=", "Ff", "b", "c", "g", "h", "p", "q", "r", "s", "Y", "Z12", "A", "late", "0", "Z", "U", "W1", "u", "v", "w"]
def okB (s : Str) : Bool := decide (s.length ≤ 100) && ((!Txt.isalnum s || !s.cps.toList.isEmpty) && (!reachB s || (hds.contains s || s == "not")))
theorem ok_ss : SS.all okB = true := by decide +kernel
theorem ss_len {s : Str} (h : s ∈ SS) : s.length ≤ 100 := by
  have k := List.all_eq_true.mp ok_ss s h
  unfold okB at k
  exact of_decide_eq_true (Bool.and_eq_true_iff.mp k).1
theorem ss_first {s : Str} (h : s ∈ SS) (k : Txt.isalnum s = true) : ∃ c cs, s.cps.toList = c :: cs := by
  have q := List.all_eq_true.mp ok_ss s h
  unfold okB at q
  have q2 := (Bool.and_eq_true_iff.mp (Bool.and_eq_true_iff.mp q).2).1
  rw [k] at q2
  cases e : s.cps.toList with
  | nil => rw [e] at q2; cases q2
  | cons c cs => exact ⟨c, cs, rfl⟩
theorem ss_name {s : Str} (h : s ∈ SS) (k : reachB s = true) : s ∈ hds ∨ s = "not" := by
  have q := List.all_eq_true.mp ok_ss s h
  unfold okB at q
  have q2 := (Bool.and_eq_true_iff.mp (Bool.and_eq_true_iff.mp q).2).2
  rw [k] at q2
  have q3 : (hds.contains s || s == "not") = true := q2
  rcases Bool.or_eq_true_iff.mp q3 with z | z
  · exact .inl (List.contains_iff_mem.mp z)
  · exact .inr (beq_iff_eq.mp z)
theorem not_hds : ("not" : Str) ∉ hds := by decide +kernel
end K28

set_option Elab.async false
set_option linter.all false
set_option maxRecDepth 100000
set_option maxHeartbeats 4000000
/-! Integers, lists, names, variables. -/
namespace K28
open PySem PySem.Spec PyProof.Rows L2 Evl
def O.isInteger : O → Bool
  | .int _ => true | _ => false
def O.isNumber : O → Bool
  | .int i => decide (i ≥ 0) | _ => false
def spB (f : O → Bool) : Sp := fun vs H Q _ => ∃ v o, vs = [v] ∧ OV H v o ∧ RetV (.bl (f o)) H Q
theorem spB_len {f : O → Bool} {vs : List V} {H : Hp} {Q : VK} {E : XK} (h : spB f vs H Q E) : vs.length = 1 := by
  obtain ⟨v, o, rfl, _⟩ := h
  rfl
theorem spv_B {f : O → Bool} {v : V} {o : O} {H : Hp} (h : OV H v o) : SpV (spB f) ([v] ++ []) H (.bl (f o)) := fun H1 e Q q E => ⟨v, o, rfl, h.ext e, q⟩
section
variable {P : Program} {w : World} {K : PySem.W.Frag} {mg : Str → Option Value} {base : Heap}
theorem sc_int : FnScope ["thing"] ["thing"] (defScope s_is_integer) := ⟨rfl, rfl, rfl, by decide +kernel, rfl, by decide +kernel, by decide +kernel⟩
theorem ok_is_integer (T : T28 P w K mg base) : Ok P w K mg base CX0 "is_integer" ["thing"] 1 (spB O.isInteger) := by
  refine T.ok 0 rfl sc_int (fun vs H Q E h => spB_len h) (fun kV doc pm an cdv ct us hl => match us, hl with | [_], _ => rfl) (fun f cdv A outer s H vs Q E hr h => ?_)
  obtain ⟨v, o, rfl, ho, k⟩ := h
  refine ⟨_, pss_one (ps_ret (pe_and (pe_isiB T.isi T.int PyProof.Rows.boot_int (pv 0)) (pe_one (pe_not (pe_isiB T.isi T.bool PyProof.Rows.boot_bool (pv 0)))))), ?_⟩
  refine s_ret (ev_is (ev_andV (ev_isInt (ev_var rfl) ho) fun _ => ev_notV (ev_isBool (ev_var rfl) ho)) ?_) k
  cases o <;> rfl
theorem sc_number : FnScope ["thing"] ["thing"] (defScope s_is_number) := ⟨rfl, rfl, rfl, by decide +kernel, rfl, by decide +kernel, by decide +kernel⟩
theorem ok_is_number (T : T28 P w K mg base) : Ok P w K mg base CX0 "is_number" ["thing"] 2 (spB O.isNumber) := by
  obtain ⟨fL, dL, GL, bL, kL, mL⟩ := (ok_is_integer T).ex
  refine T.ok 1 rfl sc_number (fun vs H Q E h => spB_len h) (fun kV doc pm an cdv ct us hl => match us, hl with | [_], _ => rfl) (fun f cdv A outer s H vs Q E hr h => ?_)
  obtain ⟨v, o, rfl, ho, k⟩ := h
  refine ⟨_, pss_one (ps_ret (pe_and (pe_call GL hr (by rfl) mL kL bL .nil pass0 (pa_cons (pv 0) pa_nil)) (pe_one (pe_cmpR op_ge (pv 0) pe_int (nomark _))))), ?_⟩
  cases o with
  | int i =>
    obtain rfl : v = .int i := ho
    exact s_ret (ev_is (ev_andV (a := true) (ev_call (ea_cons (ev_var rfl) ea_nil) (spv_B (o := .int i) rfl)) fun _ => ev_op (ev_var rfl) ev_c rv_I0) rfl) k
  | _ => exact s_ret (ev_is (ev_andV (a := false) (b := false) (ev_call (ea_cons (ev_var rfl) ea_nil) (spv_B ho)) fun z => nomatch z) rfl) k
theorem sc_list : FnScope ["thing"] ["thing"] (defScope s_is_list) := ⟨rfl, rfl, rfl, by decide +kernel, rfl, by decide +kernel, by decide +kernel⟩
theorem ok_is_list (T : T28 P w K mg base) : Ok P w K mg base CX0 "is_list" ["thing"] 1 (spB fun o => o.isLst || o.isTup) := by
  refine T.ok 2 rfl sc_list (fun vs H Q E h => spB_len h) (fun kV doc pm an cdv ct us hl => match us, hl with | [_], _ => rfl) (fun f cdv A outer s H vs Q E hr h => ?_)
  obtain ⟨v, o, rfl, ho, k⟩ := h
  refine ⟨_, pss_one (ps_ret (pe_isiLT T.isi T.list T.tuple (pv 0))), ?_⟩
  exact s_ret (ev_isSeq (ev_var rfl) ho) k
def spS (f : Str → Bool) : Sp := fun vs H Q _ => ∃ s, vs = [.str s] ∧ s ∈ SS ∧ RetV (.bl (f s)) H Q
theorem spS_len {f : Str → Bool} {vs : List V} {H : Hp} {Q : VK} {E : XK} (h : spS f vs H Q E) : vs.length = 1 := by
  obtain ⟨v, rfl, _⟩ := h
  rfl
theorem spv_S {f : Str → Bool} {s : Str} {H : Hp} (h : s ∈ SS) : SpV (spS f) ([.str s] ++ []) H (.bl (f s)) := fun H1 e Q q E => ⟨s, rfl, h, q⟩
theorem sc_spelled : FnScope ["thing"] ["thing"] (defScope s_is_spelled) := ⟨rfl, rfl, rfl, by decide +kernel, rfl, by decide +kernel, by decide +kernel⟩
theorem ok_is_spelled (T : T28 P w K mg base) : Ok P w K mg base CX0 "is_spelled" ["thing"] 1 (spS spelledB) := by
  obtain ⟨tl, mLo⟩ := T.longest
  refine T.ok 4 rfl sc_spelled (fun vs H Q E h => spS_len h) (fun kV doc pm an cdv ct us hl => match us, hl with | [_], _ => rfl) (fun f cdv A outer s H vs Q E hr h => ?_)
  obtain ⟨x, rfl, hx, k⟩ := h
  have hl := ss_len hx
  refine ⟨_, pss_one (ps_ret (pe_and (pe_isiB T.isi T.str PyProof.Rows.boot_str (pv 0)) (pe_and (pe_cmpR op_le (pe_callB call_len (by rfl) T.len PySem.boot_len (pa_cons (pv 0) pa_nil)) (pe_glob (v := .int 8) rfl mLo ⟨_, rfl⟩) (nomark _))
    (pe_and (pe_m0 PySem.F.slot_str_isalnum PySem.F.type_str_isalnum mt_isalnum (pv 0)) (pe_one (pe_m0 PySem.F.slot_str_isascii PySem.F.type_str_isascii mt_isascii (pv 0))))))), ?_⟩
  refine s_ret (ev_is (ev_andV (a := true) (ev_isStr (o := .str x) (ev_var rfl) rfl) fun _ => ev_andV (ev_op (ev_lenS (ev_var rfl) (by omega)) ev_c rv_I0) fun _ => ev_andV (ev_m0 (g := Txt.isalnum) (ev_var rfl)) fun _ => ev_m0 (g := Txt.isascii) (ev_var rfl)) ?_) k
  show V.bl (true && (decide (((x.length : Nat) : Int) ≤ 8) && (Txt.isalnum x && Txt.isascii x))) = V.bl (spelledB x)
  have e : decide (((x.length : Nat) : Int) ≤ 8) = decide (x.length ≤ 8) := by
    by_cases q : x.length ≤ 8
    · rw [decide_eq_true q, decide_eq_true (by omega)]
    · rw [decide_eq_false q, decide_eq_false (by omega)]
  rw [e, Bool.true_and]
  rfl
theorem spelled_alnum {s : Str} (h : spelledB s = true) : Txt.isalnum s = true := by
  unfold spelledB at h
  exact (Bool.and_eq_true_iff.mp (Bool.and_eq_true_iff.mp h).2).1
theorem firstIn_of {s z : Str} {c : Nat} {cs : List Nat} (h : s.cps.toList = c :: cs) : firstIn s z = decide (c ∈ z.cps.toList) := by
  unfold firstIn
  rw [h]
theorem at0 {s : Str} {c : Nat} {cs : List Nat} (h : s.cps.toList = c :: cs) : atI s.cps.toList 0 = some c := by
  rw [h]
  exact atI_nat (j := 0) rfl
theorem sc_name : FnScope ["thing"] ["thing"] (defScope s_is_name) := ⟨rfl, rfl, rfl, by decide +kernel, rfl, by decide +kernel, by decide +kernel⟩
theorem ok_is_name (T : T28 P w K mg base) : Ok P w K mg base CX0 "is_name" ["thing"] 2 (spS nameB) := by
  obtain ⟨tl, mLe⟩ := T.letters
  obtain ⟨es, nn, D⟩ := T.kd
  obtain ⟨fS, dS, GS, bS, kS, mS⟩ := (ok_is_spelled T).ex
  refine T.ok 5 rfl sc_name (fun vs H Q E h => spS_len h) (fun kV doc pm an cdv ct us hl => match us, hl with | [_], _ => rfl) (fun f cdv A outer s H vs Q E hr h => ?_)
  obtain ⟨x, rfl, hx, k⟩ := h
  have hl := ss_len hx
  refine ⟨_, pss_one (ps_ret (pe_and (pe_call GS hr (by rfl) mS kS bS .nil pass0 (pa_cons (pv 0) pa_nil)) (pe_and (pe_m0 PySem.F.slot_str_islower PySem.F.type_str_islower mt_islower (pv 0))
    (pe_and (pe_cmpR op_in_sign (pe_ix ix_str (pv 0) pe_int (fun _ _ => rfl)) (pe_glob (v := .str "abcdefghijklmnopqrstuvwxyz") rfl mLe ⟨_, rfl⟩) (by rfl))
    (pe_one (pe_cmpR (op_notIn_kd D) (pv 0) (pe_glob (v := .ref (He.ga K "KEPT")) rfl T.kept rfl) (by rfl))))))), ?_⟩
  cases hs : spelledB x with
  | false =>
    refine s_ret (ev_is (ev_andV (a := false) (b := false) (ev_is (ev_call (ea_cons (ev_var rfl) ea_nil) (spv_S hx)) (by rw [hs])) fun z => nomatch z) ?_) k
    unfold nameB reachB
    rw [hs]
    rfl
  | true =>
    obtain ⟨c, cs, hc⟩ := ss_first hx (spelled_alnum hs)
    cases hw : Txt.islower x && firstIn x "abcdefghijklmnopqrstuvwxyz" with
    | false =>
      refine s_ret (ev_is (ev_andV (a := true) (b := false) (ev_is (ev_call (ea_cons (ev_var rfl) ea_nil) (spv_S hx)) (by rw [hs])) fun _ => ev_is (ev_andV (a := Txt.islower x) (b := firstIn x "abcdefghijklmnopqrstuvwxyz" && false) (ev_m0 (g := Txt.islower) (ev_var rfl)) fun hlo =>
        ev_andV (b := false) (ev_is (ev_op (ev_op (ev_var rfl) ev_c (rv_ixS (by omega) (at0 hc))) ev_c rv_insign) (by rw [firstIn_of hc])) fun hf => by rw [hlo, hf] at hw; cases hw) (by rw [Bool.and_false, Bool.and_false])) ?_) k
      unfold nameB reachB
      rw [hs, hw]
      rfl
    | true =>
      obtain ⟨h1, h2⟩ := Bool.and_eq_true_iff.mp hw
      have hreach : reachB x = true := by
        unfold reachB
        rw [hs, hw]
        rfl
      refine s_ret (ev_is (ev_andV (a := true) (b := !(x == "not")) (ev_is (ev_call (ea_cons (ev_var rfl) ea_nil) (spv_S hx)) (by rw [hs])) fun _ => ev_is (ev_andV (a := true) (b := !(x == "not")) (ev_is (ev_m0 (g := Txt.islower) (ev_var rfl)) (by rw [h1])) fun _ =>
        ev_is (ev_andV (a := true) (b := !(x == "not")) (ev_is (ev_op (ev_op (ev_var rfl) ev_c (rv_ixS (by omega) (at0 hc))) ev_c rv_insign) (by rw [← firstIn_of hc, h2])) fun _ => ?_) (by rw [Bool.true_and])) (by rw [Bool.true_and])) ?_) k
      · rcases ss_name hx hreach with z | z
        · have hne : (x == "not") = false := by
            rw [beq_eq_false_iff_ne]
            intro q
            rw [q] at z
            exact not_hds z
          rw [hne]
          exact ev_op (ev_var rfl) ev_c (rv_notInKd (T.kn x z))
        · subst z
          obtain ⟨v, hv⟩ := T.knot
          exact ev_op (ev_var rfl) ev_c fun H1 _ _ q => ⟨"not", some v, rfl, rfl, hv, q H1 (Ex.refl H1)⟩
      · unfold nameB
        rw [hreach]
end
end K28

set_option Elab.async false
set_option linter.all false
set_option maxRecDepth 100000
set_option maxHeartbeats 4000000
/-! Variables; what has lists. -/
namespace K28
open PySem PySem.Spec PyProof.Rows L2 Evl
section
variable {P : Program} {w : World} {K : PySem.W.Frag} {mg : Str → Option Value} {base : Heap}
theorem ev_slS {σ : L2.St} {H : Hp} {te : TE} {x : Str} (h : Ev te σ H (.str x)) (hl : x.length ≤ 1000) : Ev (tSl rSlS te (tPart (tC (.int 1))) tNoPart) σ H (.str (cutS x (some 1) none)) := fun H1 e Q q =>
  h H1 e _ fun H2 e2 => ⟨1, rfl, x, rfl, sz_of (by omega), q H2 e2⟩
theorem sc_var : FnScope ["thing"] ["thing"] (defScope s_is_variable) := ⟨rfl, rfl, rfl, by decide +kernel, rfl, by decide +kernel, by decide +kernel⟩
theorem ok_is_variable (T : T28 P w K mg base) : Ok P w K mg base CX0 "is_variable" ["thing"] 2 (spS varB) := by
  obtain ⟨tl, mLe⟩ := T.capitals
  obtain ⟨fS, dS, GS, bS, kS, mS⟩ := (ok_is_spelled T).ex
  refine T.ok 6 rfl sc_var (fun vs H Q E h => spS_len h) (fun kV doc pm an cdv ct us hl => match us, hl with | [_], _ => rfl) (fun f cdv A outer s H vs Q E hr h => ?_)
  obtain ⟨x, rfl, hx, k⟩ := h
  have hl := ss_len hx
  refine ⟨_, pss_one (ps_ret (pe_and (pe_call GS hr (by rfl) mS kS bS .nil pass0 (pa_cons (pv 0) pa_nil))
    (pe_and (pe_cmpR op_in_sign (pe_ix ix_str (pv 0) pe_int (fun _ _ => rfl)) (pe_glob (v := .str "ABCDEFGHIJKLMNOPQRSTUVWXYZ") rfl mLe ⟨_, rfl⟩) (by rfl))
    (pe_one (pe_or (pe_cmpR op_eq (pe_callB call_len (by rfl) T.len PySem.boot_len (pa_cons (pv 0) pa_nil)) pe_int (nomark _))
      (pe_one (pe_m0 PySem.F.slot_str_isdigit PySem.F.type_str_isdigit mt_isdigit (pe_slice sl_str (pv 0) (po_some pe_int) po_none)))))))), ?_⟩
  cases hs : spelledB x with
  | false =>
    refine s_ret (ev_is (ev_andV (a := false) (b := false) (ev_is (ev_call (ea_cons (ev_var rfl) ea_nil) (spv_S hx)) (by rw [hs])) fun z => nomatch z) ?_) k
    unfold varB
    rw [hs]
    rfl
  | true =>
    obtain ⟨c, cs, hc⟩ := ss_first hx (spelled_alnum hs)
    refine s_ret (ev_is (ev_andV (a := true) (ev_is (ev_call (ea_cons (ev_var rfl) ea_nil) (spv_S hx)) (by rw [hs])) fun _ => ev_andV (ev_op (ev_op (ev_var rfl) ev_c (rv_ixS (by omega) (at0 hc))) ev_c rv_insign) fun _ =>
      ev_orV (ev_op (ev_lenS (ev_var rfl) (by omega)) ev_c (rv_eq rfl)) fun _ => ev_m0 (g := Txt.isdigit) (ev_slS (ev_var rfl) (by omega))) ?_) k
    unfold varB
    rw [hs, firstIn_of hc]
    have e : decide (V.int ((x.length : Nat) : Int) = V.int 1) = decide (x.length = 1) := by
      by_cases q : x.length = 1
      · rw [decide_eq_true q, decide_eq_true (by rw [q]; rfl)]
      · rw [decide_eq_false q, decide_eq_false (fun z => q (by have := V.int.inj z; omega))]
    rw [e]
/-! ### has_lists -/
theorem hasLs_app : ∀ (xs ys : List O), O.hasLs (xs ++ ys) = (O.hasLs xs || O.hasLs ys)
  | [], ys => by simp [O.hasLs]
  | x :: xs, ys => by
    show (x.hasL || O.hasLs (xs ++ ys)) = (x.hasL || O.hasLs xs || O.hasLs ys)
    rw [hasLs_app xs ys, Bool.or_assoc]
def spHL : Sp := fun vs H Q _ => ∃ v o, vs = [v] ∧ OV H v o ∧ o.sz ≤ 9000 ∧ RetV (.bl o.hasL) H Q
theorem sc_hl : FnScope ["thing", "work", "part"] ["thing"] (defScope s_has_lists) := ⟨rfl, rfl, rfl, by decide +kernel, rfl, by decide +kernel, by decide +kernel⟩
theorem ok_has_lists (T : T28 P w K mg base) : Ok P w K mg base CX0 "has_lists" ["thing"] 1 spHL := by
  refine T.ok 8 rfl sc_hl (fun vs H Q E h => ?_) (fun kV doc pm an cdv ct us hl => match us, hl with | [_], _ => rfl) (fun f cdv A outer s H vs Q E hr h => ?_)
  · obtain ⟨v, z, rfl, _⟩ := h
    rfl
  · obtain ⟨v, z, rfl, hw, hz, k⟩ := h
    refine ⟨_, pss_cons (ps_set (i := 1) sc_hl.nd rfl (Or.inl rfl) (pe_lst (pa_cons (pv 0) pa_nil)))
      (pss_cons (ps_while PassesOwn.never (pt_truth (pv 1) (by intro _; rfl))
        (pss_cons (ps_set (i := 2) sc_hl.nd rfl (Or.inl rfl) (pe_bm0 PySem.F.plainAttrs_list PySem.F.slot_list_pop PySem.F.type_list_pop mt_pop (pv 1)))
        (pss_cons (ps_if (pt_val (pe_isiB T.isi T.list PyProof.Rows.boot_list (pv 2))) (pss_one (ps_ret pe_bl)) pss_nil)
        (pss_one (ps_if (pt_val (pe_isiB T.isi T.tuple PyProof.Rows.boot_tuple (pv 2))) (pss_one (ps_expr (pe_bm PySem.F.plainAttrs_list PySem.F.slot_list_extend PySem.F.type_list_extend mt_extT (pv 1) (pa_cons (pv 2) pa_nil)))) pss_nil)))))
      (pss_one (ps_ret pe_bl))), ?_⟩
    refine q_asgL (el_lst (ea_cons (ev_var rfl) ea_nil) (by show 1 ≤ 100000; decide)) fun p H1 hp e1 h1 => ?_
    refine q_while (fun m σ' H' => ∃ (xs : List V) (ts : List O) (o : Option V), σ' = [some v, some (.ref p), o] ∧ Ex H H' ∧ H' p = some (.lst xs) ∧ OVs H xs ts ∧ m = O.szs ts ∧ m ≤ 9000 ∧ O.hasLs ts = z.hasL) z.sz
      ⟨[v], [z], none, rfl, e1, h1, .cons hw .nil, by simp [O.szs], hz, by simp [O.hasLs]⟩ ?_
    rintro m σ' H' ⟨xs, ts, o, rfl, e2, h2, tv, hm, hm2, hres⟩
    refine ⟨!xs.isEmpty, et_truL (ev_var rfl) (SqL.of h2), fun hb H3 e3 => ?_, fun hb H3 e3 => ?_⟩
    · rcases List.eq_nil_or_concat ts with ht | ⟨ts', t, ht⟩
      · subst ht
        rw [show xs = [] from tv] at hb
        exact absurd hb (by decide)
      rw [List.concat_eq_append] at ht
      subst ht
      obtain ⟨us, x, rfl, tv1, tvx⟩ := OVs.snoc tv
      have hp' : H p = none := hp
      have hsum := O.szs_app ts' [t]
      have hs1 : O.szs [t] = t.sz := by simp [O.szs]
      have hlen := O.len_szs ts'
      have hle := tv1.length
      rw [hasLs_app, show O.hasLs [t] = t.hasL by simp [O.hasLs]] at hres
      refine ⟨fun σ2 H2 => ∃ m', m' < m ∧ ∃ (xs : List V) (ts : List O) (o : Option V), σ2 = [some v, some (.ref p), o] ∧ Ex H H2 ∧ H2 p = some (.lst xs) ∧ OVs H xs ts ∧ m' = O.szs ts ∧ m' ≤ 9000 ∧ O.hasLs ts = z.hasL, fun σ2 H2 z => z, ?_⟩
      refine q_pop (e3 _ _ h2) (ev_var rfl) fun H4 e4 => ?_
      have e5 : Ex H (upd H4 p (.lst us)) := Ex.mut ((e2.trans e3).trans e4) hp'
      have tvx5 := tvx.ext e5
      have tp := t.sz_pos
      refine q_when (b := t.isLst) (et_B (ev_isLst (ev_var rfl) tvx5)) (fun hL H5 e6 => ?_) fun hL H5 e6 => ?_
      · cases t with
        | lst ys =>
          refine s_ret (ev_is ev_c ?_) fun H6 e7 => k H6 ((e5.trans e6).trans e7)
          rw [← hres, show (O.lst ys).hasL = true from rfl, Bool.or_true]
        | _ => cases hL
      · refine s_when (b := t.isTup) (et_B (ev_isTup (ev_var rfl) (tvx5.ext e6))) (fun hT H6 e7 => ?_) fun hT H6 e7 => ?_
        · cases t with
          | tup ys =>
            obtain ⟨r, as, rfl, hr', ha⟩ := tvx
            have e8 := e6.trans e7
            have hal := ha.length
            have hly := O.len_szs ys
            have hty : (O.tup ys).sz = O.szs ys + 1 := rfl
            refine s_extT (e8 _ _ upd_same) (ev_var rfl) (ev_var rfl) (st_of ((e5.trans e8) _ _ hr')) (by omega) fun H7 e9 => ?_
            exact ⟨O.szs (ts' ++ ys), by rw [O.szs_app]; omega, us ++ as, ts' ++ ys, _, rfl, Ex.mut ((e5.trans e8).trans e9) hp', upd_same, tv1.append ha, rfl, by rw [O.szs_app]; omega, by rw [hasLs_app]; exact hres⟩
          | _ => cases hT
        · have hno : t.hasL = false := by cases t with
            | lst ys => cases hL
            | tup ys => cases hT
            | _ => rfl
          rw [hno, Bool.or_false] at hres
          exact ⟨O.szs ts', by omega, us, ts', _, rfl, (e5.trans e6).trans e7, e7 _ _ (e6 _ _ upd_same), tv1, rfl, by omega, hres⟩
    · have hx : xs = [] := by
        cases xs with
        | nil => rfl
        | cons _ _ => cases hb
      have ht : ts = [] := by
        have := tv.length
        rw [hx] at this
        exact List.length_eq_zero_iff.mp this.symm
      rw [ht] at hres
      refine s_ret (ev_is ev_c ?_) fun H4 e4 => k H4 ((e2.trans e3).trans e4)
      rw [← hres]
      rfl
end
end K28

set_option Elab.async false
set_option linter.all false
set_option maxRecDepth 100000
set_option maxHeartbeats 4000000
/-! frozen: lists made tuples. -/
namespace K28
open PySem PySem.Spec PyProof.Rows L2 Evl
mutual
def O.nod : O → Bool
  | .non => true | .bl _ => true | .int _ => true | .str _ => true | .dct => false | .lst xs => O.nods xs | .tup xs => O.nods xs
def O.nods : List O → Bool
  | [] => true
  | x :: xs => x.nod && O.nods xs
end
section
variable {H G : Hp}
mutual
theorem OV.tx (e : Tx H G) : ∀ {o : O} {v : V}, o.hasL = false → o.nod = true → OV H v o → OV G v o
  | .non, _, _, _, h => h
  | .bl _, _, _, _, h => h
  | .int _, _, _, _, h => h
  | .str _, _, _, _, h => h
  | .dct, _, _, h, _ => nomatch h
  | .lst _, _, h, _, _ => nomatch h
  | .tup _, _, h1, h2, ⟨a, vs, e1, e2, e3⟩ => ⟨a, vs, e1, e _ _ e2, OVs.tx e h1 h2 e3⟩
theorem OVs.tx (e : Tx H G) : ∀ {os : List O} {vs : List V}, O.hasLs os = false → O.nods os = true → OVs H vs os → OVs G vs os
  | [], _, _, _, h => h
  | _ :: _, _, h1, h2, ⟨v, us, e1, e2, e3⟩ => by
    obtain ⟨a, b⟩ := Bool.or_eq_false_iff.mp h1
    obtain ⟨c, d⟩ := Bool.and_eq_true_iff.mp h2
    exact ⟨v, us, e1, OV.tx e a c e2, OVs.tx e b d e3⟩
end
end
mutual
theorem strip_id : ∀ {o : O}, o.hasL = false → o.strip = o
  | .non, _ => rfl | .bl _, _ => rfl | .int _, _ => rfl | .str _, _ => rfl | .dct, _ => rfl
  | .lst _, h => nomatch h
  | .tup xs, h => congrArg O.tup (strips_id (os := xs) h)
theorem strips_id : ∀ {os : List O}, O.hasLs os = false → O.strips os = os
  | [], _ => rfl
  | x :: xs, h => by
    obtain ⟨a, b⟩ := Bool.or_eq_false_iff.mp h
    show x.strip :: O.strips xs = x :: xs
    rw [strip_id a, strips_id b]
end
mutual
theorem strip_noL : ∀ o : O, o.strip.hasL = false
  | .non => rfl | .bl _ => rfl | .int _ => rfl | .str _ => rfl | .dct => rfl
  | .lst xs => strips_noL xs
  | .tup xs => strips_noL xs
theorem strips_noL : ∀ os : List O, O.hasLs (O.strips os) = false
  | [] => rfl
  | x :: xs => by
    show (x.strip.hasL || O.hasLs (O.strips xs)) = false
    rw [strip_noL x, strips_noL xs]
    rfl
end
mutual
theorem strip_nod : ∀ o : O, o.strip.nod = o.nod
  | .non => rfl | .bl _ => rfl | .int _ => rfl | .str _ => rfl | .dct => rfl
  | .lst xs => strips_nod xs
  | .tup xs => strips_nod xs
theorem strips_nod : ∀ os : List O, O.nods (O.strips os) = O.nods os
  | [] => rfl
  | x :: xs => by
    show (x.strip.nod && O.nods (O.strips xs)) = (x.nod && O.nods xs)
    rw [strip_nod x, strips_nod xs]
end
theorem strips_eq : ∀ os : List O, O.strips os = os.map O.strip
  | [] => rfl
  | x :: xs => by
    show x.strip :: O.strips xs = _
    rw [strips_eq xs]
    rfl
theorem seq_strip (b : Bool) (ws : List O) : (O.seq b ws).strip = .tup (O.strips ws) := by cases b <;> rfl
theorem seq_nod (b : Bool) (ws : List O) : (O.seq b ws).nod = O.nods ws := by cases b <;> rfl
theorem nods_get : ∀ {os : List O} {i : Nat} {o : O}, O.nods os = true → os[i]? = some o → o.nod = true
  | [], _, _, _, h => by simp at h
  | x :: xs, 0, o, h, e => by
    obtain rfl : x = o := by simpa using e
    exact (Bool.and_eq_true_iff.mp h).1
  | _ :: xs, i + 1, o, h, e => nods_get (i := i) (Bool.and_eq_true_iff.mp h).2 (by simpa using e)
theorem nods_take : ∀ {os : List O} (n : Nat), O.nods os = true → O.nods (os.take n) = true
  | [], n, h => by simp [O.nods]
  | _ :: _, 0, _ => rfl
  | x :: xs, n + 1, h => by
    obtain ⟨a, b⟩ := Bool.and_eq_true_iff.mp h
    show (x.nod && O.nods (xs.take n)) = true
    rw [a, nods_take n b]
    rfl
theorem szs_drop : ∀ {os : List O} {n : Nat} {o : O}, os[n]? = some o → O.szs (os.drop n) = o.sz + O.szs (os.drop (n + 1))
  | [], _, _, e => by simp at e
  | x :: xs, 0, o, e => by
    obtain rfl : x = o := by simpa using e
    rfl
  | _ :: xs, n + 1, o, e => szs_drop (os := xs) (n := n) (by simpa using e)
theorem take_snoc {α : Type} {xs : List α} {n : Nat} {x : α} (h : xs[n]? = some x) : xs.take (n + 1) = xs.take n ++ [x] := by
  rw [List.take_succ, h]
  rfl
theorem hasL_seq {o : O} (h : o.hasL = true) : ∃ b ws, o = O.seq b ws := by
  cases o with
  | lst ws => exact ⟨true, ws, rfl⟩
  | tup ws => exact ⟨false, ws, rfl⟩
  | _ => cases h
/-- one thing that is begun: what it is, the tuple that holds it and its list, what is done -/
structure Fr where
  wv : V
  b : Bool
  ws : List O
  t : Addr
  d : Addr
  dv : List V
  n : Nat
/-- what holds of one: H0 at the def's begin -/
structure FrOk (H0 H : Hp) (f : Fr) : Prop where
  wh : OV H0 f.wv (O.seq f.b f.ws)
  tp : H f.t = some (.tup [f.wv, .ref f.d])
  dn : H f.d = some (.lst f.dv)
  new : H0 f.d = none
  ov : OVs H f.dv (O.strips (f.ws.take f.n))
  le : f.n ≤ f.ws.length
  nod : O.nods f.ws = true
  sz : O.szs f.ws ≤ 9000
theorem FrOk.len {H0 H : Hp} {f : Fr} (h : FrOk H0 H f) : f.dv.length = f.n := by
  rw [h.ov.length, strips_eq, List.length_map, List.length_take]
  exact Nat.min_eq_left h.le
/-- it stays if its list stays, and all tuples -/
theorem FrOk.keep {H0 H G : Hp} {f : Fr} (h : FrOk H0 H f) (t : Tx H G) (d : G f.d = H f.d) : FrOk H0 G f :=
  ⟨h.wh, t _ _ h.tp, d.trans h.dn, h.new, h.ov.tx t (strips_noL _) (by rw [strips_nod]; exact nods_take _ h.nod), h.le, h.nod, h.sz⟩
/-- from the top: each is the next thing of the one below -/
def Chain : List Fr → O → Prop
  | [], _ => False
  | [f], o => o = O.seq f.b f.ws
  | f :: g :: r, o => g.ws[g.n]? = some (O.seq f.b f.ws) ∧ Chain (g :: r) o
def lowM : List Fr → Nat
  | [] => 0
  | f :: r => 3 * O.szs (f.ws.drop (f.n + 1)) + 1 + lowM r
def topM : List Fr → Nat
  | [] => 0
  | f :: r => 3 * O.szs (f.ws.drop f.n) + 1 + lowM r
section
variable {K : PySem.W.Frag} {σ : L2.St} {H G : Hp} {te ta tb : TE} {v : V} {D : Ends} {tz : TS}
abbrev rTupOf (K : PySem.W.Frag) : List V → Hp → VK → Prop := fun xs H Q => ∃ p ys, xs = [.ref p] ∧ ((SqL K H p ys ∧ ∀ l, H l = none → Q (.ref l) (upd H l (.tup ys))) ∨ (SqT K H p ys ∧ Q (.ref p) H))
/-- tuple(xs), xs a list -/
theorem eu_tupL {p : Addr} {xs : List V} (h : Ev te σ H (.ref p)) (hs : SqL K H p xs) : EvU (tCB (rTupOf K) (tCons te tNil)) σ H xs := fun H1 e Q q =>
  h H1 e _ fun H2 e2 => ⟨p, xs, rfl, .inl ⟨ex_l (e.trans e2) hs, fun l hl => q l _ (fresh_back e2 hl) (e2.trans (Ex.new hl)) upd_same⟩⟩
/-- (e, []) -/
def EvPN (te : TE) (σ : L2.St) (H : Hp) (v : V) : Prop := ∀ H1, Ex H H1 → ∀ Q : VK, (∀ t d H2, H1 t = none → H1 d = none → t ≠ d → Ex H1 H2 → H2 t = some (.tup [v, .ref d]) → H2 d = some (.lst []) → Q (.ref t) H2) → te σ H1 Q
theorem epn {te : TE} (h : Ev te σ H v) : EvPN (tTup (tCons te (tCons (tLst tNil) tNil))) σ H v := fun H1 e Q q =>
  h H1 e _ fun H2 e2 => ⟨Nat.zero_le _, fun d hd => ⟨by show 2 ≤ sizeLine; decide, fun t ht => by
    have e3 : Ex H2 (upd H2 d (.lst [])) := Ex.new hd
    have td : t ≠ d := fun z => by
      rw [z, upd_same] at ht
      cases ht
    exact q t d _ (fresh_back (e2.trans e3) ht) (fresh_back e2 hd) td ((e2.trans e3).trans (Ex.new ht)) upd_same (by rw [upd_ne td.symm, upd_same])⟩⟩
theorem ev_top {B : Addr} {xs : List V} {y : V} {i : Nat} (hs : σ[i]? = some (some (.ref B))) (hB : H B = some (.lst (xs ++ [y]))) : Ev (tOp (rIxL K) (tVar i) (tUn (rU fun i => .int (-i)) (tC (.int 1)))) σ H y :=
  ev_op (ev_var hs) (ev_un ev_c ru_neg) (rv_ixL (sq_of hB) (atI_last xs y))
end
section
variable {P : Program} {w : World} {K : PySem.W.Frag} {mg : Str → Option Value} {base : Heap}
def spFz : Sp := fun vs H Q _ => ∃ v o, vs = [v] ∧ OV H v o ∧ o.sz ≤ 9000 ∧ o.nod = true ∧ ∀ (u : V) (G : Hp), Ex H G → OV G u o.strip → Q u G
theorem sc_fz : FnScope ["thing", "begun", "whole", "done"] ["thing"] (defScope s_frozen) := ⟨rfl, rfl, rfl, by decide +kernel, rfl, by decide +kernel, by decide +kernel⟩
theorem spv_hl {v : V} {o : O} {H : Hp} (h : OV H v o) (hz : o.sz ≤ 9000) : SpV spHL ([v] ++ []) H (.bl o.hasL) := fun H1 e Q q E => ⟨v, o, rfl, h.ext e, hz, q⟩
def refs (fs : List Fr) : List V := fs.reverse.map fun f => V.ref f.t
theorem refs_cons (f : Fr) (fs : List Fr) : refs (f :: fs) = refs fs ++ [V.ref f.t] := by
  unfold refs
  rw [List.reverse_cons, List.map_append]
  rfl
structure Inv5 (H0 H : Hp) (B : Addr) (o : O) (fs : List Fr) : Prop where
  ex : Ex H0 H
  nB : H0 B = none
  hB : H B = some (.lst (refs fs))
  ok : ∀ f ∈ fs, FrOk H0 H f
  ds : (B :: fs.map (·.d)).Nodup
  ch : Chain fs o
  len : fs.length + topM fs ≤ 90000
end
end K28

set_option Elab.async false
set_option linter.all false
set_option maxRecDepth 100000
set_option maxHeartbeats 4000000
/-! frozen, its loop. -/
namespace K28
open PySem PySem.Spec PyProof.Rows L2 Evl
section
variable {H0 H G : Hp} {B : Addr} {o : O} {f g : Fr} {r : List Fr}
theorem Inv5.ext (I : Inv5 H0 H B o r) (e : Ex H G) : Inv5 H0 G B o r :=
  ⟨I.ex.trans e, I.nB, e _ _ I.hB, fun f hf => (I.ok f hf).keep (Tx.of e) (by rw [(I.ok f hf).dn]; exact e _ _ (I.ok f hf).dn), I.ds, I.ch, I.len⟩
theorem Inv5.dB (I : Inv5 H0 H B o r) {f : Fr} (h : f ∈ r) : f.d ≠ B := fun z => (List.nodup_cons.mp I.ds).1 (by rw [← z]; exact List.mem_map.mpr ⟨f, h, rfl⟩)
theorem Inv5.dd (I : Inv5 H0 H B o (f :: r)) {g : Fr} (h : g ∈ r) : g.d ≠ f.d := fun z => by
  have q := (List.nodup_cons.mp (List.nodup_cons.mp I.ds).2).1
  exact q (List.mem_map.mpr ⟨g, h, z⟩)
theorem low_le : ∀ (fs : List Fr), lowM fs ≤ topM fs
  | [] => Nat.le_refl _
  | f :: r => by
    have : O.szs (f.ws.drop (f.n + 1)) ≤ O.szs (f.ws.drop f.n) := by
      cases e : f.ws[f.n]? with
      | none =>
        have h1 : f.ws.length ≤ f.n := List.getElem?_eq_none_iff.mp e
        rw [List.drop_eq_nil_of_le h1, List.drop_eq_nil_of_le (by omega)]
        exact Nat.le_refl _
      | some x => rw [szs_drop e]; omega
    show 3 * O.szs (f.ws.drop (f.n + 1)) + 1 + lowM r ≤ 3 * O.szs (f.ws.drop f.n) + 1 + lowM r
    omega
/-- one thing more is done -/
theorem Inv5.done (I : Inv5 H0 H B o (f :: r)) {x : O} {y : V} (hx : f.ws[f.n]? = some x) (hy : OV H y x.strip) :
    Inv5 H0 (upd H f.d (.lst (f.dv ++ [y]))) B o ({ f with dv := f.dv ++ [y], n := f.n + 1 } :: r) ∧ topM ({ f with dv := f.dv ++ [y], n := f.n + 1 } :: r) < topM (f :: r) := by
  have F := I.ok f (List.mem_cons_self ..)
  have t : Tx H (upd H f.d (.lst (f.dv ++ [y]))) := Tx.lst F.dn
  have hn : f.n < f.ws.length := (List.getElem?_eq_some_iff.mp hx).1
  have hs := szs_drop hx
  have hp := x.sz_pos
  have hm : topM ({ f with dv := f.dv ++ [y], n := f.n + 1 } :: r) + 3 * x.sz = topM (f :: r) := by
    show 3 * O.szs (f.ws.drop (f.n + 1)) + 1 + lowM r + 3 * x.sz = 3 * O.szs (f.ws.drop f.n) + 1 + lowM r
    rw [hs]
    omega
  refine ⟨⟨Ex.mut I.ex F.new, I.nB, ?_, ?_, I.ds, ?_, ?_⟩, by omega⟩
  · rw [upd_ne (I.dB (List.mem_cons_self ..)).symm, refs_cons]
    exact I.hB.trans (by rw [refs_cons])
  · intro g hg
    rcases List.mem_cons.mp hg with rfl | hg
    · refine ⟨F.wh, t _ _ F.tp, upd_same, F.new, ?_, hn, F.nod, F.sz⟩
      show OVs _ (f.dv ++ [y]) (O.strips (f.ws.take (f.n + 1)))
      rw [take_snoc hx, strips_eq, List.map_append, ← strips_eq]
      refine OVs.append (F.ov.tx t (strips_noL _) (by rw [strips_nod]; exact nods_take _ F.nod)) (.cons (hy.tx t (strip_noL _) (by rw [strip_nod]; exact nods_get F.nod hx)) .nil)
    · exact (I.ok g (List.mem_cons_of_mem _ hg)).keep t (upd_ne (I.dd hg))
  · cases r with
    | nil => exact I.ch
    | cons g r => exact I.ch
  · have := I.len
    show r.length + 1 + _ ≤ 90000
    have q : (f :: r).length = r.length + 1 := rfl
    omega
/-- one begins -/
theorem Inv5.push (I : Inv5 H0 H B o (f :: r)) {b : Bool} {ws : List O} {wv : V} {t d : Addr} (hx : f.ws[f.n]? = some (O.seq b ws)) (hw : OV H0 wv (O.seq b ws)) (ht : G t = some (.tup [wv, .ref d])) (hd : G d = some (.lst [])) (nd : H d = none) (e : Ex H G) :
    Inv5 H0 (upd G B (.lst (refs (f :: r) ++ [.ref t]))) B o (⟨wv, b, ws, t, d, [], 0⟩ :: f :: r) ∧ topM (⟨wv, b, ws, t, d, [], 0⟩ :: f :: r) < topM (f :: r) := by
  have F := I.ok f (List.mem_cons_self ..)
  have I1 := I.ext e
  have tB : Tx G (upd G B (.lst (refs (f :: r) ++ [.ref t]))) := Tx.lst I1.hB
  have hs := szs_drop hx
  rw [O.seq_sz] at hs
  have hdB : d ≠ B := fun z => by
    rw [z, I.hB] at nd
    cases nd
  have hm : topM (⟨wv, b, ws, t, d, [], 0⟩ :: f :: r) + 2 = topM (f :: r) := by
    show 3 * O.szs (ws.drop 0) + 1 + (3 * O.szs (f.ws.drop (f.n + 1)) + 1 + lowM r) + 2 = 3 * O.szs (f.ws.drop f.n) + 1 + lowM r
    rw [hs, List.drop_zero]
    omega
  have fresh0 : H0 d = none := fresh_back I.ex nd
  have hwz : O.szs ws + 1 ≤ 9000 := by
    have q : O.szs f.ws = O.szs (f.ws.take f.n) + O.szs (f.ws.drop f.n) := by rw [← O.szs_app, List.take_append_drop]
    have := F.sz
    omega
  refine ⟨⟨Ex.mut I1.ex I.nB, I.nB, ?_, ?_, ?_, ⟨hx, I.ch⟩, ?_⟩, by omega⟩
  · rw [upd_same, refs_cons _ (f :: r)]
  · intro g hg
    rcases List.mem_cons.mp hg with rfl | hg
    · refine ⟨hw, tB _ _ ht, by rw [upd_ne hdB]; exact hd, fresh0, .nil, Nat.zero_le _, ?_, by show O.szs ws ≤ 9000; omega⟩
      have := nods_get F.nod hx
      rw [seq_nod] at this
      exact this
    · exact (I1.ok g hg).keep tB (upd_ne (I.dB hg))
  · refine List.nodup_cons.mpr ⟨fun z => ?_, List.nodup_cons.mpr ⟨fun z => ?_, (List.nodup_cons.mp I.ds).2⟩⟩
    · rcases List.mem_cons.mp z with z | z
      · exact hdB z.symm
      · exact (List.nodup_cons.mp I.ds).1 z
    · obtain ⟨g, hg, e2⟩ := List.mem_map.mp z
      have := (I.ok g hg).dn
      rw [e2, nd] at this
      cases this
  · have := I.len
    show r.length + 1 + 1 + _ ≤ 90000
    have q : (f :: r).length = r.length + 1 := rfl
    omega
/-- the last one is done: it is what the one below waits for -/
theorem Inv5.pop (I : Inv5 H0 H B o (f :: g :: r)) (hn : f.n = f.ws.length) {u : Addr} (e1 : Ex (upd H B (.lst (refs (g :: r)))) G) (hu : G u = some (.tup f.dv)) :
    Inv5 H0 (upd G g.d (.lst (g.dv ++ [.ref u]))) B o ({ g with dv := g.dv ++ [.ref u], n := g.n + 1 } :: r) ∧ topM ({ g with dv := g.dv ++ [.ref u], n := g.n + 1 } :: r) < topM (f :: g :: r) := by
  have F := I.ok f (List.mem_cons_self ..)
  have tB : Tx H (upd H B (.lst (refs (g :: r)))) := Tx.lst I.hB
  have hx : g.ws[g.n]? = some (O.seq f.b f.ws) := I.ch.1
  have hl : lowM (g :: r) ≤ topM (g :: r) := low_le _
  have hm1 : topM (f :: g :: r) = 1 + lowM (g :: r) := by
    show 3 * O.szs (f.ws.drop f.n) + 1 + lowM (g :: r) = _
    rw [hn, List.drop_eq_nil_of_le (Nat.le_refl _)]
    rfl
  have hs := szs_drop hx
  rw [O.seq_sz] at hs
  have hm2 : topM (g :: r) = lowM (g :: r) + 3 * (O.szs f.ws + 1) := by
    show 3 * O.szs (g.ws.drop g.n) + 1 + lowM r = 3 * O.szs (g.ws.drop (g.n + 1)) + 1 + lowM r + _
    rw [hs]
    omega
  have I1 : Inv5 H0 (upd H B (.lst (refs (g :: r)))) B o (g :: r) ∨ True := .inr trivial
  -- below, without the bound
  have Gg := I.ok g (by simp)
  have tG : Tx H G := tB.trans (Tx.of e1)
  have ovU : OV G (.ref u) (O.seq f.b f.ws).strip := by
    rw [seq_strip]
    refine ⟨u, f.dv, rfl, hu, ?_⟩
    have := F.ov
    rw [hn, List.take_of_length_le (Nat.le_refl _)] at this
    exact this.tx tG (strips_noL _) (by rw [strips_nod]; exact F.nod)
  have keepD : ∀ h ∈ g :: r, G h.d = some (.lst h.dv) := fun h hh => e1 _ _ (by rw [upd_ne (I.dB (List.mem_cons_of_mem _ hh))]; exact (I.ok h (List.mem_cons_of_mem _ hh)).dn)
  have t : Tx G (upd G g.d (.lst (g.dv ++ [.ref u]))) := Tx.lst (keepD g (List.mem_cons_self ..))
  have hgn : g.n < g.ws.length := (List.getElem?_eq_some_iff.mp hx).1
  have ds2 : (B :: (g :: r).map (·.d)).Nodup := by
    have h1 := List.nodup_cons.mp I.ds
    exact List.nodup_cons.mpr ⟨fun z => h1.1 (List.mem_cons_of_mem _ z), (List.nodup_cons.mp h1.2).2⟩
  have dgr : ∀ h ∈ r, h.d ≠ g.d := fun h hh z => (List.nodup_cons.mp (List.nodup_cons.mp ds2).2).1 (List.mem_map.mpr ⟨h, hh, z⟩)
  have hm3 : topM ({ g with dv := g.dv ++ [.ref u], n := g.n + 1 } :: r) = lowM (g :: r) := rfl
  refine ⟨⟨Ex.mut ((Ex.mut I.ex I.nB).trans e1) Gg.new, I.nB, ?_, ?_, ds2, ?_, ?_⟩, by omega⟩
  · rw [upd_ne (I.dB (by simp)).symm, refs_cons]
    exact (e1 _ _ upd_same).trans (by rw [refs_cons])
  · intro h hh
    rcases List.mem_cons.mp hh with rfl | hh
    · refine ⟨Gg.wh, t _ _ (tG _ _ Gg.tp), upd_same, Gg.new, ?_, hgn, Gg.nod, Gg.sz⟩
      show OVs _ (g.dv ++ [.ref u]) (O.strips (g.ws.take (g.n + 1)))
      rw [take_snoc hx, strips_eq, List.map_append, ← strips_eq]
      refine OVs.append (Gg.ov.tx (tG.trans t) (strips_noL _) (by rw [strips_nod]; exact nods_take _ Gg.nod)) (.cons (ovU.tx t (strip_noL _) (by rw [strip_nod]; exact nods_get Gg.nod hx)) .nil)
    · have hk := I.ok h (by simp [hh])
      refine hk.keep (tG.trans t) ?_
      rw [upd_ne (dgr h hh), keepD h (List.mem_cons_of_mem _ hh), hk.dn]
  · cases r with
    | nil => exact I.ch.2
    | cons h r => exact I.ch.2
  · have := I.len
    have q : (f :: g :: r).length = r.length + 2 := rfl
    show r.length + 1 + _ ≤ 90000
    omega
end
section
variable {K : PySem.W.Frag} {σ : L2.St} {H G : Hp} {te ta tb : TE} {v : V} {D : Ends} {tz : TS}
/-- xs.pop() -/
theorem q_popD {l : Addr} {xs : List V} {y : V} (hl : H l = some (.lst (xs ++ [y]))) (ha : Ev ta σ H (.ref l)) (k : ∀ H1, Ex H H1 → tz D σ (upd H1 l (.lst xs))) : tSeq (tDrop (tBM0 K "list" rPop ta)) tz D σ H :=
  ha H (Ex.refl H) _ fun H1 e1 => ⟨.inl ⟨rfl, _, sq_of (e1 l _ hl)⟩, l, _, y, rfl, rfl, e1 l _ hl, last_at, by
    rw [List.dropLast_concat]
    exact k H1 e1⟩
/-- xs = [(e, [])] -/
theorem q_asgPN {i : Nat} (h : EvPN te σ H v) (k : ∀ t d B H2, H t = none → H d = none → Ex H H2 → H2 t = some (.tup [v, .ref d]) → H2 d = some (.lst []) → H2 B = none → tz D (σ.set i (some (.ref B))) (upd H2 B (.lst [.ref t]))) :
    tSeq (tAsg (tLst (tCons te tNil)) (gName i)) tz D σ H := h H (Ex.refl H) _ fun t d H2 nt nd td e2 ht hd => ⟨by show 1 ≤ sizeLine; decide, fun B hB => k t d B H2 nt nd e2 ht hd hB⟩
/-- x, y = t -/
theorem q_unp {i j : Nat} {t : Addr} {x y : V} (h : Ev te σ H (.ref t)) (ht : H t = some (.tup [x, y])) (k : ∀ H1, Ex H H1 → tz D ((σ.set i (some x)).set j (some y)) H1) : tSeq (tAsg te (gTup K 2 (gCons (gName i) (gCons (gName j) gNil)))) tz D σ H :=
  h H (Ex.refl H) _ fun H1 e => ⟨t, [x, y], rfl, st_of (e _ _ ht), rfl, _, _, rfl, _, _, rfl, rfl, k H1 e⟩
/-- xs.append((e, [])) -/
theorem s_appPN {l : Addr} {xs : List V} (hl : H l = some (.lst xs)) (ha : Ev ta σ H (.ref l)) (h : EvPN te σ H v) (hz : xs.length < 100000) (k : ∀ t d H1, H t = none → H d = none → t ≠ d → Ex H H1 → H1 t = some (.tup [v, .ref d]) → H1 d = some (.lst []) → D.nx σ (upd H1 l (.lst (xs ++ [.ref t])))) :
    tDrop (tBM K "list" rAppend ta (tCons te tNil)) D σ H := ha H (Ex.refl H) _ fun H1 e1 => ⟨.inl ⟨rfl, _, sq_of (e1 l _ hl)⟩, h H1 e1 _ fun t d H2 nt nd td e2 ht hd =>
  ⟨l, xs, .ref t, rfl, rfl, e2 l _ (e1 l _ hl), sz_lt hz, k t d H2 (fresh_back e1 nt) (fresh_back e1 nd) td (e1.trans e2) ht hd⟩⟩
end
section
variable {P : Program} {w : World} {K : PySem.W.Frag} {mg : Str → Option Value} {base : Heap}
theorem ok_frozen (T : T28 P w K mg base) : Ok P w K mg base CX0 "frozen" ["thing"] 2 spFz := by
  obtain ⟨fH, dH, GH, bH, kH, mH⟩ := (ok_has_lists T).ex
  refine T.ok 9 rfl sc_fz (fun vs H Q E h => ?_) (fun kV doc pm an cdv ct us hl => match us, hl with | [_], _ => rfl) (fun f cdv A outer s H vs Q E hr h => ?_)
  · obtain ⟨v, z, rfl, _⟩ := h
    rfl
  · obtain ⟨v, z, rfl, hw, hz, hnod, k⟩ := h
    refine ⟨_, pss_cons (ps_if (pt_not (pt_val (pe_call GH hr (by rfl) mH kH bH .nil pass0 (pa_cons (pv 0) pa_nil)))) (pss_one (ps_ret (pv 0))) pss_nil)
      (pss_cons (ps_set (i := 1) sc_fz.nd rfl (Or.inl rfl) (pe_lst (pa_cons (pe_tup (pa_cons (pv 0) (pa_cons (pe_lst pa_nil) pa_nil))) pa_nil)))
      (pss_one (ps_while PassesOwn.never (pt_val pe_bl)
        (pss_cons (ps_asg (pe_ix ix_list (pv 1) (pe_un un_neg pe_int) (fun _ _ => rfl)) (pg_tup rfl (pgs_cons (pg_name (i := 2) sc_fz.nd rfl (Or.inl rfl)) (pgs_cons (pg_name (i := 3) sc_fz.nd rfl (Or.inl rfl)) pgs_nil))))
        (pss_one (ps_if (pt_cmpR op_eq (pe_callB call_len (by rfl) T.len PySem.boot_len (pa_cons (pv 3) pa_nil)) (pe_callB call_len (by rfl) T.len PySem.boot_len (pa_cons (pv 2) pa_nil)) (nomark _))
          (pss_cons (ps_expr (pe_bm0 PySem.F.plainAttrs_list PySem.F.slot_list_pop PySem.F.type_list_pop mt_pop (pv 1)))
          (pss_cons (ps_if (pt_not (pt_truth (pv 1) (by intro _; rfl))) (pss_one (ps_ret (pe_callTy call_tuple_of (by rfl) T.tuple PyProof.Rows.boot_tuple (pa_cons (pv 3) pa_nil)))) pss_nil)
          (pss_one (ps_expr (pe_bm PySem.F.plainAttrs_list PySem.F.slot_list_append PySem.F.type_list_append mt_append (pe_ix ix_tup (pe_ix ix_list (pv 1) (pe_un un_neg pe_int) (fun _ _ => rfl)) pe_int (fun _ _ => rfl)) (pa_cons (pe_callTy call_tuple_of (by rfl) T.tuple PyProof.Rows.boot_tuple (pa_cons (pv 3) pa_nil)) pa_nil))))))
          (pss_one (ps_if (pt_val (pe_call GH hr (by rfl) mH kH bH .nil pass0 (pa_cons (pe_ix ix_seq (pv 2) (pe_callB call_len (by rfl) T.len PySem.boot_len (pa_cons (pv 3) pa_nil)) (fun _ _ => rfl)) pa_nil)))
            (pss_one (ps_expr (pe_bm PySem.F.plainAttrs_list PySem.F.slot_list_append PySem.F.type_list_append mt_append (pv 1) (pa_cons (pe_tup (pa_cons (pe_ix ix_seq (pv 2) (pe_callB call_len (by rfl) T.len PySem.boot_len (pa_cons (pv 3) pa_nil)) (fun _ _ => rfl)) (pa_cons (pe_lst pa_nil) pa_nil))) pa_nil))))
            (pss_one (ps_expr (pe_bm PySem.F.plainAttrs_list PySem.F.slot_list_append PySem.F.type_list_append mt_append (pv 3) (pa_cons (pe_ix ix_seq (pv 2) (pe_callB call_len (by rfl) T.len PySem.boot_len (pa_cons (pv 3) pa_nil)) (fun _ _ => rfl)) pa_nil)))))))))))), ?_⟩
    refine q_when (b := !z.hasL) (et_not (et_B (ev_call (ea_cons (ev_var rfl) ea_nil) (spv_hl hw hz)))) (fun hb H1 e1 => ?_) fun hb H1 e1 => ?_
    · have hno : z.hasL = false := by simpa using hb
      refine s_ret (ev_var rfl) fun H2 e2 => k v H2 (e1.trans e2) ?_
      rw [strip_id hno]
      exact hw.ext (e1.trans e2)
    have hyes : z.hasL = true := by simpa using hb
    obtain ⟨b, ws, rfl⟩ := hasL_seq hyes
    have hwsz : O.szs ws + 1 ≤ 9000 := by rw [← O.seq_sz (b := b)]; exact hz
    have hnods : O.nods ws = true := by rw [← seq_nod b]; exact hnod
    refine q_asgPN (epn (ev_var rfl)) fun t d B H2 nt nd e2 ht hd hB => ?_
    have e12 := e1.trans e2
    have hBd : B ≠ d := fun z => by
      rw [z, hd] at hB
      cases hB
    have hBt : B ≠ t := fun z => by
      rw [z, ht] at hB
      cases hB
    refine s_while (fun m σ' H' => ∃ (fs : List Fr) (o1 o2 : Option V), σ' = [some v, some (.ref B), o1, o2] ∧ Inv5 H H' B (O.seq b ws) fs ∧ m = topM fs) (topM [⟨v, b, ws, t, d, [], 0⟩]) ⟨[⟨v, b, ws, t, d, [], 0⟩], none, none, rfl, ?_, rfl⟩ ?_
    · refine ⟨Ex.mut e12 (fresh_back e12 hB), fresh_back e12 hB, upd_same, fun f hf => ?_, ?_, rfl, ?_⟩
      · obtain rfl : f = ⟨v, b, ws, t, d, [], 0⟩ := by simpa using hf
        exact ⟨hw, by rw [upd_ne hBt.symm]; exact ht, by rw [upd_ne hBd.symm]; exact hd, fresh_back e1 nd, .nil, Nat.zero_le _, hnods, by show O.szs ws ≤ 9000; omega⟩
      · simp [hBd]
      · show 1 + (3 * O.szs (ws.drop 0) + 1 + 0) ≤ 90000
        rw [List.drop_zero]
        omega
    rintro m σ' H' ⟨fs, o1, o2, rfl, I, rfl⟩
    match fs, I with
    | [], I => exact I.ch.elim
    | f :: r, I =>
    refine ⟨true, et_B ev_c, fun _ H3 e3 => ⟨fun σ2 H2 => ∃ m', m' < topM (f :: r) ∧ ∃ (fs : List Fr) (o1 o2 : Option V), σ2 = [some v, some (.ref B), o1, o2] ∧ Inv5 H H2 B (O.seq b ws) fs ∧ m' = topM fs, fun _ _ z => z, ?_⟩, fun z => nomatch z⟩
    have I3 := I.ext e3
    have F3 := I3.ok f (List.mem_cons_self ..)
    refine q_unp (ev_top (xs := refs r) (y := .ref f.t) rfl (by rw [I3.hB, refs_cons])) F3.tp fun H4 e4 => ?_
    have I4 := I3.ext e4
    have F := I4.ok f (List.mem_cons_self ..)
    obtain ⟨wa, wvs, ewv, hwa, hov⟩ := F.wh.seq
    have hwl : wvs.length = f.ws.length := hov.length
    have hwa4 : SqB H4 f.b wa wvs := I4.ex _ _ hwa
    have hdl := F.len
    have hlen := I4.len
    rw [ewv]
    refine s_if (b := decide (f.n = f.ws.length)) (et_is (et_test (ev_op (ev_lenL (ev_var rfl) (sq_of F.dn)) (ev_lenQ (ev_var rfl) hwa4) (rv_eq rfl))) ?_) (fun hb H5 e5 => ?_) fun hb H5 e5 => ?_
    · rw [hdl, hwl]
      by_cases q : f.n = f.ws.length
      · rw [decide_eq_true q, decide_eq_true (by rw [q])]
      · rw [decide_eq_false q, decide_eq_false (fun z => q (by have := V.int.inj z; omega))]
    · have hn : f.n = f.ws.length := of_decide_eq_true hb
      have I5 := I4.ext e5
      have F5 := I5.ok f (List.mem_cons_self ..)
      refine q_popD (xs := refs r) (y := .ref f.t) (by rw [I5.hB, refs_cons]) (ev_var rfl) fun H6 e6 => ?_
      have I6 := I5.ext e6
      have F6 := I6.ok f (List.mem_cons_self ..)
      have hBs : (upd H6 B (.lst (refs r))) B = some (.lst (refs r)) := upd_same
      have hfd : (upd H6 B (.lst (refs r))) f.d = some (.lst f.dv) := by rw [upd_ne (I6.dB (List.mem_cons_self ..))]; exact F6.dn
      refine q_when (b := !!(refs r).isEmpty) (et_not (et_truL (ev_var rfl) (sq_of hBs))) (fun he H7 e7 => ?_) fun he H7 e7 => ?_
      · match r, I6, e7, he, hfd with
        | [], I6, e7, he, hfd =>
          refine s_retU (eu_tupL (ev_var rfl) (sq_of (e7 _ _ hfd))) fun u G hu e8 h8 => k (.ref u) G (((Ex.mut I6.ex I6.nB).trans e7).trans e8) ?_
          rw [show O.seq b ws = O.seq f.b f.ws from I6.ch, seq_strip]
          refine ⟨u, f.dv, rfl, h8, ?_⟩
          have q := F6.ov
          rw [hn, List.take_of_length_le (Nat.le_refl _)] at q
          exact q.tx (((Tx.lst I6.hB).trans (Tx.of e7)).trans (Tx.of e8)) (strips_noL _) (by rw [strips_nod]; exact F6.nod)
        | g :: r, I6, e7, he, hfd =>
          rw [refs_cons] at he
          simp at he
      · match r, I6, e7, he, hfd, hBs with
        | [], I6, e7, he, hfd, hBs =>
          exact absurd he (by simp [refs])
        | g :: r, I6, e7, he, hfd, hBs =>
          have Gg := I6.ok g (by simp)
          have hgd : (upd H6 B (.lst (refs (g :: r)))) g.d = some (.lst g.dv) := by rw [upd_ne (I6.dB (by simp))]; exact Gg.dn
          have hgt : (upd H6 B (.lst (refs (g :: r)))) g.t = some (.tup [g.wv, .ref g.d]) := Tx.lst I6.hB _ _ Gg.tp
          refine s_appU (e7 _ _ hgd) (ev_op (ev_top (xs := refs r) (y := .ref g.t) rfl (by rw [e7 _ _ hBs, refs_cons])) ev_c (rv_ixT (st_of (e7 _ _ hgt)) (atI_nat (j := 1) rfl))) (eu_tupL (ev_var rfl) (sq_of (e7 _ _ hfd))) ?_ fun u G hu e8 h8 => ?_
          · have := Gg.len
            have := Gg.le
            have := O.len_szs g.ws
            have := Gg.sz
            omega
          · obtain ⟨J, lt⟩ := I6.pop hn (e7.trans e8) h8
            exact ⟨_, lt, _, _, _, rfl, J, rfl⟩
    · have hn : f.n ≠ f.ws.length := of_decide_eq_false hb
      have hlt : f.n < f.ws.length := Nat.lt_of_le_of_ne F.le hn
      obtain ⟨x, hx⟩ : ∃ x, f.ws[f.n]? = some x := ⟨f.ws[f.n], by simp [hlt]⟩
      obtain ⟨y, hy, hyo⟩ := hov.geto hx
      have I5 := I4.ext e5
      have F5 := I5.ok f (List.mem_cons_self ..)
      have hwa5 : SqB H5 f.b wa wvs := I5.ex _ _ hwa
      have hxz : x.sz ≤ 9000 := by
        have q : O.szs f.ws = O.szs (f.ws.take f.n) + O.szs (f.ws.drop f.n) := by rw [← O.szs_app, List.take_append_drop]
        have := szs_drop hx
        have := F.sz
        omega
      have ix : ∀ {G : Hp}, Ex H5 G → Ev (tOp (rIxQ K) (tVar 2) (tLen K (tVar 3))) [some v, some (.ref B), some (.ref wa), some (.ref f.d)] G y := fun e => ev_op (ev_var rfl) (ev_lenL (ev_var rfl) (sq_of (e _ _ F5.dn))) (rv_ixQ (hwa5.ext e) (by rw [F5.len]; exact atI_nat hy))
      refine s_if (b := x.hasL) (et_B (ev_call (ea_cons (ix (Ex.refl _)) ea_nil) (spv_hl (hyo.ext I5.ex) hxz))) (fun hL H6 e6 => ?_) fun hL H6 e6 => ?_
      · obtain ⟨b2, ws2, rfl⟩ := hasL_seq hL
        have I6 := I5.ext e6
        refine s_appPN I6.hB (ev_var rfl) (epn (ix e6)) ?_ fun t d G nt nd td e7 ht hd => ?_
        · unfold refs
          rw [List.length_map, List.length_reverse]
          omega
        · obtain ⟨J, lt⟩ := I6.push hx hyo ht hd nd e7
          exact ⟨_, lt, _, _, _, rfl, J, rfl⟩
      · have I6 := I5.ext e6
        have F6 := I6.ok f (List.mem_cons_self ..)
        refine s_app F6.dn (ev_var rfl) (ix e6) ?_ fun G e7 => ?_
        · have := O.len_szs f.ws
          have := F.sz
          omega
        · have I7 := I6.ext e7
          obtain ⟨J, lt⟩ := I7.done (y := y) hx (by rw [strip_id hL]; exact hyo.ext I7.ex)
          exact ⟨_, lt, _, _, _, rfl, J, rfl⟩
end
end K28

set_option Elab.async false
set_option linter.all false
set_option maxRecDepth 100000
set_option maxHeartbeats 4000000
/-! Words fit. -/
namespace K28
open PySem PySem.Spec PyProof.Rows L2 Evl
def headB (h : O) (n : Nat) : Bool := match h with
  | .str s => decide (n ≤ 6) && nameB s
  | _ => false
mutual
def O.fit : O → Bool
  | .str s => varB s
  | .lst xs => O.fitL xs
  | .tup xs => O.fitL xs
  | .non => false | .bl _ => false | .int _ => false | .dct => false
def O.fitL : List O → Bool
  | [] => false
  | h :: as => headB h as.length && O.fits as
def O.fits : List O → Bool
  | [] => true
  | x :: xs => x.fit && O.fits xs
end
mutual
def O.ss : O → Bool
  | .str s => SS.contains s
  | .lst xs => O.sss xs
  | .tup xs => O.sss xs
  | .non => true | .bl _ => true | .int _ => true | .dct => true
def O.sss : List O → Bool
  | [] => true
  | x :: xs => x.ss && O.sss xs
end
def placesL : List O → Bool
  | [] => false
  | h :: as => headB h as.length
def O.placesB : O → Bool
  | .lst xs => placesL xs
  | .tup xs => placesL xs
  | _ => false
theorem fits_app : ∀ (xs ys : List O), O.fits (xs ++ ys) = (O.fits xs && O.fits ys)
  | [], ys => by simp [O.fits]
  | x :: xs, ys => by
    show (x.fit && O.fits (xs ++ ys)) = (x.fit && O.fits xs && O.fits ys)
    rw [fits_app xs ys, Bool.and_assoc]
theorem sss_app : ∀ (xs ys : List O), O.sss (xs ++ ys) = (O.sss xs && O.sss ys)
  | [], ys => by simp [O.sss]
  | x :: xs, ys => by
    show (x.ss && O.sss (xs ++ ys)) = (x.ss && O.sss xs && O.sss ys)
    rw [sss_app xs ys, Bool.and_assoc]
theorem seq_ss (b : Bool) (xs : List O) : (O.seq b xs).ss = O.sss xs := by cases b <;> rfl
theorem seq_fit (b : Bool) (xs : List O) : (O.seq b xs).fit = O.fitL xs := by cases b <;> rfl
theorem seq_places (b : Bool) (xs : List O) : (O.seq b xs).placesB = placesL xs := by cases b <;> rfl
theorem str_ss {s : Str} (h : (O.str s).ss = true) : s ∈ SS := List.contains_iff_mem.mp h
section
variable {K : PySem.W.Frag} {σ : L2.St} {H G : Hp} {te ta tb : TE} {v : V} {D : Ends} {tz : TS}
theorem el_listQ {b : Bool} {p : Addr} {xs : List V} (ha : Ev ta σ H (.ref p)) (h : SqB H b p xs) : EvL (tCB (rListS K) (tCons ta tNil)) σ H xs := fun H1 e Q q =>
  ha H1 e _ fun H2 e2 => ⟨p, xs, rfl, by
    cases b with
    | true => exact .inl (sq_of (h.ext (e.trans e2)))
    | false => exact .inr (st_of (h.ext (e.trans e2))), fun l hl => q l _ (fresh_back e2 hl) (e2.trans (Ex.new hl)) upd_same⟩
/-- k not in d -/
theorem ev_notInD {ty td : TE} {d : Addr} {kvs : List (Key × V)} {k : Key} (h1 : Ev ty σ H (kV k)) (h2 : Ev td σ H (.ref d)) (hd : H d = some (.dK kvs)) : Ev (tDNotIn ty td) σ H (.bl (!(valV kvs k).isSome)) := fun H1 e Q q =>
  h1 H1 e _ fun H2 e2 => h2 H2 (e.trans e2) _ fun H3 e3 => ⟨d, _, rfl, DGet.k (e3 _ _ (e2 _ _ (e _ _ hd))), q H3 (e2.trans e3)⟩
/-- d[k] = v -/
theorem s_dput {td ty tv : TE} {d : Addr} {kvs : List (Key × V)} {k : Key} (hd : H d = some (.dK kvs)) (h2 : Ev tv σ H v) (h1 : Ev td σ H (.ref d)) (h0 : Ev ty σ H (kV k)) (hl : kvs.length < 100000) (q : ∀ H1, Ex H H1 → D.nx σ (upd H1 d (.dK (putK kvs k v)))) : sDPut td ty tv D σ H :=
  h2 H (Ex.refl H) _ fun H1 e1 => h1 H1 e1 _ fun H2 e2 => h0 H2 (e1.trans e2) _ fun H3 e3 => ⟨d, _, rfl, DPut.k (e3 _ _ (e2 _ _ (e1 _ _ hd))) (sz_lt hl), q H3 ((e1.trans e2).trans e3)⟩
end
theorem putK_new {kvs : List (Key × V)} {k : Key} {v : V} (h : valV kvs k = none) : putK kvs k v = kvs ++ [(k, v)] := by
  unfold putK
  have q : (kvs.any fun kv => decide (kv.1 = k)) = false := by
    rw [List.any_eq_false]
    intro p hp e
    have e1 : p.1 = k := of_decide_eq_true e
    unfold valV at h
    have := List.find?_eq_none.mp (Option.map_eq_none_iff.mp h) p hp
    exact this (decide_eq_true e1)
  rw [q]
  rfl
theorem valV_mem {kvs : List (Key × V)} {k : Key} (h : (valV kvs k).isSome = true) : ∃ v, (k, v) ∈ kvs := by
  unfold valV at h
  cases e : kvs.find? fun kv => decide (kv.1 = k) with
  | none => rw [e] at h; cases h
  | some p =>
    have h1 := List.find?_some e
    have h2 := List.mem_of_find?_eq_some e
    have e1 : p.1 = k := of_decide_eq_true h1
    exact ⟨p.2, by rw [← e1]; exact h2⟩
section
variable {P : Program} {w : World} {K : PySem.W.Frag} {mg : Str → Option Value} {base : Heap}
def spPl : Sp := fun vs H Q _ => ∃ v o, vs = [v, .non] ∧ OV H v o ∧ o.ss = true ∧ RetV (.bl o.placesB) H Q
theorem spv_pl {v : V} {o : O} {H : Hp} (h : OV H v o) (hs : o.ss = true) : SpV spPl ([v, .non] ++ []) H (.bl o.placesB) := fun H1 e Q q E => ⟨v, o, rfl, h.ext e, hs, q⟩
theorem sc_places : FnScope ["thing", "arities"] ["thing", "arities"] (defScope s_has_places) := ⟨rfl, rfl, rfl, by decide +kernel, rfl, by decide +kernel, by decide +kernel⟩
theorem ok_has_places (T : T28 P w K mg base) : Ok P w K mg base CX0 "has_places" ["thing", "arities"] 3 spPl := by
  obtain ⟨tl, mMo⟩ := T.most
  obtain ⟨fN, dN, GN, bN, kN, mN⟩ := (ok_is_name T).ex
  refine T.ok 14 rfl sc_places (fun vs H Q E h => ?_) (fun kV doc pm an cdv ct us hl => match us, hl with | [_, _], _ => rfl) (fun f cdv A outer s H vs Q E hr h => ?_)
  · obtain ⟨v, z, rfl, _⟩ := h
    rfl
  · obtain ⟨v, z, rfl, hw, hss, k⟩ := h
    refine ⟨_, pss_cons (ps_if (PW.pt (pw_or (pt_not (pt_val (pe_isiLT T.isi T.list T.tuple (pv 0)))) (pw_or (pt_cmpR op_eq (pe_callB call_len (by rfl) T.len PySem.boot_len (pa_cons (pv 0) pa_nil)) pe_int (nomark _))
        (pw_or1 (pt_not (pt_val (pe_isiB T.isi T.str PyProof.Rows.boot_str (pe_ix ix_seq (pv 0) pe_int (fun _ _ => rfl))))))))) (pss_one (ps_ret pe_bl)) pss_nil)
      (pss_cons (ps_if (pt_cmp (pc_isN (pv 1))) (pss_one (ps_ret (pe_and (pe_cmpR op_le (pe_callB call_len (by rfl) T.len PySem.boot_len (pa_cons (pv 0) pa_nil)) (pe_op op_add (pe_glob (v := .int 6) rfl mMo ⟨_, rfl⟩) pe_int) (nomark _))
        (pe_one (pe_call GN hr (by rfl) mN kN bN .nil pass0 (pa_cons (pe_ix ix_seq (pv 0) pe_int (fun _ _ => rfl)) pa_nil)))))) pss_nil)
      (pss_one ps_never)), ?_⟩
    cases hq : z.isLst || z.isTup with
    | false =>
      refine q_when (b := true) (et_is (et_or (a := true) (b := true) (et_is (et_not (et_B (ev_isSeq (ev_var rfl) hw))) (by rw [hq]; rfl)) fun z => nomatch z) rfl) (fun _ H1 e1 => ?_) fun z => nomatch z
      refine s_ret (ev_is ev_c ?_) fun H2 e2 => k H2 (e1.trans e2)
      cases z with
      | lst xs => cases hq
      | tup xs => cases hq
      | _ => rfl
    | true =>
      obtain ⟨b, xs, rfl⟩ := O.seq_of hq
      obtain ⟨a, us, rfl, ha, hov⟩ := hw.seq
      have hsq : SqB H b a us := ha
      rw [seq_places] at k
      rw [seq_ss] at hss
      match xs, hov, hss, k with
      | [], hov, hss, k =>
        obtain rfl : us = [] := hov
        refine q_when (b := true) (et_is (et_or (a := false) (b := true) (et_is (et_not (et_B (ev_isSeq (ev_var rfl) hw))) (by rw [hq]; rfl)) fun _ => et_or (a := true) (b := true) (et_is (et_test (ev_op (ev_lenQ (ev_var rfl) hsq) ev_c (rv_eq rfl))) (by decide)) fun z => nomatch z) rfl) (fun _ H1 e1 => ?_) fun z => nomatch z
        exact s_ret ev_c fun H2 e2 => k H2 (e1.trans e2)
      | h :: as, ⟨u, us', e0, hu, has⟩, hss, k =>
        subst e0
        obtain ⟨hh, hr2⟩ := Bool.and_eq_true_iff.mp hss
        have ev0 : ∀ {G : Hp}, Ex H G → Ev (tOp (rIxQ K) (tVar 0) (tC (.int 0))) [some (.ref a), some .non] G u := fun e => ev_op (ev_var rfl) ev_c (rv_ixQ (hsq.ext e) (atI_nat (j := 0) rfl))
        have hl : (u :: us').length = us'.length + 1 := rfl
        have hal := has.length
        have e12 : decide (V.int (((u :: us').length : Nat) : Int) = V.int 0) = false := decide_eq_false (by rw [hl]; intro q; have := V.int.inj q; omega)
        cases hst : h.isStr with
        | false =>
          refine q_when (b := true) (et_is (et_or (a := false) (b := true) (et_is (et_not (et_B (ev_isSeq (ev_var rfl) hw))) (by rw [hq]; rfl)) fun _ => et_is (et_or (a := false) (b := true) (et_is (et_test (ev_op (ev_lenQ (ev_var rfl) hsq) ev_c (rv_eq rfl))) e12) fun _ =>
            et_is (et_not (et_B (ev_isStr (ev0 (Ex.refl _)) hu))) (by rw [hst]; rfl)) rfl) rfl) (fun _ H1 e1 => ?_) fun z => nomatch z
          refine s_ret (ev_is ev_c ?_) fun H2 e2 => k H2 (e1.trans e2)
          cases h with
          | str s => cases hst
          | _ => rfl
        | true =>
          obtain ⟨s, rfl⟩ : ∃ s, h = .str s := by
            cases h with
            | str s => exact ⟨s, rfl⟩
            | _ => cases hst
          obtain rfl : u = .str s := hu
          refine q_when (b := false) (et_is (et_or (a := false) (b := false) (et_is (et_not (et_B (ev_isSeq (ev_var rfl) hw))) (by rw [hq]; rfl)) fun _ => et_is (et_or (a := false) (b := false) (et_is (et_test (ev_op (ev_lenQ (ev_var rfl) hsq) ev_c (rv_eq rfl))) e12) fun _ =>
            et_is (et_not (et_B (ev_isStr (o := .str s) (ev0 (Ex.refl _)) rfl))) rfl) rfl) rfl) (fun z => nomatch z) fun _ H1 e1 => ?_
          refine q_when (b := true) (et_test (ev_isN (ev_var rfl) rfl)) (fun _ H2 e2 => ?_) (fun z => nomatch z)
          refine s_ret (ev_is (ev_andV (ev_op (ev_lenQ (ev_var rfl) (hsq.ext (e1.trans e2))) (ev_op ev_c ev_c rv_I0) rv_I0) fun _ => ev_call (ea_cons (ev0 (e1.trans e2)) ea_nil) (spv_S (str_ss hh))) ?_) fun H3 e3 => k H3 ((e1.trans e2).trans e3)
          show V.bl (decide ((((V.str s :: us').length : Nat) : Int) ≤ 6 + 1) && nameB s) = V.bl (decide (as.length ≤ 6) && nameB s)
          have e : decide ((((V.str s :: us').length : Nat) : Int) ≤ 6 + 1) = decide (as.length ≤ 6) := by
            by_cases q : as.length ≤ 6
            · rw [decide_eq_true q, decide_eq_true (by rw [show (V.str s :: us').length = us'.length + 1 from rfl]; omega)]
            · rw [decide_eq_false q, decide_eq_false (by rw [show (V.str s :: us').length = us'.length + 1 from rfl]; omega)]
          rw [e]
end
end K28

set_option Elab.async false
set_option linter.all false
set_option maxRecDepth 100000
set_option maxHeartbeats 4000000
/-! Words fit, further. -/
namespace K28
open PySem PySem.Spec PyProof.Rows L2 Evl
section
variable {P : Program} {w : World} {K : PySem.W.Frag} {mg : Str → Option Value} {base : Heap}
def spFit : Sp := fun vs H Q _ => ∃ (a : Addr) (b : Bool) (us : List V) (os : List O), vs = [.ref a, .non, .non] ∧ SqB H b a us ∧ OVs H us os ∧ O.sss os = true ∧ O.szs os ≤ 9000 ∧ RetV (.bl (O.fits os)) H Q
abbrev nFit : List Str := ["words", "functions", "scope", "stood", "work", "part"]
theorem sc_fit : FnScope nFit ["words", "functions", "scope"] (defScope s_words_fit) := ⟨rfl, rfl, rfl, by decide +kernel, rfl, by decide +kernel, by decide +kernel⟩
theorem ok_words_fit (T : T28 P w K mg base) : Ok P w K mg base CX0 "words_fit" ["words", "functions", "scope"] 4 spFit := by
  obtain ⟨fN, dN, GN, bN, kN, mN⟩ := (ok_has_places T).ex
  obtain ⟨fV, dV, GV, bV, kV', mV⟩ := (ok_is_variable T).ex
  refine T.ok 15 rfl sc_fit (fun vs H Q E h => ?_) (fun kV doc pm an cdv ct us hl => match us, hl with | [_, _, _], _ => rfl) (fun f cdv A outer s H vs Q E hr h => ?_)
  · obtain ⟨a, b, us, os, rfl, _⟩ := h
    rfl
  · obtain ⟨a, b, us, os, rfl, ha, hov, hss, hz, k⟩ := h
    refine ⟨_, pss_cons (ps_set (i := 3) sc_fit.nd rfl (Or.inl rfl) pe_dnewK)
      (pss_cons (ps_set (i := 4) sc_fit.nd rfl (Or.inl rfl) (pe_callTy call_list_of (by rfl) T.list PyProof.Rows.boot_list (pa_cons (pv 0) pa_nil)))
      (pss_cons (ps_while PassesOwn.never (pt_truth (pv 4) (by intro _; rfl))
        (pss_cons (ps_set (i := 5) sc_fit.nd rfl (Or.inl rfl) (pe_bm0 PySem.F.plainAttrs_list PySem.F.slot_list_pop PySem.F.type_list_pop mt_pop (pv 4)))
        (pss_one (ps_if (pt_not (pt_val (pe_isiB T.isi T.str PyProof.Rows.boot_str (pv 5))))
          (pss_cons (ps_if (pt_not (pt_val (pe_call GN hr (by rfl) mN kN bN .nil pass0 (pa_cons (pv 5) (pa_cons (pv 1) pa_nil))))) (pss_one (ps_ret pe_bl)) pss_nil)
            (pss_one (ps_expr (pe_bm PySem.F.plainAttrs_list PySem.F.slot_list_extend PySem.F.type_list_extend mt_extQ (pv 4) (pa_cons (pe_slice sl_seq (pv 5) (po_some pe_int) po_none) pa_nil)))))
          (pss_one (ps_if (pt_cmp (pc_dnotin (hu_of hr) (pv 5) (pv 3)))
            (pss_cons (ps_if (PW.pt (pw_or (pt_not (pt_val (pe_call GV (hr.mono (by decide)) (by rfl) mV kV' bV .nil pass0 (pa_cons (pv 5) pa_nil)))) (pw_or1 (PW.pt (pw_and (pt_cmp (pc_notN (pv 2))) (pw_and1 (pt_cmp (pc_dnotin (hu_of hr) (pv 5) (pv 2))))))))) (pss_one (ps_ret pe_bl)) pss_nil)
              (pss_one (ps_dput (hu_of hr) (pv 3) (pv 5) pe_bl rfl))) pss_nil))))))
      (pss_one (ps_ret pe_bl)))), ?_⟩
    intro d hd
    have e0 : Ex H (upd H d (.dK [])) := Ex.new hd
    refine q_asgL (el_listQ (ev_var rfl) (ha.ext e0)) fun p H1 hp e1 h1 => ?_
    have hp0 : H p = none := fresh_back e0 hp
    have hpd : p ≠ d := fun z => by
      rw [z, upd_same] at hp
      cases hp
    refine q_while (fun m σ' H' => ∃ (xs : List V) (ts : List O) (kvs : List (Key × V)) (o : Option V), σ' = [some (.ref a), some .non, some .non, some (.ref d), some (.ref p), o] ∧ Ex H H' ∧ H' p = some (.lst xs) ∧ H' d = some (.dK kvs) ∧ OVs H xs ts ∧ m = O.szs ts ∧ kvs.length + m ≤ 9000 ∧ O.sss ts = true ∧
        (∀ q ∈ kvs, ∃ s, q.1 = Sum.inr s ∧ varB s = true) ∧ O.fits ts = O.fits os) (O.szs os)
      ⟨us, os, [], none, rfl, e0.trans e1, h1, e1 _ _ upd_same, hov, rfl, by simpa using hz, hss, (fun q hq => absurd hq (by simp)), rfl⟩ ?_
    rintro m σ' H' ⟨xs, ts, kvs, o, rfl, e2, h2, h2d, tv, hm, hm2, hss', hkv, hres⟩
    refine ⟨!xs.isEmpty, et_truL (ev_var rfl) (SqL.of h2), fun hb H3 e3 => ?_, fun hb H3 e3 => ?_⟩
    · rcases List.eq_nil_or_concat ts with ht | ⟨ts', t, ht⟩
      · subst ht
        rw [show xs = [] from tv] at hb
        exact absurd hb (by decide)
      rw [List.concat_eq_append] at ht
      subst ht
      obtain ⟨us', x, rfl, tv1, tvx⟩ := OVs.snoc tv
      have hsum := O.szs_app ts' [t]
      have hs1 : O.szs [t] = t.sz := by simp [O.szs]
      have hlen := O.len_szs ts'
      have hle := tv1.length
      have tp := t.sz_pos
      rw [fits_app, show O.fits [t] = t.fit by simp [O.fits]] at hres
      rw [sss_app, show O.sss [t] = t.ss by simp [O.sss]] at hss'
      obtain ⟨hs1', hs2'⟩ := Bool.and_eq_true_iff.mp hss'
      refine ⟨fun σ2 H2 => ∃ m', m' < m ∧ ∃ (xs : List V) (ts : List O) (kvs : List (Key × V)) (o : Option V), σ2 = [some (.ref a), some .non, some .non, some (.ref d), some (.ref p), o] ∧ Ex H H2 ∧ H2 p = some (.lst xs) ∧ H2 d = some (.dK kvs) ∧ OVs H xs ts ∧ m' = O.szs ts ∧ kvs.length + m' ≤ 9000 ∧ O.sss ts = true ∧
        (∀ q ∈ kvs, ∃ s, q.1 = Sum.inr s ∧ varB s = true) ∧ O.fits ts = O.fits os, fun σ2 H2 z => z, ?_⟩
      refine q_pop (e3 _ _ h2) (ev_var rfl) fun H4 e4 => ?_
      have e5 : Ex H (upd H4 p (.lst us')) := Ex.mut ((e2.trans e3).trans e4) hp0
      have h5d : (upd H4 p (.lst us')) d = some (.dK kvs) := by
        rw [upd_ne hpd.symm]
        exact e4 _ _ (e3 _ _ h2d)
      have tvx5 := tvx.ext e5
      refine s_if (b := !t.isStr) (et_not (et_B (ev_isStr (ev_var rfl) tvx5))) (fun hS H5 e6 => ?_) fun hS H5 e6 => ?_
      · have hns : t.isStr = false := by simpa using hS
        refine q_when (b := !t.placesB) (et_not (et_B (ev_call (ea_cons (ev_var rfl) (ea_cons (ev_var rfl) ea_nil)) (spv_pl (tvx5.ext e6) hs2')))) (fun hP H6 e7 => ?_) fun hP H6 e7 => ?_
        · have hnp : t.placesB = false := by simpa using hP
          refine s_ret (ev_is ev_c ?_) fun G e8 => k G (((e5.trans e6).trans e7).trans e8)
          have hf : t.fit = false := by
            cases t with
            | lst xs =>
              cases xs with
              | nil => rfl
              | cons h as => show (headB h as.length && O.fits as) = false; rw [show headB h as.length = false from hnp]; rfl
            | tup xs =>
              cases xs with
              | nil => rfl
              | cons h as => show (headB h as.length && O.fits as) = false; rw [show headB h as.length = false from hnp]; rfl
            | str s => cases hns
            | _ => rfl
          rw [← hres, hf, Bool.and_false]
        · have hp1 : t.placesB = true := by simpa using hP
          obtain ⟨b2, ys, rfl⟩ : ∃ b ys, t = O.seq b ys := by
            cases t with
            | lst xs => exact ⟨true, xs, rfl⟩
            | tup xs => exact ⟨false, xs, rfl⟩
            | _ => cases hp1
          rw [seq_places] at hp1
          rw [seq_ss] at hs2'
          rw [seq_fit] at hres
          rw [O.seq_sz] at hs1
          obtain ⟨r, as, rfl, hr', hya⟩ := tvx.seq
          match ys, hp1, hya, hs2', hres, hs1 with
          | hd1 :: tl1, hp1, ⟨u, us2, e0', hu, has⟩, hs2', hres, hs1 =>
            subst e0'
            have hh1 : headB hd1 tl1.length = true := hp1
            have hres2 : (O.fits ts' && O.fits tl1) = O.fits os := by
              rw [← hres]
              show _ = (O.fits ts' && (headB hd1 tl1.length && O.fits tl1))
              rw [hh1, Bool.true_and]
            have hsz2 : O.szs (hd1 :: tl1) = hd1.sz + O.szs tl1 := rfl
            have hdp := hd1.sz_pos
            have hal := has.length
            have hlt := O.len_szs tl1
            have e8 := (e5.trans e6).trans e7
            have hr8 : SqB H6 b2 r (u :: us2) := e8 _ _ hr'
            refine s_extQ ((e6.trans e7) _ _ upd_same) (ev_var rfl) (eq_tail (ev_var rfl) hr8) (by omega) fun H7 e9 => ?_
            have e10 := (e6.trans e7).trans e9
            refine ⟨O.szs (ts' ++ tl1), by rw [O.szs_app]; omega, us' ++ us2, ts' ++ tl1, kvs, _, rfl, Ex.mut (e8.trans e9) hp0, upd_same, by rw [upd_ne hpd.symm]; exact e10 _ _ h5d, tv1.append has, rfl, by rw [O.szs_app]; omega, ?_, hkv, by rw [fits_app]; exact hres2⟩
            rw [sss_app, hs1', (Bool.and_eq_true_iff.mp hs2').2]
            rfl
      · have hst : t.isStr = true := by simpa using hS
        obtain ⟨s, rfl⟩ : ∃ s, t = .str s := by
          cases t with
          | str s => exact ⟨s, rfl⟩
          | _ => cases hst
        obtain rfl : x = .str s := tvx
        have hms : s ∈ SS := str_ss hs2'
        have hsz1 : (O.str s).sz = 1 := rfl
        refine s_when (b := !(valV kvs (Sum.inr s)).isSome) (et_B (ev_notInD (k := Sum.inr s) (ev_var rfl) (ev_var rfl) (e6 _ _ h5d))) (fun hN H6 e7 => ?_) fun hN H6 e7 => ?_
        · have hnone : valV kvs (Sum.inr s : Key) = none := by
            cases q : valV kvs (Sum.inr s : Key) with
            | none => rfl
            | some y => rw [q] at hN; cases hN
          refine q_when (b := !varB s) (et_is (et_or (b := false) (et_not (et_B (ev_call (ea_cons (ev_var rfl) ea_nil) (spv_S hms)))) fun _ => et_is (et_and (a := false) (b := false) (et_B (ev_notN (ev_var rfl) rfl)) fun z => nomatch z) rfl) (Bool.or_false _)) (fun hV H7 e8 => ?_) fun hV H7 e8 => ?_
          · have hv0 : varB s = false := by simpa using hV
            refine s_ret (ev_is ev_c ?_) fun G e9 => k G ((((e5.trans e6).trans e7).trans e8).trans e9)
            rw [← hres, show (O.str s).fit = varB s from rfl, hv0, Bool.and_false]
          · have hv1 : varB s = true := by simpa using hV
            have e9 := (e6.trans e7).trans e8
            refine s_dput (k := Sum.inr s) (e9 _ _ h5d) ev_c (ev_var rfl) (ev_var rfl) (by omega) fun H8 e10 => ?_
            rw [putK_new hnone]
            refine ⟨O.szs ts', by omega, us', ts', _, _, rfl, Ex.mut ((e5.trans e9).trans e10) hd, ?_, upd_same, tv1, rfl, by rw [List.length_append, List.length_singleton]; omega, hs1', fun q hq => ?_, ?_⟩
            · rw [upd_ne hpd]
              exact e10 _ _ (e9 _ _ upd_same)
            · rcases List.mem_append.mp hq with hq | hq
              · exact hkv q hq
              · obtain rfl : q = (Sum.inr s, V.bl true) := by simpa using hq
                exact ⟨s, rfl, hv1⟩
            · rw [← hres, show (O.str s).fit = varB s from rfl, hv1, Bool.and_true]
        · have hsome : (valV kvs (Sum.inr s : Key)).isSome = true := by
            cases q : valV kvs (Sum.inr s : Key) with
            | none => rw [q] at hN; cases hN
            | some y => rfl
          obtain ⟨v, hv⟩ := valV_mem hsome
          obtain ⟨s', es, hv1⟩ := hkv _ hv
          obtain rfl : s = s' := Sum.inr.inj es
          refine ⟨O.szs ts', by omega, us', ts', kvs, _, rfl, (e5.trans e6).trans e7, (e6.trans e7) _ _ upd_same, (e6.trans e7) _ _ h5d, tv1, rfl, by omega, hs1', hkv, ?_⟩
          rw [← hres, show (O.str s).fit = varB s from rfl, hv1, Bool.and_true]
    · have hx : xs = [] := by
        cases xs with
        | nil => rfl
        | cons _ _ => cases hb
      have ht : ts = [] := by
        have := tv.length
        rw [hx] at this
        exact List.length_eq_zero_iff.mp this.symm
      rw [ht] at hres
      refine s_ret (ev_is ev_c ?_) fun H4 e4 => k H4 ((e2.trans e3).trans e4)
      rw [← hres]
      rfl
end
end K28

set_option Elab.async false
set_option linter.all false
set_option maxRecDepth 100000
set_option maxHeartbeats 4000000
/-! Atoms fit; an own error raised. -/
namespace K28
open PySem PySem.Spec PyProof.Rows L2 Evl
def eqL : List O → Bool
  | [.str s, _, _] => s == "="
  | _ => false
def O.eqB : O → Bool
  | .lst xs => eqL xs
  | .tup xs => eqL xs
  | _ => false
/-- of three things the first is a text -/
def e3L : List O → Bool
  | [h, _, _] => h.isStr
  | _ => true
def O.e3 : O → Bool
  | .lst xs => e3L xs
  | .tup xs => e3L xs
  | _ => true
def tailL : List O → Bool
  | [] => false
  | _ :: as => O.fits as
def O.fitA : O → Bool
  | .lst xs => (eqL xs || placesL xs) && tailL xs
  | .tup xs => (eqL xs || placesL xs) && tailL xs
  | _ => false
def O.fitW (o : O) : Bool := o.fit || o.fitA
theorem seq_eqB (b : Bool) (xs : List O) : (O.seq b xs).eqB = eqL xs := by cases b <;> rfl
theorem seq_e3 (b : Bool) (xs : List O) : (O.seq b xs).e3 = e3L xs := by cases b <;> rfl
theorem seq_fitA (b : Bool) (xs : List O) : (O.seq b xs).fitA = ((eqL xs || placesL xs) && tailL xs) := by cases b <;> rfl
theorem head_nod {h : O} {n : Nat} (k : headB h n = true) : h.nod = true := by
  cases h with
  | str s => rfl
  | _ => cases k
mutual
theorem fit_nod : ∀ {o : O}, o.fit = true → o.nod = true
  | .str _, _ => rfl
  | .lst xs, h => fitL_nod (xs := xs) h
  | .tup xs, h => fitL_nod (xs := xs) h
  | .non, h => nomatch h
  | .bl _, h => nomatch h
  | .int _, h => nomatch h
  | .dct, h => nomatch h
theorem fitL_nod : ∀ {xs : List O}, O.fitL xs = true → O.nods xs = true
  | [], h => nomatch h
  | h :: as, k => by
    obtain ⟨a, b⟩ := Bool.and_eq_true_iff.mp k
    show (h.nod && O.nods as) = true
    rw [head_nod a, fits_nod b]
    rfl
theorem fits_nod : ∀ {xs : List O}, O.fits xs = true → O.nods xs = true
  | [], _ => rfl
  | x :: xs, k => by
    obtain ⟨a, b⟩ := Bool.and_eq_true_iff.mp k
    show (x.nod && O.nods xs) = true
    rw [fit_nod a, fits_nod b]
    rfl
end
theorem fitA_nodL {xs : List O} (k : ((eqL xs || placesL xs) && tailL xs) = true) : O.nods xs = true := by
  obtain ⟨a, b⟩ := Bool.and_eq_true_iff.mp k
  match xs, a, b with
  | h :: as, a, b =>
    have hh : h.nod = true := by
      rcases Bool.or_eq_true_iff.mp a with q | q
      · cases h with
        | str s => rfl
        | _ => cases q
      · exact head_nod q
    show (h.nod && O.nods as) = true
    rw [hh, fits_nod (show O.fits as = true from b)]
    rfl
theorem fitW_nod {o : O} (h : o.fitW = true) : o.nod = true := by
  rcases Bool.or_eq_true_iff.mp h with q | q
  · exact fit_nod q
  · cases o with
    | lst xs => exact fitA_nodL q
    | tup xs => exact fitA_nodL q
    | _ => cases q
section
variable {K : PySem.W.Frag} {σ : L2.St} {H G : Hp} {te ta tb : TE} {v : V} {D : Ends} {tz : TS}
/-- a call with a new list or tuple ahead -/
theorem ev_callNQ {sp : Sp} {vs dvs xs : List V} {E : XK} {tr : TA} {z : V} (h : EvQ te σ H xs) (hr : EvA tr σ H vs) (hp : ∀ b p H1, Ex H H1 → SqB H1 b p xs → SpV sp ((.ref p :: vs) ++ dvs) H1 z) : Ev (tCall sp dvs E (tCons te tr)) σ H z := fun H1 e Q q =>
  h H1 e _ fun b p H2 _ e2 h2 => hr H2 (e.trans e2) _ fun H3 e3 => hp b p H3 ((e.trans e2).trans e3) (h2.ext e3) H3 (Ex.refl _) Q (fun H4 e4 => q H4 ((e2.trans e3).trans e4)) E
end
section
variable {P : Program} {w : World} {K : PySem.W.Frag} {mg : Str → Option Value} {base : Heap}
def spF (n : Nat) (f : O → Bool) : Sp := fun vs H Q _ => ∃ v o, vs = v :: List.replicate n .non ∧ OV H v o ∧ o.ss = true ∧ o.sz ≤ 8000 ∧ o.e3 = true ∧ RetV (.bl (f o)) H Q
theorem spF_len {n : Nat} {f : O → Bool} {vs : List V} {H : Hp} {Q : VK} {E : XK} (h : spF n f vs H Q E) : vs.length = n + 1 := by
  obtain ⟨v, o, rfl, _⟩ := h
  simp
theorem sc_wf : FnScope ["thing", "functions", "scope"] ["thing", "functions", "scope"] (defScope s_word_fits) := ⟨rfl, rfl, rfl, by decide +kernel, rfl, by decide +kernel, by decide +kernel⟩
theorem ok_word_fits (T : T28 P w K mg base) : Ok P w K mg base CX0 "word_fits" ["thing", "functions", "scope"] 5 (spF 2 O.fit) := by
  obtain ⟨fN, dN, GN, bN, kN, mN⟩ := (ok_words_fit T).ex
  refine T.ok 16 rfl sc_wf (fun vs H Q E h => spF_len h) (fun kV doc pm an cdv ct us hl => match us, hl with | [_, _, _], _ => rfl) (fun f cdv A outer s H vs Q E hr h => ?_)
  obtain ⟨v, z, rfl, hw, hss, hz, _, k⟩ := h
  refine ⟨_, pss_one (ps_ret (pe_call GN hr (by rfl) mN kN bN .nil pass0 (pa_cons (pe_lst (pa_cons (pv 0) pa_nil)) (pa_cons (pv 1) (pa_cons (pv 2) pa_nil))))), ?_⟩
  refine s_ret (ev_is (ev_callNL (el_lst (ea_cons (ev_var rfl) ea_nil) (by show 1 ≤ 100000; decide)) (ea_cons (ev_var rfl) (ea_cons (ev_var rfl) ea_nil)) fun p H1 e1 h1 H2 e2 Q q E => ⟨p, true, [v], [z], rfl, e2 _ _ h1, .cons (hw.ext (e1.trans e2)) .nil, by simp [O.sss, hss], by simp [O.szs]; omega, q⟩) ?_) k
  simp [O.fits]
theorem sc_eq : FnScope ["thing"] ["thing"] (defScope s_is_equality) := ⟨rfl, rfl, rfl, by decide +kernel, rfl, by decide +kernel, by decide +kernel⟩
theorem ok_is_equality (T : T28 P w K mg base) : Ok P w K mg base CX0 "is_equality" ["thing"] 2 (spF 0 O.eqB) := by
  obtain ⟨fL, dL, GL, bL, kL, mL⟩ := (ok_is_list T).ex
  refine T.ok 17 rfl sc_eq (fun vs H Q E h => spF_len h) (fun kV doc pm an cdv ct us hl => match us, hl with | [_], _ => rfl) (fun f cdv A outer s H vs Q E hr h => ?_)
  obtain ⟨v, z, rfl, hw, hss, hz, he3, k⟩ := h
  refine ⟨_, pss_one (ps_ret (pe_and (pe_call GL hr (by rfl) mL kL bL .nil pass0 (pa_cons (pv 0) pa_nil)) (pe_and (pe_cmpR op_eq (pe_callB call_len (by rfl) T.len PySem.boot_len (pa_cons (pv 0) pa_nil)) pe_int (nomark _)) (pe_one (pe_cmpR op_eq (pe_ix ix_seq (pv 0) pe_int (fun _ _ => rfl)) pe_str (nomark _)))))), ?_⟩
  cases hq : z.isLst || z.isTup with
  | false =>
    refine s_ret (ev_is (ev_andV (a := false) (b := false) (ev_is (ev_call (ea_cons (ev_var rfl) ea_nil) (spv_B hw)) (by rw [hq])) fun z => nomatch z) ?_) k
    cases z with
    | lst xs => cases hq
    | tup xs => cases hq
    | _ => rfl
  | true =>
    obtain ⟨b, xs, rfl⟩ := O.seq_of hq
    obtain ⟨a, us, rfl, ha, hov⟩ := hw.seq
    have hsq : SqB H b a us := ha
    rw [seq_eqB] at k
    rw [seq_e3] at he3
    have hul := hov.length
    by_cases h3 : xs.length = 3
    · match xs, h3, hov, he3, k, hul with
      | [h, x, y], h3, ⟨u, us', e0, hu, has⟩, he3, k, hul =>
        subst e0
        obtain ⟨s, rfl⟩ : ∃ s, h = .str s := by
          cases h with
          | str s => exact ⟨s, rfl⟩
          | _ => cases he3
        obtain rfl : u = .str s := hu
        refine s_ret (ev_is (ev_andV (a := true) (ev_is (ev_call (ea_cons (ev_var rfl) ea_nil) (spv_B hw)) (by rw [hq])) fun _ => ev_andV (a := true) (ev_is (ev_op (ev_lenQ (ev_var rfl) hsq) ev_c (rv_eq rfl)) (congrArg V.bl (decide_eq_true (by rw [hul]; rfl)))) fun _ => ev_op (ev_op (ev_var rfl) ev_c (rv_ixQ hsq (atI_nat (j := 0) rfl))) ev_c (rv_eq rfl)) ?_) k
        show V.bl (true && (true && decide (V.str s = V.str "="))) = V.bl (s == "=")
        by_cases q : s = "="
        · subst q
          rfl
        · rw [decide_eq_false (fun z => q (V.str.inj z)), beq_eq_false_iff_ne.mpr q]
          rfl
    · refine s_ret (ev_is (ev_andV (a := true) (b := false) (ev_is (ev_call (ea_cons (ev_var rfl) ea_nil) (spv_B hw)) (by rw [hq])) fun _ => ev_is (ev_andV (a := false) (b := false) (ev_is (ev_op (ev_lenQ (ev_var rfl) hsq) ev_c (rv_eq rfl)) (congrArg V.bl (decide_eq_false (by rw [hul]; intro q; exact h3 (by have := V.int.inj q; omega))))) fun z => nomatch z) rfl) ?_) k
      have e : eqL xs = false := by
        unfold eqL
        split
        · exact absurd rfl h3
        · rfl
      rw [e]
      rfl
theorem spv_F0 {f : O → Bool} {v : V} {o : O} {H : Hp} (h : OV H v o) (hs : o.ss = true) (hz : o.sz ≤ 8000) (h3 : o.e3 = true) : SpV (spF 0 f) ([v] ++ []) H (.bl (f o)) := fun H1 e Q q E => ⟨v, o, rfl, h.ext e, hs, hz, h3, q⟩
theorem sc_af : FnScope ["thing", "functions", "predicates", "scope"] ["thing", "functions", "predicates", "scope"] (defScope s_atom_fits) := ⟨rfl, rfl, rfl, by decide +kernel, rfl, by decide +kernel, by decide +kernel⟩
theorem ok_atom_fits (T : T28 P w K mg base) : Ok P w K mg base CX0 "atom_fits" ["thing", "functions", "predicates", "scope"] 5 (spF 3 O.fitA) := by
  obtain ⟨fE, dE, GE, bE, kE, mE⟩ := (ok_is_equality T).ex
  obtain ⟨fP, dP, GP, bP, kP, mP⟩ := (ok_has_places T).ex
  obtain ⟨fN, dN, GN, bN, kN, mN⟩ := (ok_words_fit T).ex
  refine T.ok 18 rfl sc_af (fun vs H Q E h => spF_len h) (fun kV doc pm an cdv ct us hl => match us, hl with | [_, _, _, _], _ => rfl) (fun f cdv A outer s H vs Q E hr h => ?_)
  obtain ⟨v, z, rfl, hw, hss, hz, he3, k⟩ := h
  refine ⟨_, pss_one (ps_ret (pe_and (pe_or (pe_call GE (hr.mono (by decide)) (by rfl) mE kE bE .nil pass0 (pa_cons (pv 0) pa_nil)) (pe_one (pe_call GP (hr.mono (by decide)) (by rfl) mP kP bP .nil pass0 (pa_cons (pv 0) (pa_cons (pv 2) pa_nil)))))
    (pe_one (pe_call GN hr (by rfl) mN kN bN .nil pass0 (pa_cons (pe_slice sl_seq (pv 0) (po_some pe_int) po_none) (pa_cons (pv 1) (pa_cons (pv 3) pa_nil))))))), ?_⟩
  have hor : Ev (tOrV (tCall (spF 0 O.eqB) [] E0 (tCons (tVar 0) tNil)) (tCall spPl [] E0 (tCons (tVar 0) (tCons (tVar 2) tNil)))) (L2.start ["thing", "functions", "predicates", "scope"] (v :: List.replicate 3 .non)) H (.bl (z.eqB || z.placesB)) :=
    ev_orV (ev_call (ea_cons (ev_var rfl) ea_nil) (spv_F0 hw hss hz he3)) fun _ => ev_call (ea_cons (ev_var rfl) (ea_cons (ev_var rfl) ea_nil)) (spv_pl hw hss)
  cases hb : z.eqB || z.placesB with
  | false =>
    rw [hb] at hor
    refine s_ret (ev_is (ev_andV (a := false) (b := false) hor fun z => nomatch z) ?_) k
    cases z with
    | lst xs => show V.bl false = V.bl ((eqL xs || placesL xs) && tailL xs); rw [show (eqL xs || placesL xs) = false from hb]; rfl
    | tup xs => show V.bl false = V.bl ((eqL xs || placesL xs) && tailL xs); rw [show (eqL xs || placesL xs) = false from hb]; rfl
    | _ => rfl
  | true =>
    rw [hb] at hor
    obtain ⟨b, xs, rfl⟩ : ∃ b xs, z = O.seq b xs := by
      cases z with
      | lst xs => exact ⟨true, xs, rfl⟩
      | tup xs => exact ⟨false, xs, rfl⟩
      | _ => cases hb
    obtain ⟨a, us, rfl, ha, hov⟩ := hw.seq
    have hsq : SqB H b a us := ha
    rw [seq_fitA] at k
    rw [seq_eqB, seq_places] at hb
    rw [seq_ss] at hss
    rw [O.seq_sz] at hz
    match xs, hov, hb, k, hss, hz with
    | h :: as, ⟨u, us', e0, hu, has⟩, hb, k, hss, hz =>
      subst e0
      have hsz : O.szs (h :: as) = h.sz + O.szs as := rfl
      refine s_ret (ev_is (ev_andV (a := true) hor fun _ => ev_callNQ (eq_tail (ev_var rfl) hsq) (ea_cons (ev_var rfl) (ea_cons (ev_var rfl) ea_nil)) fun b p H1 e1 h1 H2 e2 Q q E => ⟨p, b, us', as, rfl, h1.ext e2, has.ext (e1.trans e2), (Bool.and_eq_true_iff.mp hss).2, by omega, q⟩) ?_) k
      rw [hb]
      rfl
theorem sc_iaw : FnScope ["thing"] ["thing"] (defScope s_is_any_word) := ⟨rfl, rfl, rfl, by decide +kernel, rfl, by decide +kernel, by decide +kernel⟩
theorem ok_is_any_word (T : T28 P w K mg base) : Ok P w K mg base CX0 "is_any_word" ["thing"] 6 (spF 0 O.fit) := by
  obtain ⟨fN, dN, GN, bN, kN, mN⟩ := (ok_word_fits T).ex
  refine T.ok 19 rfl sc_iaw (fun vs H Q E h => spF_len h) (fun kV doc pm an cdv ct us hl => match us, hl with | [_], _ => rfl) (fun f cdv A outer s H vs Q E hr h => ?_)
  obtain ⟨v, z, rfl, hw, hss, hz, h3, k⟩ := h
  refine ⟨_, pss_one (ps_ret (pe_call GN hr (by rfl) mN kN bN .nil pass0 (pa_cons (pv 0) (pa_cons pe_non (pa_cons pe_non pa_nil))))), ?_⟩
  exact s_ret (ev_call (ea_cons (ev_var rfl) (ea_cons ev_c (ea_cons ev_c ea_nil))) fun H1 e Q q E => ⟨v, z, rfl, hw.ext e, hss, hz, h3, q⟩) k
theorem sc_iaa : FnScope ["thing"] ["thing"] (defScope s_is_any_atom) := ⟨rfl, rfl, rfl, by decide +kernel, rfl, by decide +kernel, by decide +kernel⟩
theorem ok_is_any_atom (T : T28 P w K mg base) : Ok P w K mg base CX0 "is_any_atom" ["thing"] 6 (spF 0 O.fitA) := by
  obtain ⟨fN, dN, GN, bN, kN, mN⟩ := (ok_atom_fits T).ex
  refine T.ok 20 rfl sc_iaa (fun vs H Q E h => spF_len h) (fun kV doc pm an cdv ct us hl => match us, hl with | [_], _ => rfl) (fun f cdv A outer s H vs Q E hr h => ?_)
  obtain ⟨v, z, rfl, hw, hss, hz, h3, k⟩ := h
  refine ⟨_, pss_one (ps_ret (pe_call GN hr (by rfl) mN kN bN .nil pass0 (pa_cons (pv 0) (pa_cons pe_non (pa_cons pe_non (pa_cons pe_non pa_nil)))))), ?_⟩
  exact s_ret (ev_call (ea_cons (ev_var rfl) (ea_cons ev_c (ea_cons ev_c (ea_cons ev_c ea_nil)))) fun H1 e Q q E => ⟨v, z, rfl, hw.ext e, hss, hz, h3, q⟩) k
end
end K28

set_option Elab.async false
set_option linter.all false
set_option maxRecDepth 100000
set_option maxHeartbeats 4000000
/-! An own error raised; checked words. -/
namespace K28
open PySem PySem.Spec PyProof.Rows L2 Evl
/-- what __init__ leaves of a new error -/
def spI (K : PySem.W.Frag) (z : Str) : Sp := fun vs H Q _ => ∃ (a C : Addr) (x : V), vs = [.ref a, x] ∧ OexC K C ∧ PySem.W.findIn K (.ref C) z = some none ∧ H a = some (exo a C none) ∧
  ∀ d, H d = none → d ≠ a → Q .non (upd (upd H d (exd d [(z, x)])) a (exo a C (some d)))
section
variable {P : Program} {w : World} {K : PySem.W.Frag} {mg : Str → Option Value} {base : Heap} {qual : Str} {params : Arguments} {scope : Scope} {fI : Addr} {fd : FuncData} {p1 p2 p3 p4 : Pos}
theorem vis_of {N ps : List Str} {sc : Scope} (S : FnScope N ps sc) {x : Str} (h : x ∈ ps) : Vis sc x := by
  rcases S.par x h with q | q
  · exact .inl q
  · exact .inr (.inl q)
theorem ok_init {z : Str} (z1 : (z == ("__debug__" : Str)) = false) (z2 : (z == ("__classdict__" : Str)) = false) (F : FunD K "__init__" qual params [.Assign [.Attribute (.Name "self" p1) z p2] (.Name z p3) p4] scope [] [] fI fd) (S : FnScope ["self", z] ["self", z] scope) : FnOk P w K mg base CX0 1 fI fd ["self", z] (spI K z) := by
  refine F.ok S (fun vs H Q E hs => ?_) (fun cdv A outer s H vs Q E hr hs => ?_)
  · obtain ⟨a, C, x, rfl, _⟩ := hs
    rfl
  · obtain ⟨a, C, x, rfl, T, hno, ha, k⟩ := hs
    refine ⟨_, PSs.nox (pss_one (ps_ost (pe_var (i := 0) rfl (vis_of S (by simp))) (pe_var (i := 1) rfl (vis_of S (by simp)) z1 z2))), ?_⟩
    exact ⟨_, rfl, _, rfl, a, C, rfl, T, hno, .inl ⟨ha, fun dx n ne => k dx n ne⟩⟩
end
/-- raise x(e) -/
def tRz (K : PySem.W.Frag) (z : Str) (C : Addr) (W : WX) (te : TE) : TS := fun _ σ H => tMkO C (spI K z) [] (tCons te tNil) σ H fun cls d H' => W cls d σ H'
theorem ps_raiseE {X : Cx} {x z : Str} {W : WX} {a : Expr} {te : TE} {p pos pos2 : Pos} (hc : X.calm = true) (T : ErrC X.prog X.w X.K X.mg X.base x z) (tk : Takes X W) (hr : Room 2 X.A) (ha : PE X a te) (hg : Gl X x := by rfl)
    (hdb : (x == ("__debug__" : Str)) = false := by decide) (he : starEach (a :: []) X.env = (false, eval a X.env) :: starEach [] X.env := by rfl) (hpl : (backTo pos (starEach [] X.env)).any (·.1) = false := by rfl) :
    PS X (.Raise (some (.Call (.Name x p) [a] [] pos)) none pos2) (tRz X.K z (He.ga X.K x) W te) := by
  obtain ⟨fI, fd, p1, p2, p3, p4, params, scope, qual, iC, tI, F, S, B⟩ := T.ini
  have G1 := ok_init (P := X.prog) (w := X.w) (mg := X.mg) (base := X.base) T.z1 T.z2 F S
  exact ps_raise hc tk (pmk_oex T.oex iC tI G1 hr B .nil pass0 hg T.gl (pa_cons ha pa_nil he) hdb he hpl)
theorem s_raise {P : Program} {w : World} {K : PySem.W.Frag} {mg : Str → Option Value} {base : Heap} {x z : Str} {σ : L2.St} {H : Hp} {te : TE} {v : V} {W : WX} {D : Ends} (T : ErrC P w K mg base x z) (h : Ev te σ H v)
    (q : ∀ (d : Addr) (G : Hp), Ex H G → G d = some (.xd [(z, v)]) → W (.ref (He.ga K x)) (some d) σ G) : tRz K z (He.ga K x) W te D σ H :=
  h H (Ex.refl H) _ fun H1 e1 => ⟨by show 1 ≤ 1000; decide, fun a na => ⟨a, _, v, rfl, T.oex, T.no, upd_same, fun d nd ne => ⟨rfl, d, [(z, v)], upd_same, by rw [upd_ne ne, upd_same], by
    rw [upd_ne ne] at nd
    exact nd, q d _ (fun b o e => by
      rw [upd_ne ne] at nd
      have e2 := e1 _ _ e
      have nbd : b ≠ d := ne_of_none e2 nd
      have nba : b ≠ a := ne_of_none e2 na
      rw [upd_ne nbd, del_ne nba, upd_ne nba, upd_ne nbd, upd_ne nba]
      exact e2) upd_same⟩⟩⟩
/-- a word or an atom, all in it known -/
structure Rd (H : Hp) (v : V) (o : O) : Prop where
  ov : OV H v o
  ss : o.ss = true
  sz : o.sz ≤ 8000
  e3 : o.e3 = true
theorem Rd.ext {H G : Hp} {v : V} {o : O} (e : Ex H G) (h : Rd H v o) : Rd G v o := ⟨h.ov.ext e, h.ss, h.sz, h.e3⟩
section
variable {P : Program} {w : World} {K : PySem.W.Frag} {mg : Str → Option Value} {base : Heap}
/-- an error that keeps v -/
def BadZ (K : PySem.W.Frag) (x z : Str) (v : V) (H : Hp) (E : XK) : Prop := ∀ (d : Addr) (G : Hp), Ex H G → G d = some (.xd [(z, v)]) → E (.ref (He.ga K x)) (some d) G
theorem BadZ.mono {x z : Str} {v : V} {H G : Hp} {E : XK} (h : BadZ K x z v H E) (e : Ex H G) : BadZ K x z v G E := fun d G2 e2 hd => h d G2 (e.trans e2) hd
abbrev Bad (K : PySem.W.Frag) (x : Str) (v : V) (H : Hp) (E : XK) : Prop := BadZ K x "thing" v H E
def spCw (K : PySem.W.Frag) : Sp := fun vs H Q E => ∃ v o, vs = [v] ∧ Rd H v o ∧ (o.fitW = true → ∀ (u : V) (G : Hp), Ex H G → OV G u o.strip → Q u G) ∧ (o.fitW = false → Bad K "BadWord" v H E)
theorem sc_cw : FnScope ["thing"] ["thing"] (defScope s_checked_word) := ⟨rfl, rfl, rfl, by decide +kernel, rfl, by decide +kernel, by decide +kernel⟩
theorem ok_checked_word (T : T28 P w K mg base) : Ok P w K mg base (L2.CX P w) "checked_word" ["thing"] 7 (spCw K) := by
  obtain ⟨fN, dN, GN, bN, kN, mN⟩ := (ok_is_any_word T).ex
  obtain ⟨fA, dA, GA, bA, kA, mA⟩ := (ok_is_any_atom T).ex
  obtain ⟨fF, dF, GF, bF, kF, mF⟩ := (ok_frozen T).ex
  refine T.okX 22 rfl sc_cw (fun vs H Q E h => ?_) (fun kV doc pm an cdv ct us hl => match us, hl with | [_], _ => rfl) (fun f cdv A outer s H vs Q E hr h => ?_)
  · obtain ⟨v, z, rfl, _⟩ := h
    rfl
  · obtain ⟨v, z, rfl, hw, k1, k2⟩ := h
    refine ⟨_, pss_cons (ps_if (PW.pt (pw_and (pt_not (pt_val (pe_call GN hr (by rfl) mN kN bN .nil pass0 (pa_cons (pv 0) pa_nil)))) (pw_and1 (pt_not (pt_val (pe_call GA hr (by rfl) mA kA bA .nil pass0 (pa_cons (pv 0) pa_nil)))))))
        (pss_one (ps_raiseE rfl T.bw (takes_of rfl rfl rfl rfl) (hr.mono (by decide)) (pv 0))) pss_nil)
      (pss_one (ps_ret (pe_call GF (hr.mono (by decide)) (by rfl) mF kF bF .nil pass0 (pa_cons (pv 0) pa_nil)))), ?_⟩
    refine q_when (b := !z.fit && !z.fitA) (et_and (et_not (et_B (ev_call (ea_cons (ev_var rfl) ea_nil) (spv_F0 hw.ov hw.ss hw.sz hw.e3)))) fun _ => et_not (et_B (ev_call (ea_cons (ev_var rfl) ea_nil) (spv_F0 hw.ov hw.ss hw.sz hw.e3)))) (fun hb H1 e1 => ?_) fun hb H1 e1 => ?_
    · have hno : z.fitW = false := by
        unfold O.fitW
        cases h1 : z.fit <;> cases h2 : z.fitA <;> simp_all
      exact s_raise T.bw (ev_var rfl) fun d G e hd => k2 hno d G (e1.trans e) hd
    · have hyes : z.fitW = true := by
        unfold O.fitW
        cases h1 : z.fit <;> cases h2 : z.fitA <;> simp_all
      have hsz := hw.sz
      refine ev_var (v := v) rfl H1 (Ex.refl _) _ fun H2 e2 => ?_
      exact ⟨v, z, rfl, hw.ov.ext (e1.trans e2), by omega, fitW_nod hyes, fun u G e hu => k1 hyes u G ((e1.trans e2).trans e) hu⟩
end
end K28

set_option Elab.async false
set_option linter.all false
set_option maxRecDepth 100000
set_option maxHeartbeats 4000000
/-! Right words as trees; places in them. -/
namespace K28
open PySem PySem.Spec PyProof.Rows L2 Evl
inductive W where
  | v (s : Str) | n (s : Str) (as : List W)
mutual
def W.o : W → O
  | .v s => .str s
  | .n s as => .tup (.str s :: W.os as)
def W.os : List W → List O
  | [] => []
  | x :: xs => x.o :: W.os xs
end
mutual
def W.dp : W → Nat
  | .v _ => 0
  | .n _ as => W.dps as + 1
def W.dps : List W → Nat
  | [] => 0
  | x :: xs => max x.dp (W.dps xs)
end
mutual
def W.sz : W → Nat
  | .v _ => 1
  | .n _ as => W.szs as + 2
def W.szs : List W → Nat
  | [] => 0
  | x :: xs => x.sz + W.szs xs
end
def WV (H : Hp) (u : V) (w : W) : Prop := OV H u w.o
def WVs (H : Hp) (us : List V) (ws : List W) : Prop := OVs H us (W.os ws)
mutual
theorem W.noL : ∀ w : W, w.o.hasL = false
  | .v _ => rfl
  | .n _ as => by show (false || O.hasLs (W.os as)) = false; rw [W.noLs as]; rfl
theorem W.noLs : ∀ ws : List W, O.hasLs (W.os ws) = false
  | [] => rfl
  | x :: xs => by show (x.o.hasL || O.hasLs (W.os xs)) = false; rw [W.noL x, W.noLs xs]; rfl
end
mutual
theorem W.nod : ∀ w : W, w.o.nod = true
  | .v _ => rfl
  | .n _ as => by show (true && O.nods (W.os as)) = true; rw [W.nods as]; rfl
theorem W.nods : ∀ ws : List W, O.nods (W.os ws) = true
  | [] => rfl
  | x :: xs => by show (x.o.nod && O.nods (W.os xs)) = true; rw [W.nod x, W.nods xs]; rfl
end
mutual
theorem W.osz : ∀ w : W, w.o.sz = w.sz
  | .v _ => rfl
  | .n _ as => by show (1 + O.szs (W.os as)) + 1 = W.szs as + 2; rw [W.oszs as]; omega
theorem W.oszs : ∀ ws : List W, O.szs (W.os ws) = W.szs ws
  | [] => rfl
  | x :: xs => by show x.o.sz + O.szs (W.os xs) = x.sz + W.szs xs; rw [W.osz x, W.oszs xs]
end
theorem W.os_map : ∀ ws : List W, W.os ws = ws.map W.o
  | [] => rfl
  | x :: xs => congrArg (x.o :: ·) (W.os_map xs)
section
variable {H G : Hp} {u : V} {w : W}
theorem WV.tx (e : Tx H G) (h : WV H u w) : WV G u w := OV.tx e w.noL w.nod h
theorem WV.ext (e : Ex H G) (h : WV H u w) : WV G u w := OV.ext e h
theorem WVs.tx {us : List V} {ws : List W} (e : Tx H G) (h : WVs H us ws) : WVs G us ws := OVs.tx e (W.noLs ws) (W.nods ws) h
theorem WVs.ext {us : List V} {ws : List W} (e : Ex H G) (h : WVs H us ws) : WVs G us ws := OVs.ext e h
theorem WVs.length {us : List V} {ws : List W} (h : WVs H us ws) : us.length = ws.length := by
  rw [OVs.length h, W.os_map, List.length_map]
theorem WVs.get {us : List V} {ws : List W} {i : Nat} {x : W} (h : WVs H us ws) (e : ws[i]? = some x) : ∃ v, us[i]? = some v ∧ WV H v x :=
  OVs.geto h (by rw [W.os_map, List.getElem?_map, e]; rfl)
theorem WVs.getv {us : List V} {ws : List W} {i : Nat} {v : V} (h : WVs H us ws) (e : us[i]? = some v) : ∃ x, ws[i]? = some x ∧ WV H v x := by
  obtain ⟨o, a, b⟩ := OVs.get h e
  rw [W.os_map, List.getElem?_map] at a
  obtain ⟨x, hx, rfl⟩ := Option.map_eq_some_iff.mp a
  exact ⟨x, hx, b⟩
/-- what is no variable is a tuple: its name, its parts -/
theorem WV.tup {s : Str} {as : List W} (h : WV H u (.n s as)) : ∃ r us, u = .ref r ∧ H r = some (.tup (.str s :: us)) ∧ WVs H us as := by
  obtain ⟨r, vs, e, h1, v0, us, e2, h0, h2⟩ := h
  subst e2
  obtain rfl : v0 = .str s := h0
  exact ⟨r, us, e, h1, h2⟩
theorem WV.of {s : Str} {as : List W} {r : Addr} {us : List V} (h : H r = some (.tup (.str s :: us))) (k : WVs H us as) : WV H (.ref r) (.n s as) := ⟨r, _, rfl, h, _, _, rfl, rfl, k⟩
theorem WV.str {s : Str} (h : WV H u (.v s)) : u = .str s := h
end
theorem W.lt_dp : ∀ {as : List W} {i : Nat} {x : W}, as[i]? = some x → x.dp ≤ W.dps as
  | [], _, _, e => by simp at e
  | a :: as, 0, x, e => by
    obtain rfl : a = x := by simpa using e
    exact Nat.le_max_left _ _
  | a :: as, i + 1, x, e => Nat.le_trans (W.lt_dp (as := as) (i := i) (by simpa using e)) (Nat.le_max_right _ _)
theorem W.lt_sz : ∀ {as : List W} {i : Nat} {x : W}, as[i]? = some x → x.sz ≤ W.szs as
  | [], _, _, e => by simp at e
  | a :: as, 0, x, e => by
    obtain rfl : a = x := by simpa using e
    exact Nat.le_add_right _ _
  | a :: as, i + 1, x, e => Nat.le_trans (W.lt_sz (as := as) (i := i) (by simpa using e)) (Nat.le_add_left _ _)
/-- the part at a place -/
def W.at : W → List Nat → Option W
  | w, [] => some w
  | .v _, _ :: _ => none
  | .n _ as, i :: p => match as[i]? with
    | some x => x.at p
    | none => none
section
variable {K : PySem.W.Frag} {σ : L2.St} {H G : Hp} {te ta tb tl : TE} {v : V} {D : Ends} {tz tu : TS} {tt : TT}
/-- over a list or a tuple -/
abbrev iQ (K : PySem.W.Frag) (tl : TE) : TI := fun σ H R => iList K tl σ H R ∨ iTup K tl σ H R
theorem pi_or {X : Cx} {tg e : Expr} {i1 i2 : TI} (h1 : PI X tg e i1) (h2 : PI X tg e i2) : PI X tg e (fun σ H R => i1 σ H R ∨ i2 σ H R) :=
  ⟨fun pins s σ H R I h => h.elim (h1.run pins s σ H R I) (h2.run pins s σ H R I)⟩
theorem pi_seq {X : Cx} {tg l : Expr} (hl : PE X l tl) : PI X tg l (iQ X.K tl) := pi_or (pi_list hl) (pi_tup hl)
theorem q_forQ {b : Bool} {a : Addr} {xs : List V} {j : Nat} (h : Ev tl σ H (.ref a)) (hx : SqB H b a xs) (Pv : Nat → L2.St → Hp → Prop) (h0 : ∀ H1, Ex H H1 → Pv 0 σ H1) (hl : ∀ i σ' H', i ≤ xs.length → Pv i σ' H' → SqB H' b a xs)
    (hs : ∀ i x σ' H', xs[i]? = some x → Pv i σ' H' → tu { D with nx := Pv (i + 1), ct := Pv (i + 1), bk := tz D } (σ'.set j (some x)) H') (hd : ∀ σ' H', Pv xs.length σ' H' → tz D σ' H') : tSeq (tFor (iQ K tl) (gName j) tu) tz D σ H := by
  cases b with
  | true => exact .inl (q_forLn h (sq_of hx) Pv h0 (fun i σ' H' hi p => sq_of (hl i σ' H' hi p)) hs hd)
  | false => exact .inr (q_forT h (st_of hx) Pv h0 (fun i σ' H' hi p => st_of (hl i σ' H' hi p)) hs hd)
theorem el_lcQ {b : Bool} {a : Addr} {xs : List V} {j : Nat} {vs : List Nat} (f : Nat → Bool) (g : Nat → V) (h : Ev tl σ H (.ref a)) (hx : SqB H b a xs) (hz : xs.length ≤ 40000) (hw : ∀ x, wipe ((wipe σ vs).set j (some x)) vs = wipe σ vs)
    (ht : ∀ (i : Nat) (x : V) H1, Ex H H1 → xs[i]? = some x → EvT tt ((wipe σ vs).set j (some x)) H1 (f i)) (he : ∀ (i : Nat) (x : V) H1, Ex H H1 → xs[i]? = some x → f i = true → Ev te ((wipe σ vs).set j (some x)) H1 (g i)) :
    EvL (tLc (iQ K tl) (gName j) tt te vs) σ H (given xs.length f g) := by
  cases b with
  | true => exact fun H1 e Q q => .inl (el_lcL f g h (sq_of hx) hz hw ht he H1 e Q q)
  | false =>
    exact fun H0 e Q q => .inr (h H0 e _ fun H1 e1 => ⟨a, rfl, ⟨xs, ex_t (e.trans e1) (st_of hx)⟩, fun Dl hD =>
      lc_tup (xs := xs) (Cw H1 f g Dl) ⟨hD, Ex.new hD, upd_same⟩ (fun i H' _ p => ex_t ((e.trans e1).trans p.2.1) (st_of hx)) (fun i x H' hi p => ⟨hw x, cw_turn p (by have := (List.getElem?_eq_some_iff.mp hi).1; omega) (ht i x H1 (e.trans e1) hi) (fun hf => he i x H1 (e.trans e1) hi hf)⟩)
        (fun H' p => q Dl H' (fresh_back e1 p.1) (e1.trans p.2.1) p.2.2)⟩)
end
/-- numbers as they stand in a row -/
def nums (p : List Nat) : List V := p.map fun i : Nat => V.int (i : Nat)
theorem nums_len (p : List Nat) : (nums p).length = p.length := by simp [nums]
theorem nums_get {p : List Nat} {i : Nat} {x : V} (h : (nums p)[i]? = some x) : ∃ k, p[i]? = some k ∧ x = .int (k : Int) := by
  unfold nums at h
  rw [List.getElem?_map] at h
  obtain ⟨k, a, b⟩ := Option.map_eq_some_iff.mp h
  exact ⟨k, a, b.symm⟩
section
variable {P : Program} {w : World} {K : PySem.W.Frag} {mg : Str → Option Value} {base : Heap}
def optV (H : Hp) (u : V) : Option W → Prop
  | none => u = .non
  | some x => WV H u x
def spPa : Sp := fun vs H Q _ => ∃ (u : V) (a : Addr) (b : Bool) (z : W) (p : List Nat), vs = [u, .ref a] ∧ WV H u z ∧ SqB H b a (nums p) ∧ ∀ (r : V) (G : Hp), Ex H G → optV G r (z.at p) → Q r G
theorem sc_pa : FnScope ["word", "place", "index"] ["word", "place"] (defScope s_part_at) := ⟨rfl, rfl, rfl, by decide +kernel, rfl, by decide +kernel, by decide +kernel⟩
theorem at_snoc : ∀ {p : List Nat} {z : W} {k : Nat}, z.at (p ++ [k]) = (z.at p).bind fun x => x.at [k]
  | [], z, k => by cases z <;> rfl
  | i :: p, .v s, k => rfl
  | i :: p, .n s as, k => by
    show (match as[i]? with | some x => x.at (p ++ [k]) | none => none) = (match as[i]? with | some x => x.at p | none => none).bind fun x => x.at [k]
    cases as[i]? with
    | none => rfl
    | some x => exact at_snoc (p := p) (z := x)
theorem at_none {z : W} {p r : List Nat} (h : z.at p = none) : z.at (p ++ r) = none := by
  induction r generalizing p with
  | nil => rw [List.append_nil]; exact h
  | cons k r ih =>
    have e : p ++ k :: r = (p ++ [k]) ++ r := by simp
    rw [e]
    refine ih ?_
    rw [at_snoc, h]
    rfl
theorem ok_part_at (T : T28 P w K mg base) : Ok P w K mg base CX0 "part_at" ["word", "place"] 1 spPa := by
  refine T.ok 12 rfl sc_pa (fun vs H Q E h => ?_) (fun kV doc pm an cdv ct us hl => match us, hl with | [_, _], _ => rfl) (fun f cdv A outer s H vs Q E hr h => ?_)
  · obtain ⟨u, a, b, z, p, rfl, _⟩ := h
    rfl
  · obtain ⟨u, a, b, z, p, rfl, hw, ha, k⟩ := h
    refine ⟨_, pss_cons (ps_for PassesOwn.never rfl (pi_seq (pv 1)) (pg_name (i := 2) sc_pa.nd rfl (Or.inl rfl))
        (pss_cons (ps_if (PW.pt (pw_or (pt_val (pe_isiB T.isi T.str PyProof.Rows.boot_str (pv 0))) (pw_or1 (pt_cmpR op_ge (pv 2) (pe_op op_sub (pe_callB call_len (by rfl) T.len PySem.boot_len (pa_cons (pv 0) pa_nil)) pe_int) (nomark _))))) (pss_one (ps_ret pe_non)) pss_nil)
        (pss_one (ps_set (i := 0) sc_pa.nd rfl (Or.inl rfl) (pe_ix ix_tup (pv 0) (pe_op op_add (pv 2) pe_int) (fun _ _ => rfl))))))
      (pss_one (ps_ret (pv 0))), ?_⟩
    refine q_forQ (b := b) (xs := nums p) (ev_var rfl) ha (fun i σ' H' => ∃ (r : V) (o : Option V) (x : W), σ' = [some r, some (.ref a), o] ∧ Ex H H' ∧ WV H' r x ∧ z.at (p.take i) = some x) ?_ ?_ ?_ ?_
    · exact fun H1 e1 => ⟨u, none, z, rfl, e1, hw.ext e1, rfl⟩
    · rintro i σ' H' hi ⟨r, o, x, rfl, e, _⟩
      exact ha.ext e
    · rintro i y σ' H' hy ⟨r, o, x, rfl, e, hx, hat⟩
      obtain ⟨j, hj, rfl⟩ := nums_get hy
      have hpt : p.take (i + 1) = p.take i ++ [j] := take_snoc hj
      have hsplit : p = p.take (i + 1) ++ p.drop (i + 1) := (List.take_append_drop _ _).symm
      have fin : z.at (p.take (i + 1)) = none → z.at p = none := fun q => by
        rw [hsplit]
        exact at_none q
      cases x with
      | v s =>
        obtain rfl : r = .str s := hx
        refine q_when (b := true) (et_is (et_or (a := true) (b := true) (et_B (ev_isStr (o := .str s) (ev_var rfl) rfl)) fun z => nomatch z) rfl) (fun _ H1 e1 => ?_) fun z => nomatch z
        refine s_ret ev_c fun G e2 => k .non G ((e.trans e1).trans e2) ?_
        rw [fin (by rw [hpt, at_snoc, hat]; rfl)]
        rfl
      | n s as =>
        obtain ⟨t, us, rfl, ht, hus⟩ := hx.tup
        have hul := hus.length
        have hlen : (V.str s :: us).length = us.length + 1 := rfl
        refine q_when (b := decide (as.length ≤ j)) (et_is (et_or (a := false) (et_B (ev_isStr (o := .tup (.str s :: W.os as)) (ev_var rfl) ⟨t, _, rfl, ht, _, _, rfl, rfl, hus⟩)) fun _ => et_test (ev_op (ev_var rfl) (ev_op (ev_lenT (ev_var rfl) (st_of ht)) ev_c rv_I0) rv_I0)) ?_) (fun hb H1 e1 => ?_) fun hb H1 e1 => ?_
        · show (false || decide ((j : Int) ≥ (((V.str s :: us).length : Nat) : Int) - 1)) = _
          rw [Bool.false_or]
          by_cases q : as.length ≤ j
          · rw [decide_eq_true q, decide_eq_true (by rw [hlen]; omega)]
          · rw [decide_eq_false q, decide_eq_false (by rw [hlen]; omega)]
        · have hb' := of_decide_eq_true hb
          refine s_ret ev_c fun G e2 => k .non G ((e.trans e1).trans e2) ?_
          rw [fin (by rw [hpt, at_snoc, hat]; show (match as[j]? with | some x => W.at x [] | none => none) = none; rw [List.getElem?_eq_none_iff.mpr hb'])]
          rfl
        · have hb' : j < as.length := by have := of_decide_eq_false hb; omega
          obtain ⟨x', hx'⟩ : ∃ x', as[j]? = some x' := ⟨as[j], by simp [hb']⟩
          obtain ⟨y', hy', hwy⟩ := hus.get hx'
          have ht1 := e1 _ _ ht
          refine s_asg (ev_op (z := y') (y := .int ((j : Int) + 1)) (ev_var rfl) (ev_op (ev_var rfl) ev_c rv_I0) (rv_ixT (st_of ht1) ?_)) fun H2 e2 => ⟨y', _, x', rfl, (e.trans e1).trans e2, (hwy.ext e1).ext e2, ?_⟩
          · show atI (V.str s :: us) ((j : Int) + 1) = some y'
            rw [show ((j : Int) + 1) = ((j + 1 : Nat) : Int) by omega]
            exact atI_nat (j := j + 1) (by simpa using hy')
          · rw [hpt, at_snoc, hat]
            show (match as[j]? with | some x => W.at x [] | none => none) = some x'
            rw [hx']
            cases x' <;> rfl
    · rintro σ' H' ⟨r, o, x, rfl, e, hx, hat⟩
      rw [nums_len, List.take_of_length_le (Nat.le_refl _)] at hat
      refine s_ret (ev_var rfl) fun G e2 => k r G (e.trans e2) ?_
      rw [hat]
      exact hx.ext e2
end
end K28

set_option Elab.async false
set_option linter.all false
set_option maxRecDepth 100000
set_option maxHeartbeats 4000000
/-! All places of a word. -/
namespace K28
open PySem PySem.Spec PyProof.Rows L2 Evl
section
variable {K : PySem.W.Frag} {σ : L2.St} {H G : Hp} {te ta tb tl tk tx : TE} {tt : TT} {v : V} {D : Ends} {tu tz : TS}
theorem s_extLP {l : Addr} {xs : List V} {P : List V → Hp → Prop} (hl : H l = some (.lst xs)) (ha : Ev ta σ H (.ref l)) (hb : EvLP te σ H P) (hs : ∀ zs G, P zs G → xs.length + zs.length ≤ 100000) (k : ∀ zs H1, Ex H H1 → P zs H1 → D.nx σ (upd H1 l (.lst (xs ++ zs)))) :
    tDrop (tBM K "list" rExtend ta (tCons te tNil)) D σ H := ha H (Ex.refl H) _ fun H1 e1 => ⟨.inl ⟨rfl, _, sq_of (e1 l _ hl)⟩, hb H1 e1 _ fun p zs H2 _ e2 hp pz =>
  ⟨l, p, xs, zs, rfl, rfl, e2 l _ (e1 l _ hl), hp, sz_of (hs zs H2 pz), k zs H2 (e1.trans e2) pz⟩⟩
theorem et_yes : EvT tYes σ H true := fun H1 e Q q => q H1 (Ex.refl _)
theorem s_forEnumNT {xs : List V} {j1 j2 : Nat} (h : EvU tl σ H xs) (Pv : Nat → L2.St → Hp → Prop) (h0 : ∀ H1, Ex H H1 → Pv 0 σ H1)
    (hs : ∀ (i : Nat) x σ' H' H2, xs[i]? = some x → Pv i σ' H' → Ex H' H2 → ∀ N : L2.St → Hp → Prop, (∀ σ3 H3, Pv (i + 1) σ3 H3 → Tx H2 H3 → N σ3 H3) → tu { D with nx := N, ct := N, bk := D.nx } ((σ'.set j1 (some (.int i))).set j2 (some x)) H2) (hd : ∀ σ' H', Pv xs.length σ' H' → D.nx σ' H') : tFor (iEnumT K (tCons tl tNil)) (gPair K j1 j2) tu D σ H :=
  q_forEnumNT (D := D) (tz := fun D => D.nx) h Pv h0 hs hd
end
theorem filter_true (l : List Nat) : (l.filter fun _ => true) = l := List.filter_eq_self.mpr fun _ _ => rfl
theorem A2.of_get {α β : Type} {R : α → β → Prop} : ∀ {as : List α} {bs : List β}, as.length = bs.length → (∀ (i : Nat) a b, as[i]? = some a → bs[i]? = some b → R a b) → A2 R as bs
  | [], [], _, _ => trivial
  | a :: as, b :: bs, h, k => ⟨k 0 a b rfl rfl, A2.of_get (Nat.succ.inj h) fun i x y e1 e2 => k (i + 1) x y (by simpa using e1) (by simpa using e2)⟩
  | [], _ :: _, h, _ => nomatch h
  | _ :: _, [], h, _ => nomatch h
theorem a2_range {β : Type} {R : V → β → Prop} {L : List β} {n : Nat} {acc : List V} (hn : n = L.length) (h : A2 (fun j y => ∃ q, L[j]? = some q ∧ R y q) (List.range n) acc) : A2 R acc L := by
  have hl := h.length
  rw [List.length_range] at hl
  refine A2.of_get (by omega) fun i a b e1 e2 => ?_
  obtain ⟨j, hj, q, hq, hr⟩ := h.getb e1
  have hil : i < n := by have := (List.getElem?_eq_some_iff.mp e1).1; omega
  rw [List.getElem?_range hil] at hj
  obtain rfl : i = j := Option.some.inj hj
  rw [hq] at e2
  obtain rfl : q = b := Option.some.inj e2
  exact hr
mutual
def W.parts : W → List (List Nat × W)
  | .v s => [([], .v s)]
  | .n s as => ([], .n s as) :: W.partsL 0 as
def W.partsL : Nat → List W → List (List Nat × W)
  | _, [] => []
  | i, a :: as => (a.parts.map fun q => (i :: q.1, q.2)) ++ W.partsL (i + 1) as
end
theorem W.partsL_snoc : ∀ (xs : List W) (x : W) (j : Nat), W.partsL j (xs ++ [x]) = W.partsL j xs ++ x.parts.map fun q => ((j + xs.length) :: q.1, q.2)
  | [], x, j => by simp [W.partsL]
  | y :: ys, x, j => by
    show (y.parts.map fun q => (j :: q.1, q.2)) ++ W.partsL (j + 1) (ys ++ [x]) = ((y.parts.map fun q => (j :: q.1, q.2)) ++ W.partsL (j + 1) ys) ++ _
    rw [W.partsL_snoc ys x (j + 1), List.append_assoc]
    have e : j + 1 + ys.length = j + (y :: ys).length := by simp; omega
    rw [e]
mutual
theorem W.parts_len : ∀ w : W, w.parts.length ≤ w.sz
  | .v _ => Nat.le_refl _
  | .n _ as => by
    have := W.partsL_len 0 as
    show (W.partsL 0 as).length + 1 ≤ W.szs as + 2
    omega
theorem W.partsL_len : ∀ (i : Nat) (ws : List W), (W.partsL i ws).length ≤ W.szs ws
  | _, [] => Nat.le_refl _
  | i, x :: xs => by
    have h1 := W.parts_len x
    have h2 := W.partsL_len (i + 1) xs
    show ((x.parts.map _) ++ W.partsL (i + 1) xs).length ≤ x.sz + W.szs xs
    rw [List.length_append, List.length_map]
    omega
end
mutual
theorem W.parts_deep : ∀ (w : W) (q : List Nat × W), q ∈ w.parts → q.1.length ≤ w.dp
  | .v _, q, h => by
    obtain rfl : q = _ := by simpa [W.parts] using h
    exact Nat.le_refl _
  | .n s as, q, h => by
    rcases List.mem_cons.mp h with rfl | h
    · exact Nat.zero_le _
    · exact W.partsL_deep 0 as q h
theorem W.partsL_deep : ∀ (i : Nat) (ws : List W) (q : List Nat × W), q ∈ W.partsL i ws → q.1.length ≤ W.dps ws + 1
  | _, [], q, h => nomatch h
  | i, x :: xs, q, h => by
    rcases List.mem_append.mp h with h | h
    · obtain ⟨r, hr, rfl⟩ := List.mem_map.mp h
      have h1 := W.parts_deep x r hr
      have h2 : x.dp ≤ W.dps (x :: xs) := Nat.le_max_left _ _
      show r.1.length + 1 ≤ _
      omega
    · have h1 := W.partsL_deep (i + 1) xs q h
      have h2 : W.dps xs ≤ W.dps (x :: xs) := Nat.le_max_right _ _
      omega
end
/-- what is told of a place: its list, B of it -/
def PlV (B : Addr → Prop) (H : Hp) (x : V) (p : List Nat) : Prop := ∃ l, x = .ref l ∧ B l ∧ H l = some (.lst (nums p))
theorem PlV.mut {B B' : Addr → Prop} {H G : Hp} {x : V} {p : List Nat} (h : PlV B H x p) (l : ∀ a o, B a → H a = some o → G a = some o) (b : ∀ a, B a → B' a) : PlV B' G x p := by
  obtain ⟨a, rfl, h1, h2⟩ := h
  exact ⟨a, rfl, b _ h1, l _ _ h1 h2⟩
section
variable {P : Program} {w : World} {K : PySem.W.Frag} {mg : Str → Option Value} {base : Heap}
def plc (z : W) : List (List Nat) := z.parts.map (·.1)
def plcL (i : Nat) (ws : List W) : List (List Nat) := (W.partsL i ws).map (·.1)
theorem plcL_snoc (xs : List W) (x : W) : plcL 0 (xs ++ [x]) = plcL 0 xs ++ (plc x).map fun p => xs.length :: p := by
  unfold plcL plc
  rw [W.partsL_snoc, List.map_append, List.map_map, List.map_map, Nat.zero_add]
  rfl
def spPi (m : Nat) : Sp := fun vs H Q _ => ∃ v z, vs = [v] ∧ WV H v z ∧ z.dp < m ∧ m ≤ 40 ∧ z.sz ≤ 9000 ∧
  ∀ p xs H', H p = none → Ex H H' → H' p = some (.lst xs) → A2 (PlV (fun l => H l = none ∧ l ≠ p) H') xs (plc z) → Q (.ref p) H'
abbrev nPi : List Str := ["word", "told", "index", "part", "place"]
end
end K28

set_option Elab.async false
set_option linter.all false
set_option maxRecDepth 100000
set_option maxHeartbeats 4000000
/-! places, word_at. -/
namespace K28
open PySem PySem.Spec PyProof.Rows L2 Evl
/-- numbers told by any object: a list or a tuple of them -/
def numL : List O → Option (List Nat)
  | [] => some []
  | .int i :: r => if 0 ≤ i then (numL r).map (i.toNat :: ·) else none
  | _ :: _ => none
def O.numQ : O → Option (List Nat)
  | .lst xs => numL xs
  | .tup xs => numL xs
  | _ => none
def goodP (z : W) (o : O) : Bool := match o.numQ with
  | some p => (z.at p).isSome
  | none => false
theorem numL_some : ∀ {xs : List O} {p : List Nat} {H : Hp} {us : List V}, numL xs = some p → OVs H us xs → us = nums p ∧ ∀ (i : Nat) (o : O), xs[i]? = some o → o.isNumber = true
  | [], p, H, us, h, k => by
    obtain rfl : [] = p := Option.some.inj h
    exact ⟨k, fun i o e => by simp at e⟩
  | .int i :: r, p, H, us, h, ⟨u, us', e, hu, k⟩ => by
    unfold numL at h
    by_cases q : 0 ≤ i
    · rw [if_pos q] at h
      obtain ⟨p', hp, rfl⟩ := Option.map_eq_some_iff.mp h
      obtain ⟨a, b⟩ := numL_some hp k
      obtain rfl : u = .int i := hu
      refine ⟨?_, fun j o e2 => ?_⟩
      · rw [e, a]
        show _ = V.int ((i.toNat : Nat) : Int) :: nums p'
        rw [Int.toNat_of_nonneg q]
      · cases j with
        | zero =>
          obtain rfl : O.int i = o := by simpa using e2
          exact decide_eq_true q
        | succ j => exact b j o (by simpa using e2)
    · rw [if_neg q] at h
      cases h
  | .non :: _, _, _, _, h, _ => nomatch h
  | .bl _ :: _, _, _, _, h, _ => nomatch h
  | .str _ :: _, _, _, _, h, _ => nomatch h
  | .dct :: _, _, _, _, h, _ => nomatch h
  | .lst _ :: _, _, _, _, h, _ => nomatch h
  | .tup _ :: _, _, _, _, h, _ => nomatch h
theorem numL_none : ∀ {xs : List O}, numL xs = none → ∃ (i : Nat) (o : O), xs[i]? = some o ∧ o.isNumber = false
  | [], h => nomatch h
  | .int i :: r, h => by
    unfold numL at h
    by_cases q : 0 ≤ i
    · rw [if_pos q] at h
      obtain ⟨j, o, a, b⟩ := numL_none (Option.map_eq_none_iff.mp h)
      exact ⟨j + 1, o, by simpa using a, b⟩
    · exact ⟨0, .int i, rfl, decide_eq_false q⟩
  | .non :: _, _ => ⟨0, _, rfl, rfl⟩
  | .bl _ :: _, _ => ⟨0, _, rfl, rfl⟩
  | .str _ :: _, _ => ⟨0, _, rfl, rfl⟩
  | .dct :: _, _ => ⟨0, _, rfl, rfl⟩
  | .lst _ :: _, _ => ⟨0, _, rfl, rfl⟩
  | .tup _ :: _, _ => ⟨0, _, rfl, rfl⟩
theorem given_pos {n : Nat} {f : Nat → Bool} {g : Nat → V} {i : Nat} (h : i < n) (k : f i = true) : 0 < (given n f g).length := by
  unfold given
  rw [List.length_map]
  exact List.length_pos_iff_exists_mem.mpr ⟨i, List.mem_filter.mpr ⟨List.mem_range.mpr h, k⟩⟩
theorem ev_lenNG {K : PySem.W.Frag} {σ : L2.St} {H : Hp} {te : TE} {xs : List V} (h : EvL te σ H xs) : Ev (tLen K te) σ H (.int (xs.length : Nat)) := fun H1 e Q q => h H1 e _ fun p H2 _ e2 hp => ⟨.ref p, xs.length, rfl, .inl ⟨xs, sq_of hp, rfl⟩, q H2 e2⟩
theorem given_zero {n : Nat} {f : Nat → Bool} {g : Nat → V} (h : ∀ i, i < n → f i = false) : given n f g = [] := by
  unfold given
  rw [List.filter_eq_nil_iff.mpr fun i hi q => by rw [h i (List.mem_range.mp hi)] at q; cases q]
  rfl
section
variable {P : Program} {w : World} {K : PySem.W.Frag} {mg : Str → Option Value} {base : Heap}
def spCp (K : PySem.W.Frag) : Sp := fun vs H Q E => ∃ (u v : V) (z : W) (o : O), vs = [u, v] ∧ WV H u z ∧ OV H v o ∧ o.sz ≤ 9000 ∧ (goodP z o = true → RetV .non H Q) ∧ (goodP z o = false → Bad K "BadPlace" v H E)
abbrev nCp : List Str := ["word", "place", "index"]
theorem sc_cp : FnScope nCp ["word", "place"] (defScope s_check_place) := ⟨rfl, rfl, rfl, by decide +kernel, rfl, by decide +kernel, by decide +kernel⟩
theorem ok_check_place (T : T28 P w K mg base) : Ok P w K mg base (L2.CX P w) "check_place" ["word", "place"] 4 (spCp K) := by
  obtain ⟨fL, dL, GL, bL, kL, mL⟩ := (ok_is_list T).ex
  obtain ⟨fN, dN, GN, bN, kN, mN⟩ := (ok_is_number T).ex
  obtain ⟨fA, dA, GA, bA, kA, mA⟩ := (ok_part_at T).ex
  refine T.okX 23 rfl sc_cp (fun vs H Q E h => ?_) (fun kV doc pm an cdv ct us hl => match us, hl with | [_, _], _ => rfl) (fun f cdv A outer s H vs Q E hr h => ?_)
  · obtain ⟨u, v, z, o, rfl, _⟩ := h
    rfl
  · obtain ⟨u, v, z, o, rfl, hw, ho, hz, k1, k2⟩ := h
    have hr2 := hr.mono (j := 2) (by decide)
    refine ⟨_, pss_cons (ps_if (PW.pt (pw_or (pt_not (pt_val (pe_call GL (hr.mono (by decide)) (by rfl) mL kL bL .nil pass0 (pa_cons (pv 1) pa_nil))))
        (pw_or1 (pt_cmpR op_gt (pe_callB call_len (by rfl) T.len PySem.boot_len (pa_cons (pe_lc (own := [("index", 2)]) (g := gName 2) (tt := tNot (tB (tCall (spB O.isNumber) [] E0 (tCons (tVar 2) tNil)))) (te := tVar 2) rfl sc_cp.nd (pi_seq (pv 1)) (blkOk_by (N := nCp) (sc := defScope s_check_place) (by decide +kernel))
          (fun _ _ _ _ _ => pg_name (i := 2) sc_cp.nd rfl (Or.inl rfl)) (fun _ _ _ _ _ => pts_one (pt_not (pt_val (pe_call GN hr2 (by rfl) mN kN bN .nil pass0 (pa_cons (pv 2) pa_nil))))) (fun _ _ _ _ _ => pv 2)) pa_nil)) pe_int (nomark _)))))
        (pss_one (ps_raiseE rfl T.bp (takes_of rfl rfl rfl rfl) (hr.mono (by decide)) (pv 1))) pss_nil)
      (pss_one (ps_if (pt_cmp (pc_isN (pe_call GA (hr.mono (by decide)) (by rfl) mA kA bA .nil pass0 (pa_cons (pv 0) (pa_cons (pv 1) pa_nil))))) (pss_one (ps_raiseE rfl T.bp (takes_of rfl rfl rfl rfl) (hr.mono (by decide)) (pv 1))) pss_nil)), ?_⟩
    cases hq : o.isLst || o.isTup with
    | false =>
      have hno : goodP z o = false := by
        cases o with
        | lst xs => cases hq
        | tup xs => cases hq
        | _ => rfl
      refine q_when (b := true) (et_is (et_or (a := true) (b := true) (et_is (et_not (et_B (ev_call (ea_cons (ev_var rfl) ea_nil) (spv_B ho)))) (by rw [hq]; rfl)) fun z => nomatch z) rfl) (fun _ H1 e1 => ?_) fun z => nomatch z
      exact s_raise T.bp (ev_var rfl) fun d G e hd => k2 hno d G (e1.trans e) hd
    | true =>
      obtain ⟨b, xs, rfl⟩ := O.seq_of hq
      obtain ⟨a, us, rfl, ha, hov⟩ := ho.seq
      have hsq : SqB H b a us := ha
      have hul := hov.length
      have hxl := O.len_szs xs
      rw [O.seq_sz] at hz
      have hgood : goodP z (O.seq b xs) = (match numL xs with | some p => (z.at p).isSome | none => false) := by cases b <;> rfl
      rw [hgood] at k1 k2
      have hcomp : ∀ G, Ex H G → EvL (tLc (iQ K (tVar 1)) (gName 2) (tNot (tB (tCall (spB O.isNumber) [] E0 (tCons (tVar 2) tNil)))) (tVar 2) [2]) [some u, some (.ref a), none] G (given us.length (fun i => !((xs[i]?).map O.isNumber).getD true) (fun i => (us[i]?).getD .non)) := fun G e =>
        el_lcQ _ _ (ev_var rfl) (hsq.ext e) (by omega) (fun _ => rfl) (fun i x H1 e1 hx => by
          obtain ⟨o', ho', hov'⟩ := hov.get hx
          rw [ho']
          exact et_not (et_B (ev_call (ea_cons (ev_var rfl) ea_nil) (spv_B (hov'.ext (e.trans e1)))))) (fun i x H1 e1 hx _ => by
          rw [hx]
          exact ev_var rfl)
      cases hn : numL xs with
      | none =>
        rw [hn] at k2
        obtain ⟨i, o', hi, hno⟩ := numL_none hn
        have hil : i < us.length := by have := (List.getElem?_eq_some_iff.mp hi).1; omega
        refine q_when (b := true) (et_is (et_or (a := false) (b := true) (et_is (et_not (et_B (ev_call (ea_cons (ev_var rfl) ea_nil) (spv_B ho)))) (by rw [hq]; rfl)) fun _ => et_is (et_test (ev_op (ev_lenNG (hcomp H (Ex.refl _))) ev_c rv_I0)) ?_) rfl) (fun _ H1 e1 => ?_) fun z => nomatch z
        · have := given_pos (n := us.length) (f := fun i => !((xs[i]?).map O.isNumber).getD true) (g := fun i => (us[i]?).getD .non) hil (by show (!((xs[i]?).map O.isNumber).getD true) = true; rw [hi]; show (!o'.isNumber) = true; rw [hno]; rfl)
          exact decide_eq_true (by omega)
        · exact s_raise T.bp (ev_var rfl) fun d G e hd => k2 rfl d G (e1.trans e) hd
      | some p =>
        rw [hn] at k1 k2
        obtain ⟨hus, hall⟩ := numL_some hn hov
        have hz0 : given us.length (fun i => !((xs[i]?).map O.isNumber).getD true) (fun i => (us[i]?).getD .non) = [] := given_zero fun i hi => by
          obtain ⟨o', ho'⟩ : ∃ o', xs[i]? = some o' := ⟨xs[i]'(by omega), by simp⟩
          show (!((xs[i]?).map O.isNumber).getD true) = false
          rw [ho']
          show (!o'.isNumber) = false
          rw [hall i o' ho']
          rfl
        refine q_when (b := false) (et_is (et_or (a := false) (b := false) (et_is (et_not (et_B (ev_call (ea_cons (ev_var rfl) ea_nil) (spv_B ho)))) (by rw [hq]; rfl)) fun _ => et_is (et_test (ev_op (ev_lenNG (hcomp H (Ex.refl _))) ev_c rv_I0)) (by rw [hz0]; decide)) rfl) (fun z => nomatch z) fun _ H1 e1 => ?_
        refine s_when (b := !(z.at p).isSome) (fun H2 e2 Q2 q2 => ?_) (fun hb H2 e2 => ?_) fun hb H2 e2 => ?_
        · refine ⟨u, rfl, .ref a, rfl, u, a, b, z, p, rfl, hw.ext (e1.trans e2), ?_, fun r G e hr => ⟨_, rfl, ?_⟩⟩
          · rw [← hus]
            exact hsq.ext (e1.trans e2)
          · cases hat : z.at p with
            | none =>
              rw [hat] at hr q2
              rw [show r = .non from hr]
              exact q2 G e
            | some x =>
              rw [hat] at hr q2
              have hne : r ≠ .non := by
                cases x with
                | v s => rw [show r = .str s from hr]; exact fun z => nomatch z
                | n s as =>
                  obtain ⟨t, us, rfl, _⟩ := WV.tup hr
                  exact fun z => nomatch z
              rw [decide_eq_false hne]
              exact q2 G e
        · have hb' : (z.at p).isSome = false := by simpa using hb
          exact s_raise T.bp (ev_var rfl) fun d G e hd => k2 hb' d G ((e1.trans e2).trans e) hd
        · have hb' : (z.at p).isSome = true := by simpa using hb
          exact k1 hb' H2 (e1.trans e2)
end
end K28

set_option Elab.async false
set_option linter.all false
set_option maxRecDepth 100000
set_option maxHeartbeats 4000000
/-! A part put at a place; depths; variables. -/
namespace K28
open PySem PySem.Spec PyProof.Rows L2 Evl
def W.put : W → List Nat → W → W
  | _, [], y => y
  | .v s, _ :: _, _ => .v s
  | .n s as, i :: p, y => match as[i]? with
    | some x => .n s (as.set i (x.put p y))
    | none => .n s as
theorem WVs.set {H : Hp} : ∀ {us : List V} {ws : List W} {i : Nat} {r : V} {x : W}, WVs H us ws → WV H r x → WVs H (us.set i r) (ws.set i x)
  | us, [], i, r, x, h, _ => by
    have h : us = [] := h
    rw [h]
    exact rfl
  | us, w :: ws, 0, r, x, ⟨u, us', e, h1, h2⟩, k => by
    rw [e]
    exact ⟨r, us', rfl, k, h2⟩
  | us, w :: ws, i + 1, r, x, ⟨u, us', e, h1, h2⟩, k => by
    rw [e]
    exact ⟨u, _, rfl, h1, WVs.set h2 k⟩
theorem cut_to (xs : List V) (k : Nat) : cutV xs none (some (k : Int)) = xs.take k := by
  unfold cutV
  rw [HT.sIx_none, HT.sIx_nat, List.drop_zero, Nat.sub_zero]
  by_cases h : k ≤ xs.length
  · rw [Nat.min_eq_left h]
  · rw [Nat.min_eq_right (by omega), List.take_of_length_le (Nat.le_refl _), List.take_of_length_le (by omega)]
theorem cut_from (xs : List V) (k : Nat) : cutV xs (some (k : Int)) none = xs.drop k := by
  unfold cutV
  rw [HT.sIx_none, HT.sIx_nat]
  by_cases h : k ≤ xs.length
  · rw [Nat.min_eq_left h, List.take_of_length_le (by rw [List.length_drop]; omega)]
  · rw [Nat.min_eq_right (by omega), List.drop_eq_nil_of_le (Nat.le_refl _), List.drop_eq_nil_of_le (by omega)]
    simp
section
variable {K : PySem.W.Frag} {σ : L2.St} {H G : Hp} {te ta tb tl : TE} {v : V}
/-- t[:k], k within -/
theorem eu_to {a : Addr} {xs : List V} {k : Nat} (h : Ev te σ H (.ref a)) (hk : Ev tb σ H (.int (k : Nat))) (ha : SqT K H a xs) (hl : k < xs.length) : EvU (tSl (rSlT K) te tNoPart (tPart tb)) σ H (xs.take k) := fun H1 e Q q =>
  h H1 e _ fun H2 e2 => hk H2 (e.trans e2) _ fun H3 e3 => ⟨_, rfl, a, xs, rfl, ex_t ((e.trans e2).trans e3) ha, fun z => by
    have h2 := z.2
    rw [HT.sIx_nat] at h2
    omega, fun p hp => by
    rw [cut_to]
    exact q p _ (fresh_back (e2.trans e3) hp) ((e2.trans e3).trans (Ex.new hp)) upd_same⟩
/-- t[k:], k from 1 on -/
theorem eu_from {a : Addr} {xs : List V} {k : Nat} (h : Ev te σ H (.ref a)) (hk : Ev tb σ H (.int (k : Nat))) (ha : SqT K H a xs) (hl : 1 ≤ k) (hx : xs ≠ []) : EvU (tSl (rSlT K) te (tPart tb) tNoPart) σ H (xs.drop k) := fun H1 e Q q =>
  h H1 e _ fun H2 e2 => hk H2 (e.trans e2) _ fun H3 e3 => ⟨_, rfl, a, xs, rfl, ex_t ((e.trans e2).trans e3) ha, fun z => by
    have h2 := z.1
    rw [HT.sIx_nat] at h2
    have := List.length_pos_iff.mpr hx
    omega, fun p hp => by
    rw [cut_from]
    exact q p _ (fresh_back (e2.trans e3) hp) ((e2.trans e3).trans (Ex.new hp)) upd_same⟩
/-- a new tuple of which P holds -/
def EvUP (te : TE) (σ : L2.St) (H : Hp) (P : List V → Hp → Prop) : Prop := ∀ H1, Ex H H1 → ∀ Q : VK, (∀ p xs H2, H1 p = none → Ex H1 H2 → H2 p = some (.tup xs) → P xs H2 → Q (.ref p) H2) → te σ H1 Q
theorem EvUP.of {xs : List V} (h : EvU te σ H xs) : EvUP te σ H (fun ys _ => ys = xs) := fun H1 e Q q => h H1 e _ fun p H2 n e2 h2 => q p xs H2 n e2 h2 rfl
theorem eup_one {P : V → Hp → Prop} (h : EvP te σ H P) (up : ∀ r, Up (P r)) : EvUP (tTup (tCons te tNil)) σ H (fun ys G => ∃ r, ys = [r] ∧ P r G) := fun H1 e Q q =>
  h H1 e _ fun r H2 e2 pr => ⟨by show 1 ≤ sizeLine; decide, fun p hp => q p [r] _ (fresh_back e2 hp) (e2.trans (Ex.new hp)) upd_same ⟨r, rfl, up r _ _ (Ex.new hp) pr⟩⟩
theorem eup_cat {P1 P2 : List V → Hp → Prop} (ha : EvUP ta σ H P1) (hb : EvUP tb σ H P2) (u1 : ∀ xs, Up (P1 xs)) (u2 : ∀ xs, Up (P2 xs)) (ne : ∀ xs G, P1 xs G → xs ≠ []) (hl : ∀ xs ys G, P1 xs G → P2 ys G → xs.length + ys.length ≤ 100000) :
    EvUP (tOp (rCatT K) ta tb) σ H (fun zs G => ∃ xs ys, zs = xs ++ ys ∧ P1 xs G ∧ P2 ys G) := fun H1 e Q q =>
  ha H1 e _ fun p1 xs H2 n1 e2 h1 q1 => hb H2 (e.trans e2) _ fun p2 ys H3 n2 e3 h2 q2 => ⟨p1, p2, xs, ys, rfl, rfl, st_of (e3 _ _ h1), st_of h2, ne _ _ q1, sz_of (hl _ _ _ (u1 _ _ _ e3 q1) q2),
    fun z => by
      subst z
      exact q p1 xs H3 n1 (e2.trans e3) (e3 _ _ h1) ⟨xs, [], by simp, u1 _ _ _ e3 q1, q2⟩,
    fun _ p hp => q p (xs ++ ys) _ (fresh_back (e2.trans e3) hp) ((e2.trans e3).trans (Ex.new hp)) upd_same ⟨xs, ys, rfl, u1 _ _ _ (e3.trans (Ex.new hp)) q1, u2 _ _ _ (Ex.new hp) q2⟩⟩
theorem s_retUP {D : Ends} {P : List V → Hp → Prop} (h : EvUP te σ H P) (k : ∀ p xs H1, H p = none → Ex H H1 → H1 p = some (.tup xs) → P xs H1 → D.rt (.ref p) H1) : tRet te D σ H := h H (Ex.refl H) _ k
end
theorem W.len_szs : ∀ l : List W, l.length ≤ W.szs l
  | [] => Nat.le_refl _
  | c :: l => by
    have h1 : 1 ≤ c.sz := by cases c <;> simp [W.sz]
    have h2 := W.len_szs l
    show l.length + 1 ≤ c.sz + W.szs l
    omega
theorem at_cons {s : Str} {as : List W} {i : Nat} {p : List Nat} (h : ((W.n s as).at (i :: p)).isSome = true) : ∃ x, as[i]? = some x ∧ (x.at p).isSome = true := by
  have h : (match as[i]? with | some x => x.at p | none => none).isSome = true := h
  cases e : as[i]? with
  | none => rw [e] at h; cases h
  | some x => rw [e] at h; exact ⟨x, rfl, h⟩
section
variable {P : Program} {w : World} {K : PySem.W.Frag} {mg : Str → Option Value} {base : Heap}
def spWp (m : Nat) : Sp := fun vs H Q _ => ∃ (u q : V) (a : Addr) (b : Bool) (z y : W) (p : List Nat), vs = [u, .ref a, q] ∧ WV H u z ∧ SqB H b a (nums p) ∧ WV H q y ∧ p.length < m ∧ m ≤ 40 ∧ z.sz ≤ 9000 ∧ (z.at p).isSome = true ∧ ∀ (r : V) (G : Hp), Ex H G → WV G r (z.put p y) → Q r G
theorem ep_wp {σ : L2.St} {H : Hp} {m : Nat} {t1 t2 t3 : TE} {ux q : V} {x y : W} {p : List Nat} (h1 : Ev t1 σ H ux) (h2 : EvQ t2 σ H (nums p)) (h3 : Ev t3 σ H q) (hw : WV H ux x) (hy : WV H q y) (hp : p.length < m) (hm : m ≤ 40) (hs : x.sz ≤ 9000) (ha : (x.at p).isSome = true) :
    EvP (tCall (spWp m) [] E0 (tCons t1 (tCons t2 (tCons t3 tNil)))) σ H (fun r G => WV G r (x.put p y)) := fun H1 e Q k =>
  h1 H1 e _ fun H2 e2 => h2 H2 (e.trans e2) _ fun b a H3 _ e3 h3' => h3 H3 ((e.trans e2).trans e3) _ fun H4 e4 => ⟨ux, q, a, b, x, y, p, rfl, hw.ext (((e.trans e2).trans e3).trans e4), h3'.ext e4, hy.ext (((e.trans e2).trans e3).trans e4), hp, hm, hs, ha, fun r G e5 hr => k r G (((e2.trans e3).trans e4).trans e5) hr⟩
abbrev nWp : List Str := ["word", "place", "part", "at"]
theorem sc_wp : FnScope nWp ["word", "place", "part"] (defScope s_with_part) := ⟨rfl, rfl, rfl, by decide +kernel, rfl, by decide +kernel, by decide +kernel⟩
theorem ok_with_part (T : T28 P w K mg base) : ∀ m, Ok P w K mg base CX0 "with_part" ["word", "place", "part"] (m + 1) (spWp m)
  | 0 => T.ok 13 rfl sc_wp (fun vs H Q E h => by obtain ⟨u, q, a, b, z, y, p, rfl, _⟩ := h; rfl) (fun kV doc pm an cdv ct us hl => match us, hl with | [_, _, _], _ => rfl) (fun f cdv A outer s H vs Q E hr h => by obtain ⟨u, q, a, b, z, y, p, _, _, _, _, h0, _⟩ := h; exact absurd h0 (Nat.not_lt_zero _))
  | m + 1 => by
    obtain ⟨fR, dR, GR, bR, kR, mR⟩ := (ok_with_part T m).ex
    refine T.ok 13 rfl sc_wp (fun vs H Q E h => ?_) (fun kV doc pm an cdv ct us hl => match us, hl with | [_, _, _], _ => rfl) (fun f cdv A outer s H vs Q E hr h => ?_)
    · obtain ⟨u, q, a, b, z, y, p, rfl, _⟩ := h
      rfl
    · obtain ⟨u, q, a, b, z, y, p, rfl, hw, ha, hy, hp, hm, hs, hat, k⟩ := h
      refine ⟨_, pss_cons (ps_if (pt_cmpR op_eq (pe_callB call_len (by rfl) T.len PySem.boot_len (pa_cons (pv 1) pa_nil)) pe_int (nomark _)) (pss_one (ps_ret (pv 2))) pss_nil)
        (pss_cons (ps_set (i := 3) sc_wp.nd rfl (Or.inl rfl) (pe_op op_add (pe_ix ix_seq (pv 1) pe_int (fun _ _ => rfl)) pe_int))
        (pss_one (ps_ret (pe_op op_catT (pe_op op_catT (pe_slice sl_tup (pv 0) po_none (po_some (pv 3))) (pe_tup (pa_cons (pe_call GR hr (by rfl) mR kR bR .nil pass0 (pa_cons (pe_ix ix_tup (pv 0) (pv 3) (fun _ _ => rfl)) (pa_cons (pe_slice sl_seq (pv 1) (po_some pe_int) po_none) (pa_cons (pv 2) pa_nil)))) pa_nil)))
          (pe_slice sl_tup (pv 0) (po_some (pe_op op_add (pv 3) pe_int)) po_none))))), ?_⟩
      have hpl := nums_len p
      cases p with
      | nil =>
        refine q_when (b := true) (et_is (et_test (ev_op (ev_lenQ (ev_var rfl) ha) ev_c (rv_eq rfl))) rfl) (fun _ H1 e1 => ?_) fun z => nomatch z
        refine s_ret (ev_var rfl) fun H2 e2 => k q H2 (e1.trans e2) ?_
        have : z.put [] y = y := by cases z <;> rfl
        rw [this]
        exact hy.ext (e1.trans e2)
      | cons i p =>
        refine q_when (b := false) (et_is (et_test (ev_op (ev_lenQ (ev_var rfl) ha) ev_c (rv_eq rfl))) (decide_eq_false (by rw [nums_len]; intro q; have := V.int.inj q; simp at this; omega))) (fun z => nomatch z) fun _ H1 e1 => ?_
        have ha1 := ha.ext e1
        refine q_asg (v := .int ((i + 1 : Nat) : Int)) (ev_is (ev_op (x := .int (i : Nat)) (ev_op (ev_var rfl) ev_c (rv_ixQ ha1 (atI_nat (j := 0) rfl))) ev_c rv_I0) rfl) fun H2 e2 => ?_
        have e02 := e1.trans e2
        cases z with
        | v sv => cases hat
        | n s as =>
          obtain ⟨x, hx, hat2⟩ := at_cons hat
          have hil := (List.getElem?_eq_some_iff.mp hx).1
          obtain ⟨t, us, rfl, ht, hus⟩ := hw.tup
          have hul := hus.length
          obtain ⟨ux, hux, hwx⟩ := hus.get hx
          have hsx := W.lt_sz hx
          have hsz : W.szs as + 2 ≤ 9000 := hs
          have hasl := W.len_szs as
          have ht2 := e02 _ _ ht
          have st2 : SqT K H2 t (V.str s :: us) := st_of ht2
          have hix : Ev (tOp (rIxT K) (tVar 0) (tVar 3)) [some (.ref t), some (.ref a), some q, some (.int ((i + 1 : Nat) : Int))] H2 ux := ev_op (ev_var rfl) (ev_var rfl) (rv_ixT st2 (atI_nat (by simpa using hux)))
          have hcall := ep_wp (m := m) hix (eq_tail (K := K) (b := b) (a := a) (x := V.int (i : Nat)) (xs := nums p) (ev_var (i := 1) rfl) (ha.ext e02)) (ev_var (i := 2) rfl) (hwx.ext e02) (hy.ext e02) (by simp at hp; omega) (by omega) (by omega) hat2
          refine s_retUP (eup_cat (eup_cat (EvUP.of (eu_to (k := i + 1) (ev_var rfl) (ev_var rfl) st2 (by simp; omega))) (eup_one hcall fun r G1 G2 e h => WV.ext e h) (fun _ _ _ _ h => h) (fun xs G1 G2 e h => by
              obtain ⟨r, h1, h2⟩ := h
              exact ⟨r, h1, WV.ext e h2⟩) (fun xs G h => by rw [h]; simp) (fun xs ys G h1 h2 => by
              obtain ⟨r, rfl, _⟩ := h2
              rw [h1, List.length_take]
              simp
              omega))
            (EvUP.of (eu_from (k := i + 2) (ev_var rfl) (ev_is (ev_op (ev_var rfl) ev_c rv_I0) rfl) st2 (by omega) (by simp))) (fun xs G1 G2 e h => by
              obtain ⟨a1, a2, h0, h1, r, h2, h3⟩ := h
              exact ⟨a1, a2, h0, h1, r, h2, WV.ext e h3⟩) (fun _ _ _ _ h => h) (fun xs G h => by
              obtain ⟨a1, a2, h0, h1, r, h2, h3⟩ := h
              rw [h0, h1]
              simp) (fun xs ys G h1 h2 => by
              obtain ⟨a1, a2, h0, h1, r, h3, h4⟩ := h1
              rw [h0, h1, h2, h3]
              simp
              omega)) fun pp xs G _ e3 hpp hxs => ?_
          obtain ⟨xs1, ys1, rfl, ⟨a1, a2, rfl, rfl, r, rfl, hr⟩, rfl⟩ := hxs
          refine k _ G (e02.trans e3) ?_
          have e4 : (W.n s as).put (i :: p) y = .n s (as.set i (x.put p y)) := by
            show (match as[i]? with | some x => W.n s (as.set i (x.put p y)) | none => .n s as) = _
            rw [hx]
          rw [e4]
          have e5 : (V.str s :: us).take (i + 1) ++ [r] ++ (V.str s :: us).drop (i + 2) = V.str s :: us.set i r := by
            rw [List.set_eq_take_append_cons_drop, if_pos (by omega)]
            simp
          rw [e5] at hpp
          exact WV.of hpp (WVs.set ((hus.ext e02).ext e3) hr)
end
end K28

set_option Elab.async false
set_option linter.all false
set_option maxRecDepth 100000
set_option maxHeartbeats 4000000
/-! Depths, variables. -/
namespace K28
open PySem PySem.Spec PyProof.Rows L2 Evl
section
variable {K : PySem.W.Frag} {σ : L2.St} {H : Hp} {te tl : TE} {tt : TT}
theorem el_lcNT {xs : List V} {j : Nat} {vs : List Nat} (f : Nat → Bool) (g : Nat → V) (h : EvU tl σ H xs) (hz : xs.length ≤ 40000) (hw : ∀ x, wipe ((wipe σ vs).set j (some x)) vs = wipe σ vs)
    (ht : ∀ (i : Nat) (x : V) H1, Ex H H1 → xs[i]? = some x → EvT tt ((wipe σ vs).set j (some x)) H1 (f i)) (he : ∀ (i : Nat) (x : V) H1, Ex H H1 → xs[i]? = some x → f i = true → Ev te ((wipe σ vs).set j (some x)) H1 (g i)) :
    EvL (tLc (iTup K tl) (gName j) tt te vs) σ H (given xs.length f g) := fun H0 e Q q => h H0 e _ fun a H1 ha e1 hx => ⟨a, rfl, ⟨xs, st_of hx⟩, fun Dl hD =>
  lc_tup (xs := xs) (Cw H1 f g Dl) ⟨hD, Ex.new hD, upd_same⟩ (fun i H' _ p => st_of (p.2.1 a _ hx)) (fun i x H' hi p => ⟨hw x, cw_turn p (by have := (List.getElem?_eq_some_iff.mp hi).1; omega) (ht i x H1 (e.trans e1) hi) (fun hf => he i x H1 (e.trans e1) hi hf)⟩)
    (fun H' p => q Dl H' (fresh_back e1 p.1) (e1.trans p.2.1) p.2.2)⟩
end
theorem ev_maxL {K : PySem.W.Frag} {σ : L2.St} {H : Hp} {te : TE} {ns : List Int} {m : Int} (h : EvL te σ H (ns.map V.int)) (hp : 0 < ns.length) (hm : ∀ m', m' ∈ ns → (∀ y, y ∈ ns → y ≤ m') → m' = m) : Ev (tCB (rMax K) (tCons te tNil)) σ H (.int m) := fun H1 e Q q =>
  h H1 e _ fun p H2 _ e2 h2 => ⟨p, ns, rfl, sq_of h2, hp, fun m' a b => by
    rw [hm m' a b]
    exact q H2 e2⟩
theorem given_map {α : Type} (xs : List α) (g : α → V) (n : Nat) (hn : n = xs.length) : given n (fun _ => true) (fun i => ((xs[i]?).map g).getD .non) = xs.map g := by
  subst hn
  unfold given
  rw [filter_true]
  refine List.ext_getElem? fun i => ?_
  rw [List.getElem?_map, List.getElem?_map]
  by_cases h : i < xs.length
  · rw [List.getElem?_range h]
    show some (((xs[i]?).map g).getD .non) = _
    rw [List.getElem?_eq_getElem h]
    rfl
  · rw [List.getElem?_eq_none_iff.mpr (by simp; omega), List.getElem?_eq_none_iff.mpr (by omega)]
    rfl
mutual
def W.de : W → Nat
  | .v _ => 0
  | .n _ as => W.dn as
def W.dn : List W → Nat
  | [] => 0
  | a :: r => max a.de (W.des r) + 1
def W.des : List W → Nat
  | [] => 0
  | a :: r => max a.de (W.des r)
end
theorem W.de_le : ∀ {as : List W} {x : W}, x ∈ as → x.de ≤ W.des as
  | a :: as, x, h => by
    rcases List.mem_cons.mp h with rfl | h
    · exact Nat.le_max_left _ _
    · exact Nat.le_trans (W.de_le h) (Nat.le_max_right _ _)
theorem W.de_max : ∀ {as : List W} {m : Nat}, (∃ x ∈ as, x.de = m) → (∀ x ∈ as, x.de ≤ m) → m = W.des as
  | as, m, ⟨x, hx, e⟩, h => by
    have h1 := W.de_le hx
    have h2 : ∀ as : List W, (∀ x ∈ as, x.de ≤ m) → W.des as ≤ m := by
      intro as
      induction as with
      | nil => intro _; exact Nat.zero_le _
      | cons a as ih =>
        intro h
        have q1 := h a (List.mem_cons_self ..)
        have q2 := ih fun x hx => h x (List.mem_cons_of_mem _ hx)
        show max a.de (W.des as) ≤ m
        omega
    have := h2 as h
    omega
theorem W.dn_des {as : List W} (h : as ≠ []) : W.dn as = W.des as + 1 := by
  cases as with
  | nil => exact absurd rfl h
  | cons a r => rfl
mutual
def W.vars : W → List Str
  | .v s => [s]
  | .n _ as => W.varsL [] as
def W.varsL : List Str → List W → List Str
  | acc, [] => acc
  | acc, a :: r => W.varsL (acc ++ a.vars.filter fun s => !acc.contains s) r
end
section
variable {P : Program} {w : World} {K : PySem.W.Frag} {mg : Str → Option Value} {base : Heap}
def spDe (m : Nat) : Sp := fun vs H Q _ => ∃ v z, vs = [v] ∧ WV H v z ∧ z.dp < m ∧ m ≤ 40 ∧ z.sz ≤ 9000 ∧ RetV (.int (z.de : Nat)) H Q
abbrev nDe : List Str := ["word", "part"]
theorem spv_de {m : Nat} {v : V} {z : W} {H : Hp} (h : WV H v z) (hd : z.dp < m) (hm : m ≤ 40) (hs : z.sz ≤ 9000) : SpV (spDe m) ([v] ++ []) H (.int (z.de : Nat)) := fun H1 e Q q E => ⟨v, z, rfl, h.ext e, hd, hm, hs, q⟩
def sVs (xs : List Str) : List V := xs.map V.str
theorem sVs_flat (xs : List Str) : (sVs xs).all flatV = true := by
  unfold sVs
  induction xs with
  | nil => rfl
  | cons r rs ih => exact ih
theorem eqV_beq (s r : Str) : eqV (.str s) (.str r) = (s == r) := by
  show decide (s = r) = (s == r)
  by_cases h : s = r
  · rw [decide_eq_true h, h]
    exact (beq_self_eq_true r).symm
  · rw [decide_eq_false h]
    exact (beq_eq_false_iff_ne.mpr h).symm
theorem sVs_in (s : Str) (xs : List Str) : inV (.str s) (sVs xs) = xs.contains s := by
  unfold inV sVs
  induction xs with
  | nil => rfl
  | cons r rs ih =>
    rw [List.map_cons, List.any_cons, ih, List.contains_cons, eqV_beq]
    first
      | rfl
      | rw [show (r == s) = (s == r) from by by_cases h : r = s; { rw [h] }; { rw [beq_eq_false_iff_ne.mpr h, beq_eq_false_iff_ne.mpr (Ne.symm h)] }]
def spVa (m : Nat) : Sp := fun vs H Q _ => ∃ v z, vs = [v] ∧ WV H v z ∧ z.dp < m ∧ m ≤ 40 ∧ z.sz ≤ 9000 ∧ ∀ p H', H p = none → Ex H H' → H' p = some (.lst (sVs z.vars)) → Q (.ref p) H'
abbrev nVa : List Str := ["word", "told", "part", "variable"]
mutual
theorem W.vars_len : ∀ w : W, w.vars.length ≤ w.sz
  | .v _ => Nat.le_refl _
  | .n _ as => by
    have := W.varsL_len [] as
    show (W.varsL [] as).length ≤ W.szs as + 2
    simp at this
    omega
theorem W.varsL_len : ∀ (acc : List Str) (as : List W), (W.varsL acc as).length ≤ acc.length + W.szs as
  | acc, [] => Nat.le_refl _
  | acc, a :: r => by
    have h1 := W.vars_len a
    have h2 := W.varsL_len (acc ++ a.vars.filter fun s => !acc.contains s) r
    have h3 := List.length_filter_le (fun s => !acc.contains s) a.vars
    rw [List.length_append] at h2
    show _ ≤ acc.length + (a.sz + W.szs r)
    show (W.varsL (acc ++ a.vars.filter fun s => !acc.contains s) r).length ≤ _
    omega
end
theorem W.varsL_snoc : ∀ (as : List W) (x : W) (acc : List Str), W.varsL acc (as ++ [x]) = W.varsL acc as ++ x.vars.filter fun s => !(W.varsL acc as).contains s
  | [], x, acc => rfl
  | a :: r, x, acc => W.varsL_snoc r x _
theorem given_sVs_to {xs : List Str} {f : Str → Bool} : ∀ n : Nat, n ≤ xs.length → given n (fun i => ((xs[i]?).map f).getD false) (fun i => ((xs[i]?).map V.str).getD .non) = sVs ((xs.take n).filter f)
  | 0, _ => by simp [given, sVs]
  | n + 1, h => by
    have ih := given_sVs_to (xs := xs) (f := f) n (by omega)
    obtain ⟨x, hx⟩ : ∃ x, xs[n]? = some x := ⟨xs[n], by simp⟩
    rw [take_snoc hx, List.filter_append]
    cases hf : f x with
    | true =>
      rw [given_yes (by rw [hx]; exact hf), ih, hx]
      show sVs _ ++ [V.str x] = _
      unfold sVs
      rw [List.filter_cons, if_pos hf, List.map_append]
      rfl
    | false =>
      rw [given_no (by rw [hx]; exact hf), ih, List.filter_cons, if_neg (by rw [hf]; decide)]
      simp
theorem given_sVs {xs : List Str} {f : Str → Bool} {n : Nat} (hn : n = xs.length) : given n (fun i => ((xs[i]?).map f).getD false) (fun i => ((xs[i]?).map V.str).getD .non) = sVs (xs.filter f) := by
  rw [given_sVs_to n (by omega), List.take_of_length_le (by omega)]
theorem szs_take (as : List W) (n : Nat) : W.szs (as.take n) ≤ W.szs as := by
  induction as generalizing n with
  | nil => simp [W.szs]
  | cons c l ih =>
    cases n with
    | zero => exact Nat.zero_le _
    | succ n =>
      have := ih n
      show c.sz + W.szs (l.take n) ≤ c.sz + W.szs l
      omega
end
end K28

set_option Elab.async false
set_option linter.all false
set_option maxRecDepth 100000
set_option maxHeartbeats 4000000
/-! The module's own functions. -/
namespace K28
open PySem PySem.Spec PyProof.Rows L2 Evl
mutual
theorem strip_sz : ∀ o : O, o.strip.sz = o.sz
  | .non => rfl | .bl _ => rfl | .int _ => rfl | .str _ => rfl | .dct => rfl
  | .lst xs => by show O.szs (O.strips xs) + 1 = O.szs xs + 1; rw [strips_sz xs]
  | .tup xs => by show O.szs (O.strips xs) + 1 = O.szs xs + 1; rw [strips_sz xs]
theorem strips_sz : ∀ os : List O, O.szs (O.strips os) = O.szs os
  | [] => rfl
  | x :: xs => by show x.strip.sz + O.szs (O.strips xs) = x.sz + O.szs xs; rw [strip_sz x, strips_sz xs]
end
/-- v stands for the right word z, lists perhaps for tuples -/
structure Lw (H : Hp) (v : V) (z : W) : Prop where
  ex : ∃ o, Rd H v o ∧ o.fitW = true ∧ o.strip = z.o
  dp : z.dp < 12
theorem Lw.ext {H G : Hp} {v : V} {z : W} (e : Ex H G) (h : Lw H v z) : Lw G v z := by
  obtain ⟨⟨o, a, b, c⟩, d⟩ := h
  exact ⟨⟨o, a.ext e, b, c⟩, d⟩
theorem sz_of_strip {o : O} {z : W} (h : o.strip = z.o) : z.sz = o.sz := by rw [← W.osz, ← h, strip_sz]
theorem Lw.sz {H : Hp} {v : V} {z : W} (h : Lw H v z) : z.sz ≤ 8000 := by
  obtain ⟨⟨o, a, b, c⟩, d⟩ := h
  rw [sz_of_strip c]
  exact a.sz
/-- v is no word, no atom -/
def NoW (H : Hp) (v : V) : Prop := ∃ o, Rd H v o ∧ o.fitW = false
theorem NoW.ext {H G : Hp} {v : V} (e : Ex H G) (h : NoW H v) : NoW G v := by
  obtain ⟨o, a, b⟩ := h
  exact ⟨o, a.ext e, b⟩
theorem numL_map : ∀ p : List Nat, numL (p.map fun i : Nat => O.int (i : Nat)) = some p
  | [] => rfl
  | i :: p => by
    show numL (O.int (i : Nat) :: _) = _
    unfold numL
    rw [if_pos (Int.natCast_nonneg i), numL_map p]
    rfl
theorem nums_ov {H : Hp} : ∀ p : List Nat, OVs H (nums p) (p.map fun i : Nat => O.int (i : Nat))
  | [] => rfl
  | i :: p => ⟨_, _, rfl, rfl, nums_ov p⟩
theorem nums_sz : ∀ p : List Nat, O.szs (p.map fun i : Nat => O.int (i : Nat)) = p.length
  | [] => rfl
  | i :: p => by show 1 + O.szs (p.map _) = p.length + 1; rw [nums_sz p]; omega
theorem place_ov {H : Hp} {b : Bool} {a : Addr} {p : List Nat} (h : SqB H b a (nums p)) : OV H (.ref a) (O.seq b (p.map fun i : Nat => O.int (i : Nat))) := by
  cases b with
  | true => exact ⟨a, _, rfl, h, nums_ov p⟩
  | false => exact ⟨a, _, rfl, h, nums_ov p⟩
theorem place_good {z : W} {b : Bool} {p : List Nat} : goodP z (O.seq b (p.map fun i : Nat => O.int (i : Nat))) = (z.at p).isSome := by
  have : (O.seq b (p.map fun i : Nat => O.int (i : Nat))).numQ = some p := by
    cases b with
    | true => exact numL_map p
    | false => exact numL_map p
  unfold goodP
  rw [this]
section
variable {P : Program} {w : World} {K : PySem.W.Frag} {mg : Str → Option Value} {base : Heap}
/-- the checked word, then what follows -/
theorem cw_go {σ : L2.St} {H : Hp} {te : TE} {v : V} {z : W} {E : L2.St → XK} {Q : VK} (h : Ev te σ H v) (hw : Lw H v z) (k : ∀ u G, Ex H G → WV G u z → Q u G) : tCallS (spCw K) E (tCons te tNil) σ H Q := by
  obtain ⟨⟨o, rd, hf, hs⟩, _⟩ := hw
  exact h H (Ex.refl H) _ fun H1 e1 => ⟨v, o, rfl, rd.ext e1, fun _ u G e2 hu => k u G (e1.trans e2) (by rw [hs] at hu; exact hu), fun q => by rw [hf] at q; cases q⟩
theorem cw_bad {σ : L2.St} {H : Hp} {te : TE} {v : V} {E : L2.St → XK} {Q : VK} (h : Ev te σ H v) (hw : NoW H v) (k : Bad K "BadWord" v H (E σ)) : tCallS (spCw K) E (tCons te tNil) σ H Q := by
  obtain ⟨o, rd, hf⟩ := hw
  exact h H (Ex.refl H) _ fun H1 e1 => ⟨v, o, rfl, rd.ext e1, (fun q => by rw [hf] at q; cases q), fun _ d G e2 hd => k d G (e1.trans e2) hd⟩
theorem cp_go {σ : L2.St} {H : Hp} {t1 t2 : TE} {u : V} {a : Addr} {b : Bool} {z : W} {p : List Nat} {E : L2.St → XK} {Q : VK} (h1 : Ev t1 σ H u) (h2 : Ev t2 σ H (.ref a)) (hw : WV H u z) (ha : SqB H b a (nums p)) (hl : p.length ≤ 900) (hat : (z.at p).isSome = true) (k : ∀ G, Ex H G → Q .non G) :
    tCallS (spCp K) E (tCons t1 (tCons t2 tNil)) σ H Q :=
  h1 H (Ex.refl H) _ fun H1 e1 => h2 H1 e1 _ fun H2 e2 => ⟨u, .ref a, z, _, rfl, hw.ext (e1.trans e2), place_ov (ha.ext (e1.trans e2)), by rw [O.seq_sz, nums_sz]; omega, fun _ G e3 => k G ((e1.trans e2).trans e3), fun q => by rw [place_good, hat] at q; cases q⟩
theorem cp_bad {σ : L2.St} {H : Hp} {t1 t2 : TE} {u v : V} {z : W} {o : O} {E : L2.St → XK} {Q : VK} (h1 : Ev t1 σ H u) (h2 : Ev t2 σ H v) (hw : WV H u z) (ho : OV H v o) (hz : o.sz ≤ 9000) (hg : goodP z o = false) (k : Bad K "BadPlace" v H (E σ)) :
    tCallS (spCp K) E (tCons t1 (tCons t2 tNil)) σ H Q :=
  h1 H (Ex.refl H) _ fun H1 e1 => h2 H1 e1 _ fun H2 e2 => ⟨u, v, z, o, rfl, hw.ext (e1.trans e2), ho.ext (e1.trans e2), hz, (fun q => by rw [hg] at q; cases q), fun _ d G e3 hd => k d G ((e1.trans e2).trans e3) hd⟩
theorem Bad.mono {x : Str} {v : V} {H G : Hp} {E : XK} (h : Bad K x v H E) (e : Ex H G) : Bad K x v G E := BadZ.mono h e
def spP1 (K : PySem.W.Frag) (T : W → Hp → VK → Prop) : Sp := fun vs H Q E => ∃ v, vs = [v] ∧ ((∃ z, Lw H v z ∧ T z H Q) ∨ (NoW H v ∧ Bad K "BadWord" v H E))
theorem spP1_len {T : W → Hp → VK → Prop} {vs : List V} {H : Hp} {Q : VK} {E : XK} (h : spP1 K T vs H Q E) : vs.length = 1 := by
  obtain ⟨v, rfl, _⟩ := h
  rfl
def tPlaces : W → Hp → VK → Prop := fun z H Q => ∀ p xs H', H p = none → Ex H H' → H' p = some (.lst xs) → A2 (PlV (fun l => H l = none ∧ l ≠ p) H') xs (plc z) → Q (.ref p) H'
def tDepth : W → Hp → VK → Prop := fun z H Q => RetV (.int (z.de : Nat)) H Q
def tVars : W → Hp → VK → Prop := fun z H Q => ∀ p H', H p = none → Ex H H' → H' p = some (.lst (sVs z.vars)) → Q (.ref p) H'
/-- a place: right, or what is none -/
inductive PlOk (H : Hp) (z : W) (v : V) : Option (List Nat) → Prop
  | yes {a : Addr} {b : Bool} {p : List Nat} : v = .ref a → SqB H b a (nums p) → p.length ≤ 30 → (z.at p).isSome = true → PlOk H z v (some p)
  | no {o : O} : OV H v o → o.sz ≤ 9000 → goodP z o = false → PlOk H z v none
def spWa (K : PySem.W.Frag) : Sp := fun vs H Q E => ∃ v x, vs = [v, x] ∧ ((NoW H v ∧ Bad K "BadWord" v H E) ∨ ∃ z, Lw H v z ∧ ((PlOk H z x none ∧ Bad K "BadPlace" x H E) ∨ ∃ p y, PlOk H z x (some p) ∧ z.at p = some y ∧ ∀ (r : V) (G : Hp), Ex H G → WV G r y → Q r G))
end
end K28

set_option Elab.async false
set_option linter.all false
set_option maxRecDepth 100000
set_option maxHeartbeats 4000000
/-! word_put. -/
namespace K28
open PySem PySem.Spec PyProof.Rows L2 Evl
def W.noEq : W → Bool
  | .v _ => true
  | .n s _ => !(s == "=")
theorem strip_str {x : O} {s : Str} (h : x.strip = .str s) : x = .str s := by
  cases x with
  | str t => exact h
  | _ => cases h
theorem eq_of_noEqL {xs : List O} {s : Str} {ys : List O} (h : O.strips xs = .str s :: ys) (k : (s == "=") = false) : eqL xs = false := by
  match xs, h with
  | x :: r, h =>
    have h1 : x.strip = .str s := (List.cons.inj h).1
    rw [strip_str h1]
    unfold eqL
    split
    · rename_i t a b e
      obtain rfl : s = t := by
        have := (List.cons.inj e).1
        exact O.str.inj this
      exact k
    · rfl
theorem eq_of_noEq {o : O} {z : W} (h : o.strip = z.o) (k : z.noEq = true) : o.eqB = false := by
  cases z with
  | v s => rw [strip_str h]; rfl
  | n s as =>
    have k2 : (s == "=") = false := by simpa [W.noEq] using k
    cases o with
    | lst xs => exact eq_of_noEqL (O.tup.inj h) k2
    | tup xs => exact eq_of_noEqL (O.tup.inj h) k2
    | _ => cases h
section
variable {P : Program} {w : World} {K : PySem.W.Frag} {mg : Str → Option Value} {base : Heap}
def spWu (K : PySem.W.Frag) : Sp := fun vs H Q E => ∃ v x q, vs = [v, x, q] ∧ ((NoW H v ∧ Bad K "BadWord" v H E) ∨ ∃ z, Lw H v z ∧ ((PlOk H z x none ∧ Bad K "BadPlace" x H E) ∨ ∃ p, PlOk H z x (some p) ∧
  ((p = [] ∧ NoW H q ∧ Bad K "BadWord" q H E) ∨ ∃ y, Lw H q y ∧ y.noEq = true ∧ ∀ (r : V) (G : Hp), Ex H G → WV G r (z.put p y) → Q r G)))
abbrev nWu : List Str := ["word", "place", "part", "told"]
theorem sc_wu : FnScope nWu ["word", "place", "part"] (defScope s_word_put) := ⟨rfl, rfl, rfl, by decide +kernel, rfl, by decide +kernel, by decide +kernel⟩
theorem ok_word_put (T : T28 P w K mg base) : Ok P w K mg base (L2.CX P w) "word_put" ["word", "place", "part"] 33 (spWu K) := by
  obtain ⟨fC, dC, GC, bC, kC, mC⟩ := (ok_checked_word T).ex
  obtain ⟨fP, dP, GP, bP, kP, mP⟩ := (ok_check_place T).ex
  obtain ⟨fE, dE, GE, bE, kE, mE⟩ := (ok_is_equality T).ex
  obtain ⟨fR, dR, GR, bR, kR, mR⟩ := (ok_with_part T 31).ex
  refine T.okX 24 rfl sc_wu (fun vs H Q E h => ?_) (fun kV doc pm an cdv ct us hl => match us, hl with | [_, _, _], _ => rfl) (fun f cdv A outer s H vs Q E hr h => ?_)
  · obtain ⟨v, x, q, rfl, _⟩ := h
    rfl
  obtain ⟨v, x, q, rfl, h⟩ := h
  refine ⟨_, pss_cons (ps_set (i := 3) sc_wu.nd rfl (Or.inl rfl) (pe_callS GC (hr.mono (by decide)) (by rfl) mC kC bC (fun σ => passAt (takes_of rfl rfl rfl rfl) σ) (pa_cons (pv 0) pa_nil)))
    (pss_cons (ps_expr (pe_callS GP (hr.mono (by decide)) (by rfl) mP kP bP (fun σ => passAt (takes_of rfl rfl rfl rfl) σ) (pa_cons (pv 3) (pa_cons (pv 1) pa_nil))))
    (pss_cons (ps_if (PW.pt (pw_and (pt_cmpR op_gt (pe_callB call_len (by rfl) T.len PySem.boot_len (pa_cons (pv 1) pa_nil)) pe_int (nomark _)) (pw_and1 (pt_val (pe_call GE (hr.mono (by decide)) (by rfl) mE kE bE .nil pass0 (pa_cons (pv 2) pa_nil))))))
      (pss_one (ps_raiseE rfl T.bw (takes_of rfl rfl rfl rfl) (hr.mono (by decide)) (pv 2))) pss_nil)
    (pss_one (ps_ret (pe_call GR hr (by rfl) mR kR bR .nil pass0 (pa_cons (pv 3) (pa_cons (pv 1) (pa_cons (pe_callS GC (hr.mono (by decide)) (by rfl) mC kC bC (fun σ => passAt (takes_of rfl rfl rfl rfl) σ) (pa_cons (pv 2) pa_nil)) pa_nil)))))))), ?_⟩
  rcases h with ⟨hn, k⟩ | ⟨z, hw, ⟨hp, k⟩ | ⟨p, hp, h⟩⟩
  · exact cw_bad (ev_var rfl) hn k
  · refine cw_go (ev_var rfl) hw fun u G e hu => ?_
    cases hp with
    | no ho hz hg => exact cp_bad (ev_var rfl) (ev_var rfl) hu (ho.ext e) hz hg (k.mono e)
  · refine cw_go (ev_var rfl) hw fun u G e hu => ?_
    cases hp with
    | @yes a b p ex ha hl hat =>
      subst ex
      refine cp_go (ev_var rfl) (ev_var rfl) hu (ha.ext e) (by omega) hat fun G2 e2 => ?_
      have e02 := e.trans e2
      have hlen : Ev (tLen K (tVar 1)) [some v, some (.ref a), some q, some u] G2 (.int ((nums p).length : Nat)) := ev_lenQ (ev_var rfl) (ha.ext e02)
      rw [nums_len] at hlen
      rcases h with ⟨rfl, hn, k⟩ | ⟨y, hy, hne, k⟩
      · refine q_when (b := false) (et_is (et_and (a := false) (b := false) (et_is (et_test (ev_op hlen ev_c rv_I0)) (by decide)) fun z => nomatch z) rfl) (fun z => nomatch z) fun _ G3 e3 => ?_
        refine ⟨u, rfl, .ref a, rfl, ?_⟩
        exact cw_bad (E := WE (fun cls d _ H => E cls d H)) (ev_var rfl) (hn.ext (e02.trans e3)) (k.mono (e02.trans e3))
      · obtain ⟨⟨o, rd, hf, hs⟩, hd⟩ := hy
        have heq := eq_of_noEq hs hne
        refine q_when (b := decide (0 < p.length) && false) (et_and (a := decide (0 < p.length)) (et_is (et_test (ev_op hlen ev_c rv_I0)) (by
            by_cases q : 0 < p.length
            · rw [decide_eq_true q, decide_eq_true (by omega)]
            · rw [decide_eq_false q, decide_eq_false (by omega)])) fun _ => et_is (et_B (ev_call (ea_cons (ev_var rfl) ea_nil) (spv_F0 (rd.ext e02).ov rd.ss rd.sz rd.e3))) heq) (fun z => by rw [Bool.and_false] at z; cases z) fun _ G3 e3 => ?_
        refine ⟨u, rfl, .ref a, rfl, ?_⟩
        have e03 := e02.trans e3
        refine cw_go (E := WE (fun cls d _ H => E cls d H)) (ev_var rfl) (Lw.ext e03 ⟨⟨o, rd, hf, hs⟩, hd⟩) fun r G4 e4 hr4 => ?_
        have hsz := hw.sz
        exact ⟨u, r, a, b, z, y, p, rfl, (hu.ext (e2.trans e3)).ext e4, ha.ext (e03.trans e4), hr4, by omega, by decide, by omega, hat, fun r5 G5 e5 h5 => k r5 G5 ((e03.trans e4).trans e5) h5⟩
end
end K28

set_option Elab.async false
set_option linter.all false
set_option maxRecDepth 100000
set_option maxHeartbeats 4000000
/-! The law's spring of draws. -/
namespace K28
open PySem PySem.Spec PyProof.Rows
open L2 Evl
/-- the spring at p: the cells left at q, what is left of a great one, how many were drawn, what all of them mix -/
structure Stm (H : Hp) (p q : Addr) (L : List Int) (a n t : Int) : Prop where
  hp : H p = some (.lst [.ref q, .int a, .int n, .int t])
  hq : H q = some (.lst (L.map V.int))
  ne : p ≠ q
  a0 : 0 ≤ a
  n0 : 0 ≤ n
  t0 : 0 ≤ t
  t1 : t < 2147483647
/-- all but two objects stay -/
def But (p q : Addr) (H G : Hp) : Prop := ∀ b o, b ≠ p → b ≠ q → H b = some o → G b = some o
def spDraw : Sp := fun vs H Q _ => ∃ (p q : Addr) (L : List Int) (a n t m : Int), vs = [.ref p, .int m] ∧ Stm H p q L a n t ∧ n < 100000 ∧ 1 ≤ m ∧ m ≤ 1000 ∧
  ∀ (r : Int) (G : Hp) (L' : List Int) (a' t' : Int), 0 ≤ r → r < m → Stm G p q L' a' (n + 1) t' → But p q H G → Q (.int r) G
theorem scD : FnScope ["_law_stream", "_law_many", "_law_cell", "_law_digit", "_law_mixed_here"] ["_law_stream", "_law_many"] (defScope s__law_draw) := ⟨rfl, rfl, rfl, by decide +kernel, rfl, by decide +kernel, by decide +kernel⟩
theorem dp_ints {K : PySem.W.Frag} {H : Hp} : ∀ L : List Int, DpAll K H (L.map V.int) (L.map PyData.int)
  | [] => .nil
  | i :: r => .cons (.int i) (dp_ints r)
theorem lay_ints : ∀ L : List Int, PyData.canLayAll0 (L.map PyData.int) = true
  | [] => rfl
  | _ :: r => by
    show (PyData.canLay0 (.int _) && PyData.canLayAll0 (r.map PyData.int)) = true
    rw [lay_ints r]
    rfl
theorem depth_ints : ∀ L : List Int, PyData.depthAll (L.map PyData.int) ≤ 1
  | [] => Nat.zero_le _
  | _ :: r => by
    show max (PyData.depth (.int _)) (PyData.depthAll (r.map PyData.int)) ≤ 1
    exact Nat.max_le.mpr ⟨Nat.zero_le _, depth_ints r⟩
theorem shaped_ints (L : List Int) : SeqAt.shaped (.list (L.map PyData.int)) = true := by
  unfold SeqAt.shaped
  rw [Bool.and_eq_true]
  refine ⟨lay_ints L, decide_eq_true ?_⟩
  have h := depth_ints L
  show PyData.depthAll (L.map PyData.int) + 1 ≤ 64
  omega
/-! ### reading and storing at places of a list -/
theorem ixr {K : PySem.W.Frag} {σ : L2.St} {H : Hp} {Q : VK} {i j : Nat} {z : Int} {p : Addr} {xs : List V} {v : V} (hs : σ[i]? = some (some (.ref p))) (hp : H p = some (.lst xs)) (hz : z = (j : Int)) (hj : xs[j]? = some v) (h : Q v H) :
    tOp (rIxL K) (tVar i) (tC (V.int z)) σ H Q := by
  subst hz
  exact ⟨_, hs, p, xs, _, v, rfl, rfl, SqL.of hp, atI_nat hj, h⟩
theorem ixn {m j : Nat} (hj : j < m) : ixN m (j : Int) = some j := by
  unfold ixN
  rw [if_pos (Int.natCast_nonneg j), if_pos (Int.ofNat_lt.mpr hj), Int.toNat_natCast]
theorem setr {σ : L2.St} {H : Hp} {Q : L2.St → Hp → Prop} {i j : Nat} {z : Int} {p : Addr} {xs : List V} {v : V} (hs : σ[i]? = some (some (.ref p))) (hp : H p = some (.lst xs)) (hz : z = (j : Int)) (hj : j < xs.length)
    (h : Q σ (upd H p (.lst (xs.set j v)))) : gSub (tVar i) (tC (V.int z)) rSetL v σ H Q := by
  subst hz
  exact ⟨_, hs, p, xs, _, j, rfl, rfl, hp, ixn hj, h⟩
theorem But.refl {p q : Addr} {H : Hp} : But p q H H := fun _ _ _ _ e => e
theorem But.trans {p q : Addr} {H G J : Hp} (a : But p q H G) (b : But p q G J) : But p q H J := fun c o n1 n2 e => b c o n1 n2 (a c o n1 n2 e)
theorem But.l {p q : Addr} {H : Hp} {o : HO} : But p q H (upd H p o) := fun b u n1 _ e => by rw [upd_ne n1]; exact e
theorem But.r {p q : Addr} {H : Hp} {o : HO} : But p q H (upd H q o) := fun b u _ n2 e => by rw [upd_ne n2]; exact e
theorem But.of {p q : Addr} {H G : Hp} (k : Ex H G) : But p q H G := fun b o _ _ e => k b o e
section
variable {H G : Hp} {p q : Addr} {L : List Int} {a n t : Int}
theorem Stm.ext (S : Stm H p q L a n t) (k : Ex H G) : Stm G p q L a n t := ⟨k _ _ S.hp, k _ _ S.hq, S.ne, S.a0, S.n0, S.t0, S.t1⟩
theorem Stm.put (S : Stm H p q L a n t) {a' n' t' : Int} (h1 : 0 ≤ a') (h2 : 0 ≤ n') (h3 : 0 ≤ t') (h4 : t' < 2147483647) : Stm (upd H p (.lst [.ref q, .int a', .int n', .int t'])) p q L a' n' t' :=
  ⟨upd_same, by rw [upd_ne S.ne.symm]; exact S.hq, S.ne, h1, h2, h3, h4⟩
theorem Stm.cut (S : Stm H p q L a n t) (L' : List Int) : Stm (upd H q (.lst (L'.map V.int))) p q L' a n t :=
  ⟨by rw [upd_ne S.ne]; exact S.hp, upd_same, S.ne, S.a0, S.n0, S.t0, S.t1⟩
end
/-! ### the readings -/
def dIx (K : PySem.W.Frag) (j : Int) : TE := tOp (rIxL K) (tVar 0) (tC (.int j))
def dNum (t : TE) : TE := tCB (fun xs H Q => (∃ i, xs = [V.int i] ∧ Q (.int i) H) ∨ ∃ k, xs = [V.bl k] ∧ Q (.int (if k = true then 1 else 0)) H) (tCons t tNil)
abbrev dAdd : TE → TE → TE := tOp (rI0 fun i j => .int (i + j))
abbrev dMul : TE → TE → TE := tOp (rI CMul fun i j => .int (i * j))
abbrev dMod : TE → TE → TE := tOp (rI (fun _ j => 0 < j) fun i j => .int (i % j))
abbrev dPow : TE → TE → TE := tOp (rI CPow fun i j => .int (i ^ j.toNat))
abbrev nC (i : Int) : TE := tC (.int i)
def dSet (j : Int) (te : TE) : TS := tAsg te (gSub (tVar 0) (nC j) rSetL)
def dTest (K : PySem.W.Frag) : TT := tAnd (tTest (tOp rEq (dIx K 1) (nC 0))) (tTest (tOp (rNeD K) (dIx K 0) (tLst tNil)))
def dTurn (K : PySem.W.Frag) : TS := tSeq (tAsg (tBM K "list" rPopAt (dIx K 0) (tCons (nC 0) tNil)) (gName 2))
  (tSeq (dSet 3 (dMod (dNum (dAdd (dAdd (dMul (dIx K 3) (nC 8191)) (tVar 2)) (nC 3))) (nC 2147483647)))
  (dSet 1 (tIf (tTest (tOp (rI0 fun i j => .bl (decide (j ≤ i))) (tVar 2) (dPow (nC 10) (nC 18)))) (tVar 2) (nC 0))))
def dEnd (K : PySem.W.Frag) : TS := tSeq (tIfS (tTest (tOp (rI0 fun i j => .bl (decide (j < i))) (dIx K 1) (nC 0)))
    (tSeq (tAsg (dMod (dNum (dIx K 1)) (tVar 1)) (gName 3)) (tSeq (dSet 1 (tOp (rI CDivN fun i j => .int (i.fdiv j)) (dIx K 1) (tVar 1))) (tRet (tVar 3)))) tNext)
  (tSeq (tAsg (dMod (dNum (dPow (dAdd (dAdd (dIx K 3) (dMul (nC 7919) (dIx K 2))) (nC 104729)) (nC 5))) (nC 2147483629)) (gName 4))
  (tRet (dMod (dMod (dNum (dPow (dAdd (dAdd (dMul (tVar 4) (nC 48271)) (dMul (nC 30011) (dIx K 2))) (nC 29)) (nC 3))) (nC 1000000007)) (tVar 1))))
def dAll (K : PySem.W.Frag) : TS := tSeq (dSet 2 (dAdd (dIx K 2) (nC 1))) (tSeq (tWhile (dTest K) (dTurn K)) (dEnd K))
section
variable {K : PySem.W.Frag}
theorem turn_ok {D : Ends} {σ : L2.St} {H : Hp} {p q : Addr} {c a n t : Int} {L : List Int} (S : Stm H p q (c :: L) a n t) (s0 : σ[0]? = some (some (.ref p))) (sl : σ.length = 5)
    (h : ∀ (G : Hp) (a' t' : Int), Stm G p q L a' n t' → But p q H G → D.nx (σ.set 2 (some (.int c))) G) : dTurn K D σ H := by
  have e0 : (σ.set 2 (some (V.int c)))[0]? = some (some (.ref p)) := by rw [List.getElem?_set_ne (by decide)]; exact s0
  have e2 : (σ.set 2 (some (V.int c)))[2]? = some (some (.int c)) := List.getElem?_set_self (by omega)
  refine ixr (j := 0) s0 S.hp rfl rfl ⟨.inl ⟨rfl, _, SqL.of S.hq⟩, q, _, 0, 0, .int c, rfl, rfl, S.hq, by decide, by decide, ?_, rfl, ?_⟩
  · unfold seqIndex?
    simp
  have S1 : Stm (upd H q (.lst (L.map V.int))) p q L a n t := S.cut L
  have t0 := S.t0
  have t1 := S.t1
  -- what all of them mix
  refine ixr (j := 3) e0 S1.hp rfl rfl ⟨_, _, rfl, rfl, .inl ⟨by omega, by omega⟩, _, e2, _, _, rfl, rfl, _, _, rfl, rfl, .inl ⟨_, rfl, _, _, rfl, rfl, (show (0 : Int) < 2147483647 by decide), ?_⟩⟩
  refine setr (j := 3) e0 S1.hp rfl (by show 3 < 4; omega) ?_
  have m0 := Int.emod_nonneg (t * 8191 + c + 3) (show (2147483647 : Int) ≠ 0 by decide)
  have m1 := Int.emod_lt_of_pos (t * 8191 + c + 3) (show (0 : Int) < 2147483647 by decide)
  have S2 := S1.put (a' := a) (n' := n) (t' := (t * 8191 + c + 3) % 2147483647) S.a0 S.n0 m0 m1
  have B2 : But p q H (upd (upd H q (.lst (L.map V.int))) p (.lst [.ref q, .int a, .int n, .int ((t * 8191 + c + 3) % 2147483647)])) := But.trans But.r But.l
  refine ⟨_, e2, _, _, rfl, rfl, ⟨by decide, by decide, by decide⟩, _, _, rfl, rfl, _, rfl, ?_⟩
  by_cases hc : (10 : Int) ^ (18 : Int).toNat ≤ c
  · rw [decide_eq_true hc]
    refine iteT ⟨_, e2, ?_⟩
    refine setr (j := 1) e0 S2.hp rfl (by show 1 < 4; omega) (h _ _ _ (S2.put (a' := c) ?_ S.n0 m0 m1) (B2.trans But.l))
    have z : (0 : Int) ≤ 10 ^ (18 : Int).toNat := by decide
    omega
  · rw [decide_eq_false hc]
    refine iteF ?_
    exact setr (j := 1) e0 S2.hp rfl (by show 1 < 4; omega) (h _ _ _ (S2.put (a' := 0) (by decide) S.n0 m0 m1) (B2.trans But.l))
theorem fin_ok {D : Ends} {σ : L2.St} {H : Hp} {p q : Addr} {a n t m k : Int} {L : List Int} (S : Stm H p q L a n t) (s0 : σ[0]? = some (some (.ref p))) (s1 : σ[1]? = some (some (.int m))) (sl : σ.length = 5)
    (hn : n ≤ 100000) (hm : 1 ≤ m) (hm2 : m ≤ 1000) (k0 : 0 ≤ k) (k1 : k < 2147483629)
    (h : ∀ (r : Int) (G : Hp) (L' : List Int) (a' t' : Int), 0 ≤ r → r < m → Stm G p q L' a' n t' → But p q H G → D.rt (.int r) G) :
    tRet (dMod (dMod (dNum (dPow (dAdd (dAdd (dMul (tVar 4) (nC 48271)) (dMul (nC 30011) (dIx K 2))) (nC 29)) (nC 3))) (nC 1000000007)) (tVar 1)) D (σ.set 4 (some (V.int k))) H := by
  have n0 := S.n0
  have e0 : (σ.set 4 (some (V.int k)))[0]? = some (some (.ref p)) := by rw [List.getElem?_set_ne (by decide)]; exact s0
  have e1 : (σ.set 4 (some (V.int k)))[1]? = some (some (.int m)) := by rw [List.getElem?_set_ne (by decide)]; exact s1
  have e4 : (σ.set 4 (some (V.int k)))[4]? = some (some (.int k)) := List.getElem?_set_self (by omega)
  refine ⟨_, e4, _, _, rfl, rfl, .inl ⟨by omega, by omega⟩, ?_⟩
  refine ixr (j := 2) e0 S.hp rfl rfl ⟨_, _, rfl, rfl, .inl ⟨by decide, by decide⟩, _, _, rfl, rfl, _, _, rfl, rfl, _, _, rfl, rfl, ⟨by decide, by decide, by omega⟩,
    .inl ⟨_, rfl, _, _, rfl, rfl, (show (0 : Int) < 1000000007 by decide), _, e1, _, _, rfl, rfl, by omega, ?_⟩⟩
  exact h _ _ _ _ _ (Int.emod_nonneg _ (by omega)) (Int.emod_lt_of_pos _ (by omega)) S But.refl
theorem end_ok {Q : VK} {nx : L2.St → Hp → Prop} {σ : L2.St} {H : Hp} {p q : Addr} {a n t m : Int} {L : List Int} (S : Stm H p q L a n t) (s0 : σ[0]? = some (some (.ref p))) (s1 : σ[1]? = some (some (.int m))) (sl : σ.length = 5)
    (hn : n ≤ 100000) (hm : 1 ≤ m) (hm2 : m ≤ 1000)
    (h : ∀ (r : Int) (G : Hp) (L' : List Int) (a' t' : Int), 0 ≤ r → r < m → Stm G p q L' a' n t' → But p q H G → Q (.int r) G) : dEnd K { nx := nx, rt := Q } σ H := by
  have n0 := S.n0
  have t0 := S.t0
  have t1 := S.t1
  have a0 := S.a0
  refine ixr (j := 1) s0 S.hp rfl rfl ⟨_, _, rfl, rfl, _, rfl, ?_⟩
  by_cases ha : 0 < a
  · rw [decide_eq_true ha]
    refine iteT ?_
    have e0 : (σ.set 3 (some (V.int (a % m))))[0]? = some (some (.ref p)) := by rw [List.getElem?_set_ne (by decide)]; exact s0
    have e1 : (σ.set 3 (some (V.int (a % m))))[1]? = some (some (.int m)) := by rw [List.getElem?_set_ne (by decide)]; exact s1
    have e3 : (σ.set 3 (some (V.int (a % m))))[3]? = some (some (.int (a % m))) := List.getElem?_set_self (by omega)
    refine ixr (j := 1) s0 S.hp rfl rfl (.inl ⟨_, rfl, _, s1, _, _, rfl, rfl, by omega, ?_⟩)
    refine ixr (j := 1) e0 S.hp rfl rfl ⟨_, e1, _, _, rfl, rfl, ⟨by omega, by omega⟩, ?_⟩
    refine setr (j := 1) e0 S.hp rfl (by show 1 < 4; omega) ⟨_, e3, ?_⟩
    exact h _ _ _ _ _ (Int.emod_nonneg a (by omega)) (Int.emod_lt_of_pos a (by omega)) (S.put (a' := a.fdiv m) (n' := n) (t' := t) (by rw [Int.fdiv_eq_ediv_of_nonneg _ (by omega)]; exact Int.ediv_nonneg a0 (by omega)) n0 t0 t1) But.l
  · rw [decide_eq_false ha]
    refine iteF ?_
    refine ixr (j := 3) s0 S.hp rfl rfl ?_
    refine ixr (j := 2) s0 S.hp rfl rfl ⟨_, _, rfl, rfl, .inl ⟨by decide, by decide⟩, _, _, rfl, rfl, _, _, rfl, rfl, _, _, rfl, rfl, ⟨by decide, by decide, by omega⟩, .inl ⟨_, rfl, _, _, rfl, rfl, (show (0 : Int) < 2147483629 by decide), ?_⟩⟩
    exact fin_ok S s0 s1 sl hn hm hm2 (Int.emod_nonneg _ (by decide)) (Int.emod_lt_of_pos _ (by decide)) h
theorem all_ok (vs : List V) (H : Hp) (Q : VK) (E : XK) (hs : spDraw vs H Q E) : dAll K { nx := fun _ H' => Q .non H', rt := Q } (L2.start ["_law_stream", "_law_many", "_law_cell", "_law_digit", "_law_mixed_here"] vs) H := by
  obtain ⟨p, q, L, a, n, t, m, rfl, S, hn, hm, hm2, k⟩ := hs
  -- one more was drawn
  refine ixr (j := 2) rfl S.hp rfl rfl ⟨_, _, rfl, rfl, ?_⟩
  refine setr (j := 2) rfl S.hp rfl (by show 2 < 4; omega) ?_
  have S1 := S.put (a' := a) (n' := n + 1) (t' := t) S.a0 (by have := S.n0; omega) S.t0 S.t1
  refine while_by (fun σ G => ∃ L' a' t', Stm G p q L' a' (n + 1) t' ∧ But p q H G ∧ σ[0]? = some (some (.ref p)) ∧ σ[1]? = some (some (.int m)) ∧ σ.length = 5)
    (fun _ G => match G q with | some (.lst xs) => xs.length | _ => 0) ⟨L, a, t, S1, But.l, rfl, rfl, rfl⟩ ?_ ?_
  · rintro σ G ⟨L', a', t', Z, B, s0, s1, sl⟩
    have fin : ∀ (G' : Hp) (L2 : List Int), Stm G' p q L2 a' (n + 1) t' → But p q H G' → dEnd K { nx := fun _ H' => Q .non H', rt := Q } σ G' := fun G' L2 Z' B' =>
      end_ok Z' s0 s1 sl (by omega) hm hm2 fun r G2 L3 a3 t3 r0 r1 z b => k r G2 L3 a3 t3 r0 r1 z (B'.trans b)
    refine ixr (j := 1) s0 Z.hp rfl rfl ⟨rfl, _, rfl, ?_⟩
    by_cases ha : a' = 0
    · subst ha
      rw [decide_eq_true (rfl : V.int 0 = V.int 0)]
      refine iteT ?_
      refine ixr (j := 0) s0 Z.hp rfl rfl ⟨Nat.zero_le _, fun l hl => ?_⟩
      have Zl := Z.ext (Ex.new (o := .lst []) hl)
      have Bl : But p q H (upd G l (.lst [])) := B.trans (But.of (Ex.new hl))
      refine ⟨.list (L'.map PyData.int), .list [], .lst (SqL.of Zl.hq) (dp_ints L'), .lst (SqL.of upd_same) .nil, shaped_ints L', by decide +kernel, _, rfl, ?_⟩
      cases L' with
      | nil =>
        refine iteF ?_
        exact fin _ [] Zl Bl
      | cons c L' =>
        refine iteT ?_
        refine turn_ok Zl s0 sl fun G2 a2 t2 z b => ⟨⟨L', a2, t2, z, Bl.trans b, by rw [List.getElem?_set_ne (by decide)]; exact s0, by rw [List.getElem?_set_ne (by decide)]; exact s1, by simpa using sl⟩, ?_⟩
        rw [z.hq, Z.hq]
        simp
    · rw [decide_eq_false (fun z => ha (V.int.inj z))]
      exact iteF (fin _ L' Z B)
  · rintro σ G Q1 Q2 hq h
    obtain ⟨v, e1, p1, xs, i, z, y1, y2, y3, y4, y5, kk, y6, h⟩ := h
    refine ⟨v, e1, p1, xs, i, z, y1, y2, y3, y4, y5, kk, y6, ?_⟩
    cases kk with
    | false =>
      rw [if_neg Bool.false_ne_true] at h ⊢
      exact hq _ _ h
    | true =>
      rw [if_pos rfl] at h ⊢
      obtain ⟨v, e1, p1, xs, i, z, y1, y2, y3, y4, y5, y6⟩ := h
      refine ⟨v, e1, p1, xs, i, z, y1, y2, y3, y4, y5, fun l n => ?_⟩
      obtain ⟨d, e, d1, d2, d3, d4, k2, y, z⟩ := y6 l n
      exact ⟨d, e, d1, d2, d3, d4, k2, y, hq _ _ z⟩
end
section
variable {P : Program} {w : World} {K : PySem.W.Frag} {mg : Str → Option Value} {base : Heap}
theorem ok_draw {f : Addr} {fd : FuncData} (F : FnP K "_law_draw" s__law_draw f fd) (mI : mg "int" = none) : FnOk P w K mg base CX0 1 f fd ["_law_stream", "_law_many"] spDraw := by
  refine F.ok scD (fun vs H Q E h => ?_) (fun cdv A outer s H vs Q E hr h => ⟨dAll K, PSs.nox ?_, all_ok vs H Q E h⟩)
  · obtain ⟨p, q, L, a, n, t, m, rfl, _⟩ := h
    rfl
  · exact pss_cons (ps_asg (pe_op op_add (pe_ix ix_list (pv 0) pe_int (fun _ _ => rfl)) pe_int) (pg_sub (pv 0) pe_int set_list))
      (pss_cons (ps_while PassesOwn.never (PW.pt (pw_and (pt_cmpR op_eq (pe_ix ix_list (pv 0) pe_int (fun _ _ => rfl)) pe_int (nomark _))
          (pw_and1 (pt_cmpR (op_neD hr.units) (pe_ix ix_list (pv 0) pe_int (fun _ _ => rfl)) (pe_lst pa_nil) (nomark _)))))
        (pss_cons (ps_set (i := 2) scD.nd rfl (.inl rfl) (pe_bm PySem.F.plainAttrs_list PySem.F.slot_list_pop PySem.F.type_list_pop mt_popAt (pe_ix ix_list (pv 0) pe_int (fun _ _ => rfl)) (pa_cons pe_int pa_nil)))
        (pss_cons (ps_asg (pe_op op_mod (pe_callTy call_int1 (by rfl) mI PySem.Pv.boot_int (pa_cons (pe_op op_add (pe_op op_add (pe_op op_mul (pe_ix ix_list (pv 0) pe_int (fun _ _ => rfl)) pe_int) (pv 2)) pe_int) pa_nil)) pe_int)
          (pg_sub (pv 0) pe_int set_list))
        (pss_one (ps_asg (pe_ifExp (pt_cmpR op_ge (pv 2) (pe_op op_pow pe_int pe_int) (nomark _)) (pv 2) pe_int) (pg_sub (pv 0) pe_int set_list))))))
      (pss_cons (ps_if (pt_cmpR op_gt (pe_ix ix_list (pv 0) pe_int (fun _ _ => rfl)) pe_int (nomark _))
        (pss_cons (ps_set (i := 3) scD.nd rfl (.inl rfl) (pe_op op_mod (pe_callTy call_int1 (by rfl) mI PySem.Pv.boot_int (pa_cons (pe_ix ix_list (pv 0) pe_int (fun _ _ => rfl)) pa_nil)) (pv 1)))
        (pss_cons (ps_asg (pe_op op_fdivN (pe_ix ix_list (pv 0) pe_int (fun _ _ => rfl)) (pv 1)) (pg_sub (pv 0) pe_int set_list))
        (pss_one (ps_ret (pv 3))))) pss_nil)
      (pss_cons (ps_set (i := 4) scD.nd rfl (.inl rfl) (pe_op op_mod (pe_callTy call_int1 (by rfl) mI PySem.Pv.boot_int (pa_cons (pe_op op_pow (pe_op op_add (pe_op op_add (pe_ix ix_list (pv 0) pe_int (fun _ _ => rfl))
          (pe_op op_mul pe_int (pe_ix ix_list (pv 0) pe_int (fun _ _ => rfl)))) pe_int) pe_int) pa_nil)) pe_int))
      (pss_one (ps_ret (pe_op op_mod (pe_op op_mod (pe_callTy call_int1 (by rfl) mI PySem.Pv.boot_int (pa_cons (pe_op op_pow (pe_op op_add (pe_op op_add (pe_op op_mul (pv 4) pe_int)
          (pe_op op_mul pe_int (pe_ix ix_list (pv 0) pe_int (fun _ _ => rfl)))) pe_int) pe_int) pa_nil)) pe_int) (pv 1)))))))
end
end K28

set_option Elab.async false
set_option linter.all false
set_option maxRecDepth 100000
set_option maxHeartbeats 4000000
/-! Draws: start, pick, mixed. -/
namespace K28
open PySem PySem.Spec PyProof.Rows L2 Evl
/-- the spring at p, its cells at q, n drawn -/
def Spr (H : Hp) (p q : Addr) (n : Int) : Prop := ∃ L a t, Stm H p q L a n t
theorem Spr.ext {H G : Hp} {p q : Addr} {n : Int} (e : Ex H G) (h : Spr H p q n) : Spr G p q n := let ⟨L, a, t, s⟩ := h; ⟨L, a, t, s.ext e⟩
theorem Spr.keep {H G : Hp} {p q : Addr} {n : Int} (h : Spr H p q n) (e1 : ∀ o, H p = some o → G p = some o) (e2 : ∀ o, H q = some o → G q = some o) : Spr G p q n := let ⟨L, a, t, s⟩ := h; ⟨L, a, t, e1 _ s.hp, e2 _ s.hq, s.ne, s.a0, s.n0, s.t0, s.t1⟩
theorem Spr.lst {H : Hp} {p q : Addr} {n : Int} (h : Spr H p q n) : ∃ xs ys, H p = some (.lst xs) ∧ H q = some (.lst ys) := let ⟨L, a, t, s⟩ := h; ⟨_, _, s.hp, s.hq⟩
section
variable {P : Program} {w : World} {K : PySem.W.Frag} {mg : Str → Option Value} {base : Heap} {C : Addr}
def spDr : Sp := fun vs H Q _ => ∃ (p q : Addr) (n m : Int), vs = [.ref p, .int m] ∧ Spr H p q n ∧ n < 100000 ∧ 1 ≤ m ∧ m ≤ 1000 ∧
  ∀ (r : Int) (G : Hp), 0 ≤ r → r < m → Spr G p q (n + 1) → But p q H G → Q (.int r) G
theorem ok_dr (T : T28 P w K mg base) : Ok P w K mg base CX0 "_law_draw" ["_law_stream", "_law_many"] 1 spDr := by
  obtain ⟨⟨fd, F⟩, m⟩ := T.df 44 "_law_draw" s__law_draw rfl
  have G := ok_draw (P := P) (w := w) (mg := mg) (base := base) F T.int
  refine ⟨_, fd, ?_, F.bindsN fun kV doc pm an cdv ct us hl => match us, hl with | [_, _], _ => rfl, F.kp, m⟩
  exact FnOk.imp G fun vs H Q E ⟨p, q, n, m, h1, ⟨L, a, t, S⟩, h2, h3, h4, k⟩ => ⟨p, q, L, a, n, t, m, h1, S, h2, h3, h4, fun r G L' a' t' r0 r1 S' B => k r G r0 r1 ⟨L', a', t', S'⟩ B⟩
def spStart (K : PySem.W.Frag) : Sp := fun vs H Q _ => ∃ (a : Addr) (ns : List Int), vs = [.ref a] ∧ SqL K H a (ns.map V.int) ∧ ∀ p q G, H p = none → H q = none → Ex H G → Spr G p q 0 → Q (.ref p) G
theorem sc_start : FnScope ["_law_script"] ["_law_script"] (defScope s__law_start) := ⟨rfl, rfl, rfl, by decide +kernel, rfl, by decide +kernel, by decide +kernel⟩
theorem ok_start (T : T28 P w K mg base) : Ok P w K mg base CX0 "_law_start" ["_law_script"] 1 (spStart K) := by
  refine T.ok 43 rfl sc_start (fun vs H Q E h => ?_) (fun kV doc pm an cdv ct us hl => match us, hl with | [_], _ => rfl) (fun f cdv A outer s H vs Q E hr h => ?_)
  · obtain ⟨a, ns, rfl, _⟩ := h
    rfl
  · obtain ⟨a, ns, rfl, hS, k⟩ := h
    refine ⟨_, pss_one (ps_ret (pe_lst (pa_cons (pe_callTy call_list_of (by rfl) T.list PyProof.Rows.boot_list (pa_cons (pv 0) pa_nil)) (pa_cons pe_int (pa_cons pe_int (pa_cons pe_int pa_nil)))))), ?_⟩
    refine ⟨_, rfl, a, _, rfl, .inl hS, fun l nl => ⟨by show 4 ≤ sizeLine; rw [sizeLine_eq]; omega, fun p np => ?_⟩⟩
    have ne : l ≠ p := fun z => by
      rw [z, upd_same] at np
      cases np
    exact k p l _ (fresh_back (Ex.new nl) np) nl ((Ex.new nl).trans (Ex.new np)) ⟨ns, 0, 11, upd_same, by rw [upd_ne ne, upd_same], ne.symm, Int.le_refl _, Int.le_refl _, by decide, by decide⟩
def spPick (K : PySem.W.Frag) : Sp := fun vs H Q _ => ∃ (p q c : Addr) (n : Int) (xs : List V), vs = [.ref p, .ref c] ∧ Spr H p q n ∧ n < 100000 ∧ H c = some (.lst xs) ∧ c ≠ p ∧ c ≠ q ∧ xs ≠ [] ∧ xs.length ≤ 1000 ∧
  ∀ (y : V) (G : Hp), y ∈ xs → Spr G p q (n + 1) → But p q H G → Q y G
theorem sc_pick : FnScope ["_law_stream", "_law_some"] ["_law_stream", "_law_some"] (defScope s__law_pick) := ⟨rfl, rfl, rfl, by decide +kernel, rfl, by decide +kernel, by decide +kernel⟩
theorem ok_pick (T : T28 P w K mg base) : Ok P w K mg base CX0 "_law_pick" ["_law_stream", "_law_some"] 2 (spPick K) := by
  obtain ⟨fD, dD, GD, bD, kD, mD⟩ := (ok_dr T).ex
  refine T.ok 45 rfl sc_pick (fun vs H Q E h => ?_) (fun kV doc pm an cdv ct us hl => match us, hl with | [_, _], _ => rfl) (fun f cdv A outer s H vs Q E hr h => ?_)
  · obtain ⟨p, q, c, n, xs, rfl, _⟩ := h
    rfl
  · obtain ⟨p, q, c, n, xs, rfl, S, hn, hc, n1, n2, hne, hl, k⟩ := h
    refine ⟨_, pss_one (ps_ret (pe_ix ix_list (pv 1) (pe_call GD hr (by rfl) mD kD bD .nil pass0 (pa_cons (pv 0) (pa_cons (pe_callB call_len (by rfl) T.len PySem.boot_len (pa_cons (pv 1) pa_nil)) pa_nil))) (fun _ _ => rfl))), ?_⟩
    have hpos : 0 < xs.length := List.length_pos_iff.mpr hne
    refine ⟨_, rfl, _, rfl, _, rfl, _, xs.length, rfl, .inl ⟨xs, sq_of hc, rfl⟩, p, q, n, _, rfl, S, hn, by omega, by omega, fun r G r0 r1 S' B => ?_⟩
    obtain ⟨j, rfl⟩ : ∃ j : Nat, r = (j : Int) := ⟨r.toNat, by omega⟩
    have hj : j < xs.length := by omega
    exact ⟨c, xs, _, xs[j], rfl, rfl, sq_of (B _ _ n1 n2 hc), atI_nat (by simp [hj]), k _ G (List.getElem_mem _) S' B⟩
end
end K28

set_option Elab.async false
set_option linter.all false
set_option maxRecDepth 100000
set_option maxHeartbeats 4000000
/-! Several except clauses, each with the same name for what it catches. -/
namespace K28
open PySem PySem.Spec PyProof.Rows L2 Evl
/-- what the clauses wish of what the body lets out, one behind another; slot i is their name's -/
def wNam (K : PySem.W.Frag) (i : Nat) (Wo : WX) (D : Ends) : List (Value × (Addr → Value → Option Addr → TS)) → WX
  | [] => Wo
  | p :: r => fun cl dc τ G => ∃ y, PySem.W.exmOne K cl p.1 = some y ∧ (y = true → ∀ ae, G ae = none → p.2 ae cl dc { nx := fun τ1 G1 => D.nx (τ1.set i none) G1, rt := D.rt, bk := fun τ1 G1 => D.bk (τ1.set i none) G1, ct := fun τ1 G1 => D.ct (τ1.set i none) G1 } (τ.set i (some (.ref ae))) G) ∧
      (y = false → wNam K i Wo D r cl dc τ G)
inductive HNam (X : Cx) (n : Str) : List ExceptHandler → List (Value × (Addr → Value → Option Addr → TS)) → Prop
  | nil : HNam X n [] []
  | cons {x : Str} {cv : Value} {tu : Addr → Value → Option Addr → TS} {st : Stmt} {sts : List Stmt} {p1 p2 : Pos} {hs : List ExceptHandler} {l : List (Value × (Addr → Value → Option Addr → TS))} (hcl : Names X x cv)
      (hbd : ∀ (ae : Addr) (ob : Obj) (cl : Value) (dc : Option Addr) (pn : List (Addr × Obj)), Zc cl dc ob → (∃ vs, ob.data = .fields vs) → PSs (X.suite ae ((ae, ob) :: pn)) (st :: sts) (tu ae cl dc)) (r : HNam X n hs l) :
      HNam X n (.ExceptHandler (some (.Name x p1)) (some n) (st :: sts) p2 :: hs) ((cv, tu) :: l)
section
variable {X : Cx} {body : List Stmt} {h1 : ExceptHandler} {hds : List ExceptHandler} {l : List (Value × (Addr → Value → Option Addr → TS))} {pos : Pos} {tb : WX → TS} {Wo : WX} {i : Nat} {n : Str}
theorem ps_tryN (hst : X.stack = X.env :: X.outer) (hfm : X.env.frame = some X.env.locals) (hN : X.N.Nodup) (hni : X.N[i]? = some n) (hnl : X.env.kindOf n = some .local) (tk : Takes X Wo)
    (hbody : ∀ (W : WX) (pn : List (Addr × Obj)) (xe : Value → Shared → Prop), Takes (X.tr pn xe) W → PassesOwn (model X.prog X.w) X.A X.env xe → PSs (X.tr pn xe) body (tb W))
    (hh : HNam X n (h1 :: hds) l) : PS X (.Try body (h1 :: hds) [] [] pos) (fun D τ G => tb (wNam X.K i Wo D l) D τ G) := by
  refine ⟨fun pins s τ G D I hw => ?_⟩
  have ok := I.ok
  have frs0 : X.A.frames = some (X.env :: X.outer) := by rw [ok.frames, hst]
  have locn : Loc X.env.scope n := .inl hnl
  refine wpAny_Try_except ?_
  refine wpAny_mono ((hbody (wNam X.K i Wo D l) (X.pn ++ pins) (fun e1 t1 => wpAny (model X.prog X.w) X.A (noteFrame e1 X.env) (fun _ t2 => wpAny (model X.prog X.w) X.A (setFlight e1 none) (fun _ t3 =>
    wpAny (model X.prog X.w) X.A (handleBy e1 X.env (h1 :: hds)) (SP X pins D) X.xe t3) X.xe t2) X.xe t1) (fun u t' xx => ?_) PassesOwn.looking).run [] s τ G D (I.toTry _) hw) (fun f t1 hsp => ?_) (fun e1 t1 he => he)
  · obtain ⟨ae, Bk, sK, pins', τ', G', cl, dc, rfl, J', nbk, upk, skk, nae, osk, agk, wish⟩ := xx
    have J : Inv X pins τ' G' sK := J'.ofTry ok
    have sk2 : Sky Bk (X.env :: X.outer) ae (Zc cl dc) X.env.locals t'.heap := by rw [← hst]; exact skk
    show wpAny (model X.prog X.w) X.A (noteFrame (.ref ae) X.env) _ _ _
    refine Sky.land Zc.steady frs0 hfm sk2 fun hp3 fl3 up3 => ?_
    have J3 : Inv X pins τ' G' { t' with heap := hp3 } := J.landed nbk fl3.1 (upk.trans up3) osk agk
    obtain ⟨ob3, vs3, at3, z3, dat3⟩ := fl3.there
    have offFr : ∀ {hq : Heap} {oq : Obj} {vq : Array Value}, hq.FunFrames Bk (X.env :: X.outer) → hq.get? ae = some oq → oq.data = .fields vq → ae ∉ frs (X.env :: X.outer) := fun {hq oq vq} ff eq dq hm => by
      obtain ⟨_, oz, ez, hnf⟩ := ff.mem hm
      rw [eq] at ez
      cases ez
      exact hnf _ dq
    have off3 := offFr fl3.2.2.1 at3 dat3
    have notL : ae ≠ X.env.locals := fun z => off3 (List.mem_filterMap.mpr ⟨X.env, List.mem_cons_self, by rw [hfm, z]⟩)
    have notF : ae ∉ X.fs := fun hm => by
      obtain ⟨ev, hev, qv⟩ := List.mem_filterMap.mp hm
      exact off3 (List.mem_filterMap.mpr ⟨ev, List.mem_cons_of_mem _ hev, qv⟩)
    have S3 := J3.suite at3 dat3 nae notL notF
    have walk : ∀ {hq : List ExceptHandler} {lq : List (Value × (Addr → Value → Option Addr → TS))}, HNam X n hq lq → wNam X.K i Wo D lq cl dc τ' G' →
        wpAny (model X.prog X.w) X.A (handleBy (.ref ae) X.env hq) (SP X pins D) X.xe { t' with heap := hp3 } := by
      intro hq lq hk
      induction hk with
      | nil =>
        intro ww
        refine wpAny_handleBy_nil ?_
        obtain ⟨b1, b2, b3, obj, fvs, Tc, oTc, tz, b4, b5, b6, b7, b8⟩ := id fl3
        unfold PySem.passOn
        refine wpAny_bind (wpAny_field b4 b6 b7 ?_)
        rw [if_neg (show ¬((Value.ref Tc == Value.none) = true) from by simp)]
        have out : wpAny (model X.prog X.w) X.A (setFlight (.ref ae) X.env.frame) (fun _ t4 => wpAny (model X.prog X.w) X.A (throw (.ref ae) : Sem Flow) (SP X pins D) X.xe t4) X.xe { t' with heap := hp3 } := by
          rw [hfm]
          refine HandSPX.setFlight_upZ fl3 fun hp4 hh4 up4 => wpAny_throw (tk _ _ ?_)
          exact ⟨ae, Bk, sK, pins, τ', G', cl, dc, rfl, J, nbk, (upk.trans up3).trans up4, .inr (.inr (by rw [hst]; exact hh4)), nae, osk, agk, ww⟩
        first
          | exact wpAny_bind (wpAny_pure (wpAny_bind out))
          | exact wpAny_bind out
      | @cons x cv tu st sts p1 p2 hq2 l2 hcl hbd r ih =>
        intro ww
        obtain ⟨y, hy, yes, no⟩ := ww
        refine wpAny_handleBy_cons (codeAny_handlers_test ?_) (by intro q; cases q)
        have lookT : PySem.W.Looks (model X.prog X.w) hp3 (typeOf (.ref ae)) cl := fun A2 Q2 E2 s2 k2 q2 => wpAny_typeOf_ref (k2 _ _ at3) (by rw [z3.1]; exact q2)
        have lookM := PySem.W.exm_one (M := model X.prog X.w) (J3.kIn) lookT hy
        have nameV : ∀ {Q2 : Value → Shared → Prop} {E2 : Value → Shared → Prop}, Q2 cv { t' with heap := hp3 } → wpAny (model X.prog X.w) (X.A.mark (some (.ref ae))) (eval (.Name x p1) X.env) Q2 E2 { t' with heap := hp3 } := fun {Q2 E2} q2 => by
          obtain ⟨g1, g2, g3 | ⟨g3, g4, g5⟩⟩ := hcl
          · exact ld_glob (X := X.suite ae ((ae, ob3) :: (X.pn ++ pins))) S3 g1 g3 q2 g2
          · exact ld_blt (X := X.suite ae ((ae, ob3) :: (X.pn ++ pins))) S3 g1 g3 g4 q2 g5 g2
        refine nameV (lookM.here ?_)
        cases y with
        | true =>
          refine codeAny_handlers_suite_as ?_
          refine HandSPX.lands_againZ fl3 fun hp4 fl4 up4 => ?_
          have J4 : Inv X pins τ' G' { t' with heap := hp4 } := J.landed nbk fl4.1 ((upk.trans up3).trans up4) osk agk
          obtain ⟨ob4, vs4, at4, z4, dat4⟩ := fl4.there
          have S4 := J4.suite at4 dat4 nae notL notF
          refine store_ok (X := X.suite ae ((ae, ob4) :: (X.pn ++ pins))) (v := .ref ae) S4 hN hni locn rfl (fun t5 S5 => ?_) (.inr hnl)
          refine wpAny_mono ((hbd ae ob4 cl dc (X.pn ++ pins) z4 ⟨_, dat4⟩).run [] t5 _ G' _ S5 (yes rfl ae nae)) (fun f t6 hsp => ?_) (fun _ _ z => False.elim z)
          have fin : ∀ {τ6 : L2.St} {G6 : Hp} {Q6 : Shared → Prop}, Inv (X.suite ae ((ae, ob4) :: (X.pn ++ pins))) [] τ6 G6 t6 → (∀ t7, Inv X pins (τ6.set i none) G6 t7 → Q6 t7) →
              wpAny (model X.prog X.w) X.A (do bindName X.env n .none; unbindBehindTheSuite X.env n p2) (fun _ t7 => Q6 t7) X.xe t6 := fun {τ6 G6 Q6} S6 q6 => gone_ok (S6.unsuite ok) hN hni hnl q6
          cases f with
          | next =>
            obtain ⟨τ6, G6, S6, w6⟩ := hsp
            exact fin S6 fun _ J7 => ⟨_, _, J7, w6⟩
          | brk =>
            obtain ⟨τ6, G6, S6, w6⟩ := hsp
            exact fin S6 fun _ J7 => ⟨_, _, J7, w6⟩
          | cont =>
            obtain ⟨τ6, G6, S6, w6⟩ := hsp
            exact fin S6 fun _ J7 => ⟨_, _, J7, w6⟩
          | ret u6 =>
            obtain ⟨v6, τ6, G6, S6, r6, w6⟩ := hsp
            exact fin S6 fun _ J7 => ⟨_, _, _, J7, r6, w6⟩
        | false =>
          show wpAny _ X.A (handleBy (.ref ae) X.env hq2) _ _ _
          exact ih (no rfl)
    exact walk hh wish
  · cases f with
    | next =>
      obtain ⟨τ2, G2, J2, w2⟩ := hsp
      exact wpAny_execs_nil ⟨τ2, G2, J2.ofTry ok, w2⟩
    | brk =>
      obtain ⟨τ2, G2, J2, w2⟩ := hsp
      exact ⟨τ2, G2, J2.ofTry ok, w2⟩
    | cont =>
      obtain ⟨τ2, G2, J2, w2⟩ := hsp
      exact ⟨τ2, G2, J2.ofTry ok, w2⟩
    | ret u2 =>
      obtain ⟨v2, τ2, G2, J2, r2, w2⟩ := hsp
      exact ⟨v2, τ2, G2, J2.ofTry ok, r2, w2⟩
end
end K28

set_option Elab.async false
set_option linter.all false
set_option maxRecDepth 100000
set_option maxHeartbeats 4000000
/-! What is met: told, or the thing of an error. -/
namespace K28
open PySem PySem.Spec PyProof.Rows L2 Evl LamX
/-- a new pair of a text and v -/
def Pr (s : Str) (v : V) (H : Hp) (Q : VK) : Prop := 2 ≤ sizeLine ∧ ∀ p, H p = none → Q (.ref p) (upd H p (.tup [.str s, v]))
/-- errors: their class, what they keep, how they are told -/
def mets : List (Str × Str × Str) := [("BadWord", "thing", "word"), ("BadPlace", "thing", "place"), ("BadSubstitution", "thing", "put"), ("BadRows", "index", "rows"), ("BadOrder", "thing", "order"), ("NotOrdered", "name", "name")]
def Emet (K : PySem.W.Frag) (Q : VK) : XK := fun cl dc G => ∃ q ∈ mets, cl = .ref (He.ga K q.1) ∧ ∃ dd v, dc = some dd ∧ G dd = some (.xd [(q.2.1, v)]) ∧ Pr q.2.2 v G Q
def TTmet (K : PySem.W.Frag) : (XK → Hp → VK → Prop) → Hp → VK → Prop := fun tl H Q => tl (Emet K Q) H (fun v G => Pr "told" v G Q)
def tuX (K : PySem.W.Frag) (x z s : Str) : Addr → Value → Option Addr → TS := fun ae cl dc => tRet (tTup (tCons (tC (.str s)) (tCons (tXf ae cl dc (He.ga K x) z (tVar 1)) tNil)))
def tuN : Addr → Value → Option Addr → TS := fun _ _ _ _ _ _ => False
def hlist (K : PySem.W.Frag) : List (Value × (Addr → Value → Option Addr → TS)) :=
  [(.ref (He.ga K "BadWord"), tuX K "BadWord" "thing" "word"), (.ref (He.ga K "BadPlace"), tuX K "BadPlace" "thing" "place"), (.ref (He.ga K "BadSubstitution"), tuX K "BadSubstitution" "thing" "put"), (.ref (He.ga K "BadPairs"), tuN), (.ref (He.ga K "BadClause"), tuN), (.ref (He.ga K "BadClauses"), tuN), (.ref (He.ga K "BadTaken"), tuN), (.ref (He.ga K "BadTruth"), tuN), (.ref (He.ga K "BadRows"), tuX K "BadRows" "index" "rows"), (.ref (He.ga K "BadOrder"), tuX K "BadOrder" "thing" "order"), (.ref (He.ga K "NotOrdered"), tuX K "NotOrdered" "name" "name"), (.ref (He.ga K "BadNumber"), tuN), (.ref (He.ga K "BadArities"), tuN), (.ref (He.ga K "NotGround"), tuN)]
abbrev nMe : List Str := ["_law_ask", "e"]
theorem sc_me : FnScope nMe ["_law_ask"] (defScope s__law_d_met) := ⟨rfl, rfl, rfl, by decide +kernel, rfl, by decide +kernel, by decide +kernel⟩
theorem met_gives {X : Cx} (T : T28 X.prog X.w X.K X.mg X.base) {g : Addr} {cdg : Value} {q : Str} :
    GivesTo X nMe "_law_d_met" (defScope s__law_d_met) g cdg (defBody s__law_d_met) "_law_ask" q (TTmet X.K) := by
  intro f c' s H Q tl act hc h
  have nm : ∀ x : Str, x ∈ cnms → (defScope s__law_d_met).names.lookup x = some .globalImplicit → (x == ("__debug__" : Str)) = false → Names (cxOf C8.CX0 X.prog X.w X.K X.mg X.base nMe "_law_d_met" (defScope s__law_d_met) g cdg X.A X.stack s H C8.E0).nox x (.ref (He.ga X.K x)) :=
    fun x hx hl hd => ⟨hl, hd, .inl (T.cl x hx)⟩
  refine ⟨_, pss_one (ps_tryN (X := (cxOf C8.CX0 X.prog X.w X.K X.mg X.base nMe "_law_d_met" (defScope s__law_d_met) g cdg X.A X.stack s H C8.E0).nox) (i := 1) (n := "e") (l := hlist X.K)
    (tb := fun W D σ G => ∃ Ech : XK, (∀ cl dc (σ' : L2.St) G', σ'.length = 2 → Ech cl dc G' → W cl dc σ' G') ∧ σ[0]? = some (some (.ref f)) ∧ G c' = some (CodeO c' q) ∧ tl Ech G (fun v G1 => 2 ≤ sizeLine ∧ ∀ p, G1 p = none → D.rt (.ref p) (upd G1 p (.tup [.str "told", v]))))
    rfl rfl sc_me.nd rfl rfl L2.takes0 (fun W pn xe tk _ => ?_) ?_), ?_⟩
  · refine ⟨fun pins s' σ G D I h' => ?_⟩
    obtain ⟨Ech, hW, h1, h2, h3⟩ := h'
    have tk2 : Takes ((cxOf C8.CX0 X.prog X.w X.K X.mg X.base nMe "_law_d_met" (defScope s__law_d_met) g cdg X.A X.stack s H C8.E0).nox.tr pn xe) (fun cl dc σ' G' => σ'.length = 2 → W cl dc σ' G') := fun u t' ⟨b1, b2, b3, b4, σ', G', cl, dc, b5, b6, b7, b8, b9, b10, b11, b12, b13⟩ =>
      tk u t' ⟨b1, b2, b3, b4, σ', G', cl, dc, b5, b6, b7, b8, b9, b10, b11, b12, b13 b6.len⟩
    have hp := fun p1 p2 => act (fun cl dc σ' G' => σ'.length = 2 → W cl dc σ' G') pn xe Ech p1 p2 tk2 (fun cl dc σ' G' a b => hW cl dc σ' G' b a)
    exact (pss_one (ps_ret (pe_tup (pa_cons pe_str (pa_cons (hp _ _) pa_nil))))).run pins s' σ G D I ⟨h1, h2, h3⟩
  · refine .cons (nm "BadWord" (by decide) (by decide +kernel) (by decide)) (fun ae ob cl dc pn hz hf => pss_one (ps_ret (pe_tup (pa_cons pe_str (pa_cons (pe_xf T.bw.xf T.bw.no hz hf (pv 1)) pa_nil))))) ?_
    refine .cons (nm "BadPlace" (by decide) (by decide +kernel) (by decide)) (fun ae ob cl dc pn hz hf => pss_one (ps_ret (pe_tup (pa_cons pe_str (pa_cons (pe_xf T.bp.xf T.bp.no hz hf (pv 1)) pa_nil))))) ?_
    refine .cons (nm "BadSubstitution" (by decide) (by decide +kernel) (by decide)) (fun ae ob cl dc pn hz hf => pss_one (ps_ret (pe_tup (pa_cons pe_str (pa_cons (pe_xf T.bs.xf T.bs.no hz hf (pv 1)) pa_nil))))) ?_
    refine .cons (nm "BadPairs" (by decide) (by decide +kernel) (by decide)) (fun ae ob cl dc pn hz hf => pss_one ps_never) ?_
    refine .cons (nm "BadClause" (by decide) (by decide +kernel) (by decide)) (fun ae ob cl dc pn hz hf => pss_one ps_never) ?_
    refine .cons (nm "BadClauses" (by decide) (by decide +kernel) (by decide)) (fun ae ob cl dc pn hz hf => pss_one ps_never) ?_
    refine .cons (nm "BadTaken" (by decide) (by decide +kernel) (by decide)) (fun ae ob cl dc pn hz hf => pss_one ps_never) ?_
    refine .cons (nm "BadTruth" (by decide) (by decide +kernel) (by decide)) (fun ae ob cl dc pn hz hf => pss_one ps_never) ?_
    refine .cons (nm "BadRows" (by decide) (by decide +kernel) (by decide)) (fun ae ob cl dc pn hz hf => pss_one (ps_ret (pe_tup (pa_cons pe_str (pa_cons (pe_xf T.br.xf T.br.no hz hf (pv 1)) pa_nil))))) ?_
    refine .cons (nm "BadOrder" (by decide) (by decide +kernel) (by decide)) (fun ae ob cl dc pn hz hf => pss_one (ps_ret (pe_tup (pa_cons pe_str (pa_cons (pe_xf T.bo.xf T.bo.no hz hf (pv 1)) pa_nil))))) ?_
    refine .cons (nm "NotOrdered" (by decide) (by decide +kernel) (by decide)) (fun ae ob cl dc pn hz hf => pss_one (ps_ret (pe_tup (pa_cons pe_str (pa_cons (pe_xf T.no.xf T.no.no hz hf (pv 1)) pa_nil))))) ?_
    refine .cons (nm "BadNumber" (by decide) (by decide +kernel) (by decide)) (fun ae ob cl dc pn hz hf => pss_one ps_never) ?_
    refine .cons (nm "BadArities" (by decide) (by decide +kernel) (by decide)) (fun ae ob cl dc pn hz hf => pss_one ps_never) ?_
    refine .cons (nm "NotGround" (by decide) (by decide +kernel) (by decide)) (fun ae ob cl dc pn hz hf => pss_one ps_never) ?_
    exact .nil
  · refine ⟨Emet X.K Q, fun cl dc σ' G' hl hE => ?_, rfl, hc, ?_⟩
    · obtain ⟨q, hq, rfl, dd, v, rfl, hdd, k⟩ := hE
      simp only [mets, List.mem_cons, List.not_mem_nil, or_false] at hq
      rcases hq with rfl | rfl | rfl | rfl | rfl | rfl
      · exact ⟨true, T.xp ("BadWord", "thing") (by decide) "BadWord" (by decide), (fun _ ae hae => ⟨_, by rw [List.getElem?_set_self (by omega)], rfl, rfl, dd, _, v, rfl, hdd, rfl, k⟩), fun z => nomatch z⟩
      · exact ⟨false, T.xp ("BadPlace", "thing") (by decide) "BadWord" (by decide), (fun z => nomatch z), fun _ => ⟨true, T.xp ("BadPlace", "thing") (by decide) "BadPlace" (by decide), (fun _ ae hae => ⟨_, by rw [List.getElem?_set_self (by omega)], rfl, rfl, dd, _, v, rfl, hdd, rfl, k⟩), fun z => nomatch z⟩⟩
      · exact ⟨false, T.xp ("BadSubstitution", "thing") (by decide) "BadWord" (by decide), (fun z => nomatch z), fun _ => ⟨false, T.xp ("BadSubstitution", "thing") (by decide) "BadPlace" (by decide), (fun z => nomatch z), fun _ => ⟨true, T.xp ("BadSubstitution", "thing") (by decide) "BadSubstitution" (by decide), (fun _ ae hae => ⟨_, by rw [List.getElem?_set_self (by omega)], rfl, rfl, dd, _, v, rfl, hdd, rfl, k⟩), fun z => nomatch z⟩⟩⟩
      · exact ⟨false, T.xp ("BadRows", "index") (by decide) "BadWord" (by decide), (fun z => nomatch z), fun _ => ⟨false, T.xp ("BadRows", "index") (by decide) "BadPlace" (by decide), (fun z => nomatch z), fun _ => ⟨false, T.xp ("BadRows", "index") (by decide) "BadSubstitution" (by decide), (fun z => nomatch z), fun _ => ⟨false, T.xp ("BadRows", "index") (by decide) "BadPairs" (by decide), (fun z => nomatch z), fun _ => ⟨false, T.xp ("BadRows", "index") (by decide) "BadClause" (by decide), (fun z => nomatch z), fun _ => ⟨false, T.xp ("BadRows", "index") (by decide) "BadClauses" (by decide), (fun z => nomatch z), fun _ => ⟨false, T.xp ("BadRows", "index") (by decide) "BadTaken" (by decide), (fun z => nomatch z), fun _ => ⟨false, T.xp ("BadRows", "index") (by decide) "BadTruth" (by decide), (fun z => nomatch z), fun _ => ⟨true, T.xp ("BadRows", "index") (by decide) "BadRows" (by decide), (fun _ ae hae => ⟨_, by rw [List.getElem?_set_self (by omega)], rfl, rfl, dd, _, v, rfl, hdd, rfl, k⟩), fun z => nomatch z⟩⟩⟩⟩⟩⟩⟩⟩⟩
      · exact ⟨false, T.xp ("BadOrder", "thing") (by decide) "BadWord" (by decide), (fun z => nomatch z), fun _ => ⟨false, T.xp ("BadOrder", "thing") (by decide) "BadPlace" (by decide), (fun z => nomatch z), fun _ => ⟨false, T.xp ("BadOrder", "thing") (by decide) "BadSubstitution" (by decide), (fun z => nomatch z), fun _ => ⟨false, T.xp ("BadOrder", "thing") (by decide) "BadPairs" (by decide), (fun z => nomatch z), fun _ => ⟨false, T.xp ("BadOrder", "thing") (by decide) "BadClause" (by decide), (fun z => nomatch z), fun _ => ⟨false, T.xp ("BadOrder", "thing") (by decide) "BadClauses" (by decide), (fun z => nomatch z), fun _ => ⟨false, T.xp ("BadOrder", "thing") (by decide) "BadTaken" (by decide), (fun z => nomatch z), fun _ => ⟨false, T.xp ("BadOrder", "thing") (by decide) "BadTruth" (by decide), (fun z => nomatch z), fun _ => ⟨false, T.xp ("BadOrder", "thing") (by decide) "BadRows" (by decide), (fun z => nomatch z), fun _ => ⟨true, T.xp ("BadOrder", "thing") (by decide) "BadOrder" (by decide), (fun _ ae hae => ⟨_, by rw [List.getElem?_set_self (by omega)], rfl, rfl, dd, _, v, rfl, hdd, rfl, k⟩), fun z => nomatch z⟩⟩⟩⟩⟩⟩⟩⟩⟩⟩
      · exact ⟨false, T.xp ("NotOrdered", "name") (by decide) "BadWord" (by decide), (fun z => nomatch z), fun _ => ⟨false, T.xp ("NotOrdered", "name") (by decide) "BadPlace" (by decide), (fun z => nomatch z), fun _ => ⟨false, T.xp ("NotOrdered", "name") (by decide) "BadSubstitution" (by decide), (fun z => nomatch z), fun _ => ⟨false, T.xp ("NotOrdered", "name") (by decide) "BadPairs" (by decide), (fun z => nomatch z), fun _ => ⟨false, T.xp ("NotOrdered", "name") (by decide) "BadClause" (by decide), (fun z => nomatch z), fun _ => ⟨false, T.xp ("NotOrdered", "name") (by decide) "BadClauses" (by decide), (fun z => nomatch z), fun _ => ⟨false, T.xp ("NotOrdered", "name") (by decide) "BadTaken" (by decide), (fun z => nomatch z), fun _ => ⟨false, T.xp ("NotOrdered", "name") (by decide) "BadTruth" (by decide), (fun z => nomatch z), fun _ => ⟨false, T.xp ("NotOrdered", "name") (by decide) "BadRows" (by decide), (fun z => nomatch z), fun _ => ⟨false, T.xp ("NotOrdered", "name") (by decide) "BadOrder" (by decide), (fun z => nomatch z), fun _ => ⟨true, T.xp ("NotOrdered", "name") (by decide) "NotOrdered" (by decide), (fun _ ae hae => ⟨_, by rw [List.getElem?_set_self (by omega)], rfl, rfl, dd, _, v, rfl, hdd, rfl, k⟩), fun z => nomatch z⟩⟩⟩⟩⟩⟩⟩⟩⟩⟩⟩
    · exact h
end K28

set_option Elab.async false
set_option linter.all false
set_option maxRecDepth 100000
set_option maxHeartbeats 4000000
/-! Drawn words: what holds of them. -/
namespace K28
open PySem PySem.Spec PyProof.Rows L2 Evl LamX
mutual
def W.nd : W → Nat
  | .v _ => 1
  | .n _ as => W.nds as + 1
def W.nds : List W → Nat
  | [] => 0
  | x :: xs => x.nd + W.nds xs
end
mutual
theorem W.sz_nd : ∀ w : W, w.sz ≤ 2 * w.nd
  | .v _ => by show 1 ≤ 2 * 1; decide
  | .n _ as => by have := W.szs_nd as; show W.szs as + 2 ≤ 2 * (W.nds as + 1); omega
theorem W.szs_nd : ∀ ws : List W, W.szs ws ≤ 2 * W.nds ws
  | [] => Nat.le_refl _
  | x :: xs => by have h1 := W.sz_nd x; have h2 := W.szs_nd xs; show x.sz + W.szs xs ≤ 2 * (x.nd + W.nds xs); omega
end
mutual
theorem W.parts_nd : ∀ w : W, w.parts.length = w.nd
  | .v _ => rfl
  | .n _ as => by show (W.partsL 0 as).length + 1 = W.nds as + 1; rw [W.partsL_nd 0 as]
theorem W.partsL_nd : ∀ (i : Nat) (ws : List W), (W.partsL i ws).length = W.nds ws
  | _, [] => rfl
  | i, x :: xs => by
    show ((x.parts.map _) ++ W.partsL (i + 1) xs).length = x.nd + W.nds xs
    rw [List.length_append, List.length_map, W.parts_nd x, W.partsL_nd (i + 1) xs]
end
theorem headB_strip (h : O) (n : Nat) : headB h.strip n = headB h n := by cases h <;> rfl
theorem strips_len (xs : List O) : (O.strips xs).length = xs.length := by rw [strips_eq, List.length_map]
mutual
theorem strip_fit : ∀ o : O, o.strip.fit = o.fit
  | .non => rfl | .bl _ => rfl | .int _ => rfl | .str _ => rfl | .dct => rfl
  | .lst xs => strip_fitL xs
  | .tup xs => strip_fitL xs
theorem strip_fitL : ∀ xs : List O, O.fitL (O.strips xs) = O.fitL xs
  | [] => rfl
  | h :: as => by
    show (headB h.strip (O.strips as).length && O.fits (O.strips as)) = (headB h as.length && O.fits as)
    rw [headB_strip, strips_len, strip_fits as]
theorem strip_fits : ∀ xs : List O, O.fits (O.strips xs) = O.fits xs
  | [] => rfl
  | x :: xs => by
    show (x.strip.fit && O.fits (O.strips xs)) = (x.fit && O.fits xs)
    rw [strip_fit x, strip_fits xs]
end
mutual
theorem strip_ss : ∀ o : O, o.strip.ss = o.ss
  | .non => rfl | .bl _ => rfl | .int _ => rfl | .str _ => rfl | .dct => rfl
  | .lst xs => strip_sss xs
  | .tup xs => strip_sss xs
theorem strip_sss : ∀ xs : List O, O.sss (O.strips xs) = O.sss xs
  | [] => rfl
  | x :: xs => by
    show (x.strip.ss && O.sss (O.strips xs)) = (x.ss && O.sss xs)
    rw [strip_ss x, strip_sss xs]
end
theorem eqL_strip (xs : List O) : eqL (O.strips xs) = eqL xs := by
  match xs with
  | [] => rfl
  | [a] => cases a <;> rfl
  | [a, b] => cases a <;> rfl
  | [a, b, c] => cases a <;> rfl
  | a :: b :: c :: d :: r => cases a <;> rfl
theorem e3L_strip (xs : List O) : e3L (O.strips xs) = e3L xs := by
  match xs with
  | [] => rfl
  | [a] => rfl
  | [a, b] => rfl
  | [a, b, c] => cases a <;> rfl
  | a :: b :: c :: d :: r => rfl
theorem placesL_strip (xs : List O) : placesL (O.strips xs) = placesL xs := by
  cases xs with
  | nil => rfl
  | cons h as =>
    show headB h.strip (O.strips as).length = headB h as.length
    rw [headB_strip, strips_len]
theorem tailL_strip (xs : List O) : tailL (O.strips xs) = tailL xs := by
  cases xs with
  | nil => rfl
  | cons h as => exact strip_fits as
theorem strip_fitA (o : O) : o.strip.fitA = o.fitA := by
  cases o with
  | lst xs => show ((eqL (O.strips xs) || placesL (O.strips xs)) && tailL (O.strips xs)) = _; rw [eqL_strip, placesL_strip, tailL_strip]; rfl
  | tup xs => show ((eqL (O.strips xs) || placesL (O.strips xs)) && tailL (O.strips xs)) = _; rw [eqL_strip, placesL_strip, tailL_strip]; rfl
  | _ => rfl
theorem strip_fitW (o : O) : o.strip.fitW = o.fitW := by
  unfold O.fitW
  rw [strip_fit, strip_fitA]
theorem strip_e3 (o : O) : o.strip.e3 = o.e3 := by
  cases o with
  | lst xs => exact e3L_strip xs
  | tup xs => exact e3L_strip xs
  | _ => rfl
theorem W.e3 (z : W) : z.o.e3 = true := by
  cases z with
  | v s => rfl
  | n s as =>
    match as with
    | [] => rfl
    | [_] => rfl
    | [_, _] => rfl
    | _ :: _ :: _ :: _ => rfl
/-- a right word or atom, not too great -/
structure Dz (z : W) : Prop where
  fit : z.o.fitW = true
  ss : z.o.ss = true
  nd : z.nd ≤ 400
  dp : z.dp < 12
theorem Dz.lw {z : W} (h : Dz z) {H : Hp} {v : V} {o : O} (ov : OV H v o) (e : o.strip = z.o) : Lw H v z := by
  refine ⟨⟨o, ⟨ov, by rw [← strip_ss, e]; exact h.ss, ?_, by rw [← strip_e3, e]; exact z.e3⟩, by rw [← strip_fitW, e]; exact h.fit, e⟩, h.dp⟩
  have := sz_of_strip e
  have := W.sz_nd z
  have := h.nd
  omega
def N10 : List Str := ["a", "b", "c", "f", "g", "h", "p", "q", "r", "s"]
/-- so many parts as the name asks -/
def arS (s : Str) : Nat := if s ∈ (["f", "p", "q"] : List Str) then 1 else if s ∈ (["g", "r"] : List Str) then 2 else if s ∈ (["h"] : List Str) then 3 else 0
mutual
def W.ar : W → Bool
  | .v _ => true
  | .n s as => (decide (as.length = arS s) && N10.contains s) && W.ars as
def W.ars : List W → Bool
  | [] => true
  | x :: xs => x.ar && W.ars xs
end

mutual
def W.vin (xs : List Str) : W → Bool
  | .v s => xs.contains s
  | .n _ as => W.vins xs as
def W.vins (xs : List Str) : List W → Bool
  | [] => true
  | x :: r => x.vin xs && W.vins xs r
end
theorem W.vins_all {xs : List Str} : ∀ {as : List W}, (∀ z ∈ as, z.vin xs = true) → W.vins xs as = true
  | [], _ => rfl
  | a :: as, h => by
    show (a.vin xs && W.vins xs as) = true
    rw [h a (by simp), W.vins_all fun z hz => h z (by simp [hz])]
    rfl
/-- a drawn word, of so many levels -/
def nN : Nat → Nat
  | 0 => 1
  | L + 1 => 3 * nN L + 1
structure Dw (L : Nat) (z : W) : Prop where
  fit : z.o.fit = true
  ss : z.o.ss = true
  nd : z.nd ≤ nN L
  dp : z.dp ≤ L + 1
  eq : z.noEq = true
  ar : z.ar = true
theorem nN_pos (L : Nat) : 1 ≤ nN L := by cases L <;> simp [nN]
theorem nN_mono {L M : Nat} (h : L ≤ M) : nN L ≤ nN M := by
  induction M with
  | zero => rw [Nat.le_zero.mp h]; exact Nat.le_refl _
  | succ M ih =>
    rcases Nat.lt_or_ge M L with q | q
    · rw [show L = M + 1 by omega]; exact Nat.le_refl _
    · have := ih q
      show nN L ≤ 3 * nN M + 1
      omega
theorem nN4 : nN 4 = 121 := rfl
def SV : List Str := ["X", "Y", "Z", "U", "W1"]
/-- what may be picked: a variable, a constant -/
inductive Lf : W → Prop
  | v {s : Str} : s ∈ SV → Lf (.v s)
  | c {s : Str} : s ∈ (["a", "b", "c"] : List Str) → Lf (.n s [])
theorem sv_fit : ∀ s ∈ SV, varB s = true ∧ SS.contains s = true := by decide +kernel
theorem cc_fit : ∀ s ∈ (["a", "b", "c"] : List Str), nameB s = true ∧ SS.contains s = true ∧ (s == "=") = false := by decide +kernel
theorem ff_fit : ∀ s ∈ (["f", "g", "h"] : List Str), nameB s = true ∧ SS.contains s = true ∧ (s == "=") = false := by decide +kernel
theorem cc_ar : ∀ s ∈ (["a", "b", "c"] : List Str), arS s = 0 ∧ N10.contains s = true := by decide +kernel
theorem ff_in : ∀ s ∈ (["f", "g", "h"] : List Str), N10.contains s = true := by decide +kernel
theorem Lf.dw {z : W} (h : Lf z) (L : Nat) : Dw L z := by
  cases h with
  | v hs => exact ⟨(sv_fit _ hs).1, (sv_fit _ hs).2, nN_pos L, Nat.zero_le _, rfl, rfl⟩
  | @c s hs =>
    obtain ⟨h1, h2, h3⟩ := cc_fit _ hs
    refine ⟨?_, ?_, nN_pos L, Nat.le_add_left _ _, ?_, ?_⟩
    · show (headB (.str s) 0 && true) = true
      rw [Bool.and_true]
      show (decide (0 ≤ 6) && nameB s) = true
      rw [h1]
      rfl
    · show (SS.contains s && true) = true
      rw [h2]
      rfl
    · show (!(s == "=")) = true
      rw [h3]
      rfl
    · obtain ⟨a1, a2⟩ := cc_ar _ hs
      show ((decide (0 = arS s) && N10.contains s) && true) = true
      rw [a1, a2]
      rfl
theorem os_len (as : List W) : (W.os as).length = as.length := by rw [W.os_map, List.length_map]
theorem Dw.node {L : Nat} {s : Str} {as : List W} (hs : s ∈ (["f", "g", "h"] : List Str)) (hl : as.length ≤ 3) (har : as.length = arS s) (h : ∀ x ∈ as, Dw L x) : Dw (L + 1) (.n s as) := by
  obtain ⟨h1, h2, h3⟩ := ff_fit _ hs
  have key : ∀ l : List W, (∀ x ∈ l, Dw L x) → O.fits (W.os l) = true ∧ O.sss (W.os l) = true ∧ W.nds l ≤ l.length * nN L ∧ W.dps l ≤ L + 1 := by
    intro l
    induction l with
    | nil => intro _; exact ⟨rfl, rfl, Nat.zero_le _, Nat.zero_le _⟩
    | cons x l ih =>
      intro h
      obtain ⟨a, b, c, d⟩ := ih fun y hy => h y (List.mem_cons_of_mem _ hy)
      have hx := h x (List.mem_cons_self ..)
      refine ⟨?_, ?_, ?_, ?_⟩
      · show (x.o.fit && O.fits (W.os l)) = true
        rw [hx.fit, a]
        rfl
      · show (x.o.ss && O.sss (W.os l)) = true
        rw [hx.ss, b]
        rfl
      · show x.nd + W.nds l ≤ (l.length + 1) * nN L
        have := hx.nd
        rw [Nat.add_mul, Nat.one_mul]
        omega
      · exact Nat.max_le.mpr ⟨hx.dp, d⟩
  obtain ⟨a, b, c, d⟩ := key as h
  have hars : W.ars as = true := by
    clear a b c d key hl har
    induction as with
    | nil => rfl
    | cons x l ih =>
      show (x.ar && W.ars l) = true
      rw [(h x (by simp)).ar, ih fun y hy => h y (by simp [hy])]
      rfl
  refine ⟨?_, ?_, ?_, ?_, ?_, ?_⟩
  · show (headB (.str s) (W.os as).length && O.fits (W.os as)) = true
    rw [a, Bool.and_true, os_len]
    show (decide (as.length ≤ 6) && nameB s) = true
    rw [h1, decide_eq_true (by omega)]
    rfl
  · show (SS.contains s && O.sss (W.os as)) = true
    rw [h2, b]
    rfl
  · show W.nds as + 1 ≤ 3 * nN L + 1
    have : as.length * nN L ≤ 3 * nN L := Nat.mul_le_mul_right _ hl
    omega
  · show W.dps as + 1 ≤ L + 1 + 1
    omega
  · show (!(s == "=")) = true
    rw [h3]
    rfl
  · show ((decide (as.length = arS s) && N10.contains s) && W.ars as) = true
    rw [hars, ff_in _ hs, decide_eq_true har]
    rfl
theorem Dw.dz {L : Nat} {z : W} (h : Dw L z) (hL : L ≤ 4) : Dz z := by
  refine ⟨?_, h.ss, ?_, ?_⟩
  · unfold O.fitW
    rw [h.fit]
    rfl
  · have h1 := h.nd
    have h2 := nN_mono hL
    rw [nN4] at h2
    omega
  · have := h.dp
    omega
end K28

set_option Elab.async false
set_option linter.all false
set_option maxRecDepth 100000
set_option maxHeartbeats 4000000
/-! Words drawn. -/
namespace K28
open PySem PySem.Spec PyProof.Rows L2 Evl
theorem But.tx {p q : Addr} {H G : Hp} (B : But p q H G) (hp : ∃ xs, H p = some (.lst xs)) (hq : ∃ xs, H q = some (.lst xs)) : Tx H G := fun a xs h => B _ _ (fun z => by
  obtain ⟨ys, e⟩ := hp
  rw [z, e] at h
  cases h) (fun z => by
  obtain ⟨ys, e⟩ := hq
  rw [z, e] at h
  cases h) h
theorem Spr.tx {p q : Addr} {H G : Hp} {n : Int} (S : Spr H p q n) (B : But p q H G) : Tx H G := by
  obtain ⟨xs, ys, h1, h2⟩ := S.lst
  exact B.tx ⟨_, h1⟩ ⟨_, h2⟩
theorem Spr.nep {p q : Addr} {H : Hp} {n : Int} (S : Spr H p q n) {a : Addr} (h : H a = none) : a ≠ p ∧ a ≠ q := by
  obtain ⟨xs, ys, h1, h2⟩ := S.lst
  exact ⟨(ne_of_none h1 h).symm, (ne_of_none h2 h).symm⟩
section
variable {K : PySem.W.Frag} {σ : L2.St} {H : Hp} {te ta tb : TE}
def AllP (R : V → Hp → Prop) (m : Nat) (xs : List V) (G : Hp) : Prop := xs.length ≤ m ∧ ∀ y ∈ xs, R y G
theorem elp_cat {P1 P2 : List V → Hp → Prop} (ha : EvLP ta σ H P1) (hb : EvLP tb σ H P2) (u1 : ∀ xs, Up (P1 xs)) (u2 : ∀ xs, Up (P2 xs)) (hl : ∀ xs ys G, P1 xs G → P2 ys G → xs.length + ys.length ≤ 100000) :
    EvLP (tOp rCat ta tb) σ H (fun zs G => ∃ xs ys, zs = xs ++ ys ∧ P1 xs G ∧ P2 ys G) := fun H1 e Q q =>
  ha H1 e _ fun p1 xs H2 n1 e2 h1 q1 => hb H2 (e.trans e2) _ fun p2 ys H3 n2 e3 h2 q2 => ⟨p1, p2, xs, ys, rfl, rfl, e3 _ _ h1, h2, sz_of (hl _ _ _ (u1 _ _ _ e3 q1) q2),
    fun p hp => q p (xs ++ ys) _ (fresh_back (e2.trans e3) hp) ((e2.trans e3).trans (Ex.new hp)) upd_same ⟨xs, ys, rfl, u1 _ _ _ (e3.trans (Ex.new hp)) q1, u2 _ _ _ (Ex.new hp) q2⟩⟩
theorem EvLP.of {xs : List V} (h : EvL te σ H xs) : EvLP te σ H (fun ys _ => ys = xs) := fun H1 e Q q => h H1 e _ fun p H2 n e2 h2 => q p xs H2 n e2 h2 rfl
theorem EvLP.imp {P1 P2 : List V → Hp → Prop} (h : EvLP te σ H P1) (k : ∀ xs G, Ex H G → P1 xs G → P2 xs G) : EvLP te σ H P2 := fun H1 e Q q => h H1 e _ fun p xs H2 n e2 h2 h3 => q p xs H2 n e2 h2 (k xs H2 (e.trans e2) h3)
/-- a constant's word, in a list alone -/
theorem elp_c1 {s : Str} : EvLP (tLst (tCons (tTup (tCons (tC (.str s)) tNil)) tNil)) σ H (fun xs G => ∃ y, xs = [y] ∧ WV G y (.n s [])) := fun H1 e Q q =>
  ⟨by show 1 ≤ sizeLine; decide, fun t ht => ⟨by show 1 ≤ sizeLine; decide, fun p hp => q p _ _ (fresh_back (Ex.new ht) hp) ((Ex.new ht).trans (Ex.new hp)) upd_same ⟨_, rfl, WV.of (us := []) (Ex.new hp _ _ upd_same) rfl⟩⟩⟩
theorem elp_c2 {s1 s2 : Str} : EvLP (tLst (tCons (tTup (tCons (tC (.str s1)) tNil)) (tCons (tTup (tCons (tC (.str s2)) tNil)) tNil))) σ H (fun xs G => ∃ y1 y2, xs = [y1, y2] ∧ WV G y1 (.n s1 []) ∧ WV G y2 (.n s2 [])) := fun H1 e Q q =>
  ⟨by show 1 ≤ sizeLine; decide, fun t ht => ⟨by show 1 ≤ sizeLine; decide, fun t2 ht2 => ⟨by show 2 ≤ sizeLine; decide, fun p hp => q p _ _ (fresh_back ((Ex.new ht).trans (Ex.new ht2)) hp) (((Ex.new ht).trans (Ex.new ht2)).trans (Ex.new hp)) upd_same
    ⟨_, _, rfl, WV.of (us := []) (((Ex.new ht2).trans (Ex.new hp)) _ _ upd_same) rfl, WV.of (us := []) (Ex.new hp _ _ upd_same) rfl⟩⟩⟩⟩
theorem elp_rep {P : List V → Hp → Prop} {k : Int} (ha : EvLP ta σ H P) (u : ∀ xs, Up (P xs)) (hb : Ev tb σ H (.int k)) (hk : 0 ≤ k ∧ k ≤ 1) (hl : ∀ xs G, P xs G → xs.length ≤ 1000) : EvLP (tOp rRep ta tb) σ H (fun zs G => zs = [] ∨ P zs G) := fun H1 e Q q =>
  ha H1 e _ fun p1 xs H2 n1 e2 h1 q1 => hb H2 (e.trans e2) _ fun H3 e3 => by
    have q3 := u _ _ _ e3 q1
    have hz : xs.length * k.toNat ≤ 1000 := by
      have h2 := hl _ _ q3
      have h3 : k.toNat ≤ 1 := by omega
      calc xs.length * k.toNat ≤ xs.length * 1 := Nat.mul_le_mul_left _ h3
        _ ≤ 1000 := by omega
    refine ⟨p1, k, xs, rfl, rfl, e3 _ _ h1, by omega, by omega, sz_of (by omega), fun p hp => q p _ _ (fresh_back (e2.trans e3) hp) ((e2.trans e3).trans (Ex.new hp)) upd_same ?_⟩
    rcases (by omega : k = 0 ∨ k = 1) with rfl | rfl
    · exact .inl rfl
    · right
      show P (List.replicate 1 xs).flatten _
      simp
      exact u _ _ _ (Ex.new hp) q3
end
def kk : Nat → Nat
  | 0 => 2
  | L + 1 => 3 * kk L + 2
section
variable {P : Program} {w : World} {K : PySem.W.Frag} {mg : Str → Option Value} {base : Heap}
def spDw (L : Nat) : Sp := fun vs H Q _ => ∃ (p q va : Addr) (n : Int) (xs : List Str), vs = [.ref p, .int (L : Nat), .ref va] ∧ Spr H p q n ∧ n + (kk L : Nat) ≤ 90000 ∧ H va = some (.lst (sVs xs)) ∧ va ≠ p ∧ va ≠ q ∧ xs.length ≤ 4 ∧ (∀ s ∈ xs, s ∈ SV) ∧
  ∀ (r : V) (G : Hp) (n' : Int) (z : W), Spr G p q n' → n' ≤ n + (kk L : Nat) → But p q H G → WV G r z → Dw L z → z.vin xs = true → Q r G
abbrev nDw : List Str := ["_law_stream", "_law_level", "_law_variables", "_law_kind", "_law_many", "_law_k"]
theorem sc_dw : FnScope nDw ["_law_stream", "_law_level", "_law_variables"] (defScope s__law_d_word) := ⟨rfl, rfl, rfl, by decide +kernel, rfl, by decide +kernel, by decide +kernel⟩
abbrev rMin2 : List V → Hp → VK → Prop := fun xs H Q => ∃ i j, xs = [.int i, .int j] ∧ Q (.int (if j < i then j else i)) H
/-- what may be picked -/
def tLeaf (K : PySem.W.Frag) : TE := tOp rCat (tOp rCat (tCB (rListS K) (tCons (tVar 2) tNil)) (tLst (tCons (tTup (tCons (tC (.str "a")) tNil)) (tCons (tTup (tCons (tC (.str "b")) tNil)) tNil))))
  (tOp rRep (tLst (tCons (tTup (tCons (tC (.str "c")) tNil)) tNil)) (tOp (rI0 fun i j => .int (i - j)) (tC (.int 1)) (tCB rMin2 (tCons (tC (.int 1)) (tCons (tLen K (tVar 2)) tNil)))))
theorem elp_leaf {σ : L2.St} {H : Hp} {va : Addr} {xs : List Str} (hs : σ[2]? = some (some (.ref va))) (hv : H va = some (.lst (sVs xs))) (hl : xs.length ≤ 4) (hS : ∀ s ∈ xs, s ∈ SV) :
    EvLP (tLeaf K) σ H (fun ys G => ys ≠ [] ∧ ys.length ≤ 10 ∧ ∀ y ∈ ys, ∃ z, WV G y z ∧ Lf z ∧ z.vin xs = true) := by
  have hlen : (sVs xs).length = xs.length := by unfold sVs; rw [List.length_map]
  have hmin : Ev (tOp (rI0 fun i j => .int (i - j)) (tC (.int 1)) (tCB rMin2 (tCons (tC (.int 1)) (tCons (tLen K (tVar 2)) tNil)))) σ H (.int (1 - (if ((xs.length : Nat) : Int) < 1 then ((xs.length : Nat) : Int) else 1))) :=
    ev_op (y := .int (if ((xs.length : Nat) : Int) < 1 then ((xs.length : Nat) : Int) else 1)) ev_c (fun H1 e Q q => ⟨.ref va, hs, _, xs.length, rfl, .inl ⟨_, sq_of (e _ _ hv), hlen.symm⟩, _, _, rfl, q H1 (Ex.refl _)⟩) rv_I0
  refine (elp_cat (elp_cat (EvLP.of (el_list (ev_var hs) (sq_of hv))) elp_c2 (fun _ _ _ _ h => h) (fun xs G1 G2 e h => by
      obtain ⟨y1, y2, h1, h2, h3⟩ := h
      exact ⟨y1, y2, h1, h2.ext e, h3.ext e⟩) (fun a b G h1 h2 => by
      obtain ⟨y1, y2, h3, _⟩ := h2
      rw [h1, h3, hlen]
      simp
      omega)) (elp_rep elp_c1 (fun xs G1 G2 e h => by
      obtain ⟨y, h1, h2⟩ := h
      exact ⟨y, h1, h2.ext e⟩) hmin (by split <;> omega) (fun xs G h => by
      obtain ⟨y, h1, _⟩ := h
      rw [h1]
      simp)) (fun xs G1 G2 e h => by
      obtain ⟨a, b, h1, h2, y1, y2, h3, h4, h5⟩ := h
      exact ⟨a, b, h1, h2, y1, y2, h3, h4.ext e, h5.ext e⟩) (fun xs G1 G2 e h => by
      rcases h with h | ⟨y, h1, h2⟩
      · exact .inl h
      · exact .inr ⟨y, h1, h2.ext e⟩) (fun a b G h1 h2 => by
      obtain ⟨a1, b1, h3, h4, y1, y2, h5, _⟩ := h1
      rw [h3, h4, h5, List.length_append, hlen]
      rcases h2 with h | ⟨y, h, _⟩ <;> rw [h] <;> simp <;> omega)).imp fun ys G e h => ?_
  obtain ⟨a, b, h0, ⟨a1, b1, h3, h4, y1, y2, h5, h6, h7⟩, h2⟩ := h
  have hb : b.length ≤ 1 := by rcases h2 with h | ⟨y, h, _⟩ <;> rw [h] <;> simp
  refine ⟨by rw [h0, h3, h5]; simp, by rw [h0, h3, h4, h5, List.length_append, List.length_append, hlen]; simp; omega, fun y hy => ?_⟩
  rw [h0] at hy
  rcases List.mem_append.mp hy with hy | hy
  · rw [h3] at hy
    rcases List.mem_append.mp hy with hy | hy
    · rw [h4] at hy
      obtain ⟨s, hs1, rfl⟩ := List.mem_map.mp hy
      exact ⟨.v s, rfl, .v (hS s hs1), List.contains_iff_mem.mpr hs1⟩
    · rw [h5] at hy
      rcases List.mem_cons.mp hy with rfl | hy
      · exact ⟨_, h6, .c (by decide), rfl⟩
      · obtain rfl : y = y2 := by simpa using hy
        exact ⟨_, h7, .c (by decide), rfl⟩
  · rcases h2 with h | ⟨y', h, hw⟩
    · rw [h] at hy
      exact absurd hy (by simp)
    · rw [h] at hy
      obtain rfl : y = y' := by simpa using hy
      exact ⟨_, hw, .c (by decide), rfl⟩
theorem ret_opU {σ : L2.St} {H : Hp} {D : Ends} {r : R2} {ta tb : TE} {xs : List V} (h : EvU ta σ H xs) (k : ∀ p H1, H p = none → Ex H H1 → H1 p = some (.tup xs) → tb σ H1 (fun y H2 => r (.ref p) y H2 D.rt)) : tRet (tOp r ta tb) D σ H := h H (Ex.refl H) _ k
/-- x = _law_draw(_law_stream, m) -/
theorem q_draw {σ : L2.St} {H : Hp} {D : Ends} {tz : TS} {i j : Nat} {p q : Addr} {n m : Int} (hs : σ[j]? = some (some (.ref p))) (S : Spr H p q n) (hn : n < 100000) (hm : 1 ≤ m ∧ m ≤ 1000) (k : ∀ r G, 0 ≤ r → r < m → Spr G p q (n + 1) → But p q H G → tz D (σ.set i (some (.int r))) G) :
    tSeq (tAsg (tCall spDr [] E0 (tCons (tVar j) (tCons (tC (.int m)) tNil))) (gName i)) tz D σ H := ⟨.ref p, hs, p, q, n, m, rfl, S, hn, hm.1, hm.2, fun r G r0 r1 S' B => k r G r0 r1 S' B⟩
theorem ok_d_word (T : T28 P w K mg base) : ∀ L, Ok P w K mg base CX0 "_law_d_word" ["_law_stream", "_law_level", "_law_variables"] (L + 3) (spDw L) := by
  intro L
  obtain ⟨fD, dD, GD, bD, kD, mD⟩ := (ok_dr T).ex
  obtain ⟨fP, dP, GP, bP, kP, mP⟩ := (ok_pick T).ex
  induction L with
  | zero =>
    refine T.ok 34 rfl sc_dw (fun vs H Q E h => ?_) (fun kV doc pm an cdv ct us hl => match us, hl with | [_, _, _], _ => rfl) (fun f cdv A outer s H vs Q E hr h => ?_)
    · obtain ⟨p, q, va, n, xs, rfl, _⟩ := h
      rfl
    · obtain ⟨p, q, va, n, xs, rfl, S, hn, hv, n1, n2, hl, hS, k⟩ := h
      refine ⟨_, pss_cons (ps_set (i := 3) sc_dw.nd rfl (Or.inl rfl) (pe_call GD (hr.mono (by decide)) (by rfl) mD kD bD .nil pass0 (pa_cons (pv 0) (pa_cons pe_int pa_nil))))
        (pss_cons (ps_if (PW.pt (pw_or (pt_cmpR op_eq (pv 1) pe_int (nomark _)) (pw_or1 (pt_cmpR op_lt (pv 3) pe_int (nomark _)))))
          (pss_one (ps_ret (pe_call GP hr (by rfl) mP kP bP .nil pass0 (pa_cons (pv 0) (pa_cons (pe_op op_cat (pe_op op_cat (pe_callTy call_list_of (by rfl) T.list PyProof.Rows.boot_list (pa_cons (pv 2) pa_nil)) (pe_lst (pa_cons (pe_tup (pa_cons pe_str pa_nil)) (pa_cons (pe_tup (pa_cons pe_str pa_nil)) pa_nil))))
            (pe_op op_rep (pe_lst (pa_cons (pe_tup (pa_cons pe_str pa_nil)) pa_nil)) (pe_op op_sub pe_int (pe_callB (call_min2 rfl) (by rfl) T.min (by decide +kernel) (pa_cons pe_int (pa_cons (pe_callB call_len (by rfl) T.len PySem.boot_len (pa_cons (pv 2) pa_nil)) pa_nil)))))) pa_nil))))) pss_nil)
        (pss_cons ps_never (pss_one ps_never))), ?_⟩
      have hk : kk 0 = 2 := rfl
      refine q_draw rfl S (by omega) (by decide) fun r G r0 r1 S1 B1 => ?_
      refine q_when (b := true) (et_is (et_or (a := true) (b := true) (et_is (et_test (ev_op (ev_var rfl) ev_c (rv_eq rfl))) rfl) fun z => nomatch z) rfl) (fun _ G1 e1 => ?_) fun z => nomatch z
      have S2 := S1.ext e1
      have hv2 : G1 va = some (.lst (sVs xs)) := e1 _ _ (B1 _ _ n1 n2 hv)
      refine ⟨.ref p, rfl, ?_⟩
      refine elp_leaf (K := K) (σ := [some (.ref p), some (.int 0), some (.ref va), some (.int r), none, none]) rfl hv2 hl hS G1 (Ex.refl _) _ fun c ys G2 nc e2 hc hys => ?_
      obtain ⟨hne, hlen, hall⟩ := hys
      obtain ⟨c1, c2⟩ := S2.nep nc
      refine ⟨p, q, c, n + 1, ys, rfl, S2.ext e2, by omega, hc, c1, c2, hne, by omega, fun y G3 hy S3 B3 => ?_⟩
      obtain ⟨z, hz, hf, hvi⟩ := hall y hy
      exact k y G3 _ z S3 (by omega) (((B1.trans (But.of e1)).trans (But.of e2)).trans B3) (hz.tx ((S2.ext e2).tx B3)) (hf.dw 0) hvi
  | succ L ih =>
    obtain ⟨fR, dR, GR, bR, kR, mR⟩ := ih.ex
    refine T.ok 34 rfl sc_dw (fun vs H Q E h => ?_) (fun kV doc pm an cdv ct us hl => match us, hl with | [_, _, _], _ => rfl) (fun f cdv A outer s H vs Q E hr h => ?_)
    · obtain ⟨p, q, va, n, xs, rfl, _⟩ := h
      rfl
    · obtain ⟨p, q, va, n, xs, rfl, S, hn, hv, n1, n2, hl, hS, k⟩ := h
      refine ⟨_, pss_cons (ps_set (i := 3) sc_dw.nd rfl (Or.inl rfl) (pe_call GD (hr.mono (by omega)) (by rfl) mD kD bD .nil pass0 (pa_cons (pv 0) (pa_cons pe_int pa_nil))))
        (pss_cons (ps_if (PW.pt (pw_or (pt_cmpR op_eq (pv 1) pe_int (nomark _)) (pw_or1 (pt_cmpR op_lt (pv 3) pe_int (nomark _)))))
          (pss_one (ps_ret (pe_call GP (hr.mono (by omega)) (by rfl) mP kP bP .nil pass0 (pa_cons (pv 0) (pa_cons (pe_op op_cat (pe_op op_cat (pe_callTy call_list_of (by rfl) T.list PyProof.Rows.boot_list (pa_cons (pv 2) pa_nil)) (pe_lst (pa_cons (pe_tup (pa_cons pe_str pa_nil)) (pa_cons (pe_tup (pa_cons pe_str pa_nil)) pa_nil))))
            (pe_op op_rep (pe_lst (pa_cons (pe_tup (pa_cons pe_str pa_nil)) pa_nil)) (pe_op op_sub pe_int (pe_callB (call_min2 rfl) (by rfl) T.min (by decide +kernel) (pa_cons pe_int (pa_cons (pe_callB call_len (by rfl) T.len PySem.boot_len (pa_cons (pv 2) pa_nil)) pa_nil)))))) pa_nil))))) pss_nil)
        (pss_cons (ps_set (i := 4) sc_dw.nd rfl (Or.inl rfl) (pe_ix ix_list (pe_lst (pa_cons pe_int (pa_cons pe_int (pa_cons pe_int (pa_cons pe_int (pa_cons pe_int pa_nil)))))) (pe_op op_sub (pv 3) pe_int) (fun _ _ => rfl)))
        (pss_one (ps_ret (pe_op op_catT (pe_tup (pa_cons (pe_ix ix_list (pe_lst (pa_cons pe_str (pa_cons pe_str (pa_cons pe_str pa_nil)))) (pe_op op_sub (pv 4) pe_int) (fun _ _ => rfl)) pa_nil))
          (pe_callTy call_tuple_of (by rfl) T.tuple PyProof.Rows.boot_tuple (pa_cons (pe_lc (own := [("_law_k", 5)]) (g := gName 5) (tt := tYes) (te := tCall (spDw L) [] E0 (tCons (tVar 0) (tCons (tOp (rI0 fun i j => .int (i - j)) (tVar 1) (tC (.int 1))) (tCons (tVar 2) tNil)))) rfl sc_dw.nd (pi_range1 (by rfl) T.range (pa_cons (pv 4) pa_nil))
            (blkOk_by (N := nDw) (sc := defScope s__law_d_word) (by decide +kernel)) (fun _ _ _ _ _ => pg_name (i := 5) sc_dw.nd rfl (Or.inl rfl)) (fun _ _ _ _ _ => pts_nil) (fun _ _ _ _ _ => pe_call GR hr (by rfl) mR kR bR .nil pass0 (pa_cons (pv 0) (pa_cons (pe_op op_sub (pv 1) pe_int) (pa_cons (pv 2) pa_nil))))) pa_nil))))))), ?_⟩
      have hk : kk (L + 1) = 3 * kk L + 2 := rfl
      refine q_draw rfl S (by omega) (by decide) fun r G r0 r1 S1 B1 => ?_
      have hv1 : G va = some (.lst (sVs xs)) := B1 _ _ n1 n2 hv
      refine q_when (b := decide (r < 3)) (et_is (et_or (a := false) (et_is (et_test (ev_op (ev_var rfl) ev_c (rv_eq rfl))) (decide_eq_false (fun z => by have := V.int.inj z; omega))) fun _ => et_test (ev_op (ev_var rfl) ev_c rv_I0)) (Bool.false_or _)) (fun _ G1 e1 => ?_) fun hb G1 e1 => ?_
      · have S2 := S1.ext e1
        have hv2 : G1 va = some (.lst (sVs xs)) := e1 _ _ hv1
        refine ⟨.ref p, rfl, ?_⟩
        refine elp_leaf (K := K) (σ := [some (.ref p), some (.int ((L + 1 : Nat) : Int)), some (.ref va), some (.int r), none, none]) rfl hv2 hl hS G1 (Ex.refl _) _ fun c ys G2 nc e2 hc hys => ?_
        obtain ⟨hne, hlen, hall⟩ := hys
        obtain ⟨c1, c2⟩ := S2.nep nc
        refine ⟨p, q, c, n + 1, ys, rfl, S2.ext e2, by omega, hc, c1, c2, hne, by omega, fun y G3 hy S3 B3 => ?_⟩
        obtain ⟨z, hz, hf, hvi⟩ := hall y hy
        exact k y G3 _ z S3 (by omega) (((B1.trans (But.of e1)).trans (But.of e2)).trans B3) (hz.tx ((S2.ext e2).tx B3)) (hf.dw (L + 1)) hvi
      · have hr3 : 3 ≤ r := by have := of_decide_eq_false hb; omega
        have S2 := S1.ext e1
        have hv2 : G1 va = some (.lst (sVs xs)) := e1 _ _ hv1
        have hmany : ∃ m : Nat, (m = 1 ∨ m = 2 ∨ m = 3) ∧ atI [V.int 1, V.int 1, V.int 2, V.int 2, V.int 3] (r - 3) = some (.int (m : Nat)) := by
          rcases (by omega : r = 3 ∨ r = 4 ∨ r = 5 ∨ r = 6 ∨ r = 7) with rfl | rfl | rfl | rfl | rfl
          · exact ⟨1, .inl rfl, rfl⟩
          · exact ⟨1, .inl rfl, rfl⟩
          · exact ⟨2, .inr (.inl rfl), rfl⟩
          · exact ⟨2, .inr (.inl rfl), rfl⟩
          · exact ⟨3, .inr (.inr rfl), rfl⟩
        obtain ⟨m, hm, hat⟩ := hmany
        refine q_asg (v := .int (m : Nat)) (ev_opL1 (y := .int (r - 3)) (el_lst (ea_cons ev_c (ea_cons ev_c (ea_cons ev_c (ea_cons ev_c (ea_cons ev_c ea_nil))))) (by show 5 ≤ 100000; decide)) (fun H1 _ => ev_op (ev_var rfl) ev_c rv_I0) fun pl H1 hpl _ => rv_ixL (sq_of hpl) hat) fun G2 e2 => ?_
        have hname : ∃ sn, sn ∈ (["f", "g", "h"] : List Str) ∧ m = arS sn ∧ atI [V.str "f", V.str "g", V.str "h"] ((m : Int) - 1) = some (.str sn) := by
          rcases hm with rfl | rfl | rfl
          · exact ⟨"f", by decide, by decide +kernel, rfl⟩
          · exact ⟨"g", by decide, by decide +kernel, rfl⟩
          · exact ⟨"h", by decide, by decide +kernel, rfl⟩
        obtain ⟨sn, hsn, hmar, hats⟩ := hname
        have hm3 : m ≤ 3 := by omega
        -- the name's tuple
        have en : Ev (tOp (rIxL K) (tLst (tCons (tC (.str "f")) (tCons (tC (.str "g")) (tCons (tC (.str "h")) tNil)))) (tOp (rI0 fun i j => .int (i - j)) (tVar 4) (tC (.int 1)))) [some (.ref p), some (.int ((L + 1 : Nat) : Int)), some (.ref va), some (.int r), some (.int (m : Nat)), none] G2 (.str sn) :=
          ev_opL1 (y := .int ((m : Int) - 1)) (el_lst (ea_cons ev_c (ea_cons ev_c (ea_cons ev_c ea_nil))) (by show 3 ≤ 100000; decide)) (fun H1 _ => ev_op (ev_var rfl) ev_c rv_I0) fun pl H1 hpl _ => rv_ixL (sq_of hpl) hats
        refine ret_opU (eu_tup (ea_cons en ea_nil) (by show 1 ≤ 100000; decide)) fun pt G3 npt e3 hpt => ?_
        have S4 := (S2.ext e2).ext e3
        have hv4 : G3 va = some (.lst (sVs xs)) := e3 _ _ (e2 _ _ hv2)
        refine ⟨.int (m : Nat), rfl, _, rfl, by omega, by omega, fun Dl hD => ?_⟩
        obtain ⟨d1, d2⟩ := S4.nep hD
        have x4 : Ex G3 (upd G3 Dl (.lst [])) := Ex.new hD
        refine lc_range (lo := 0) (fun i J => ∃ acc n', Spr J p q n' ∧ n' ≤ n + 1 + ((i * kk L : Nat) : Int) ∧ J Dl = some (.lst acc) ∧ acc.length = i ∧ (∃ zs : List W, WVs J acc zs ∧ ∀ z ∈ zs, Dw L z ∧ z.vin xs = true) ∧ But p q G3 J) ?_ ?_ ?_
        · exact ⟨[], n + 1, S4.ext x4, by simp, upd_same, rfl, ⟨[], rfl, fun z hz => nomatch hz⟩, But.of x4⟩
        · rintro i J hi ⟨acc, n', SJ, hnJ, hJ, hal, ⟨zs, hzs, hdw⟩, BJ⟩
          refine ⟨rfl, ?_⟩
          unfold tYes
          dsimp only
          rw [if_pos (rfl : true = true)]
          have hi' : i < m := by simpa using hi
          have hik : i * kk L + kk L ≤ 3 * kk L := by
            have : (i + 1) * kk L ≤ 3 * kk L := Nat.mul_le_mul_right _ (by omega)
            rw [Nat.add_mul, Nat.one_mul] at this
            exact this
          have hvJ : J va = some (.lst (sVs xs)) := BJ _ _ n1 n2 hv4
          have hvD : va ≠ Dl := ne_of_none hv4 hD
          refine ⟨.ref p, rfl, .int ((L + 1 : Nat) : Int), rfl, _, _, rfl, rfl, .ref va, rfl, ?_⟩
          refine ⟨p, q, va, n', xs, ?_, SJ, by omega, hvJ, n1, n2, hl, hS, fun y J2 n2' z SJ2 hn2 BJ2 hz hdz hvz => ?_⟩
          · have e : (((L + 1 : Nat) : Int)) - 1 = (L : Nat) := by omega
            show [V.ref p, V.int (((L + 1 : Nat) : Int) - 1), V.ref va] = _
            rw [e]
          · have hJ2 : J2 Dl = some (.lst acc) := BJ2 _ _ d1 d2 hJ
            have tJ : Tx J2 (upd J2 Dl (.lst (acc ++ [y]))) := Tx.lst hJ2
            refine ⟨acc, hJ2, sz_lt (by omega), acc ++ [y], n2', SJ2.keep (fun o h => by rw [upd_ne d1.symm]; exact h) (fun o h => by rw [upd_ne d2.symm]; exact h), ?_, upd_same, by simp [hal], ⟨zs ++ [z], ?_, fun z' hz' => ?_⟩, ?_⟩
            · rw [Nat.add_mul, Nat.one_mul]
              omega
            · unfold WVs
              rw [W.os_map, List.map_append, ← W.os_map]
              exact OVs.append (WVs.tx tJ (WVs.tx (SJ.tx BJ2) hzs)) (.cons (hz.tx tJ) .nil)
            · rcases List.mem_append.mp hz' with h | h
              · exact hdw z' h
              · obtain rfl : z' = z := by simpa using h
                exact ⟨hdz, hvz⟩
            · intro b o nb1 nb2 e
              rw [upd_ne (ne_of_none e hD)]
              exact BJ2 _ _ nb1 nb2 (BJ _ _ nb1 nb2 e)
        · rintro J ⟨acc, n', SJ, hnJ, hJ, hal, ⟨zs, hzs, hdw⟩, BJ⟩
          have hm' : ((m : Nat) : Int).toNat = m := rfl
          rw [hm'] at hnJ hal
          refine ⟨Dl, acc, rfl, .inl ⟨sq_of hJ, fun pu hpu => ?_⟩⟩
          have hptJ : J pt = some (.tup [.str sn]) := (S4.tx BJ) _ _ hpt
          have x5 : Ex J (upd J pu (.tup acc)) := Ex.new hpu
          have hacc : acc ≠ [] := by intro z; rw [z] at hal; simp at hal; omega
          refine ⟨pt, pu, [.str sn], acc, rfl, rfl, st_of (x5 _ _ hptJ), st_of upd_same, by simp, sz_of (by simp; omega), fun z => absurd z hacc, fun _ pr hpr => ?_⟩
          have x6 : Ex (upd J pu (.tup acc)) (upd (upd J pu (.tup acc)) pr (.tup ([.str sn] ++ acc))) := Ex.new hpr
          have x56 := x5.trans x6
          have hzl : zs.length = m := by rw [← WVs.length hzs]; exact hal
          have hk3 : m * kk L ≤ 3 * kk L := Nat.mul_le_mul_right _ hm3
          refine k (.ref pr) _ n' (.n sn zs) (SJ.ext x56) (by omega) ((((((B1.trans (But.of e1)).trans (But.of e2)).trans (But.of e3)).trans BJ)).trans (But.of x56)) (WV.of upd_same (WVs.ext x56 hzs)) (Dw.node hsn (by omega) (hzl.trans hmar) fun z hz => (hdw z hz).1) (W.vins_all fun z hz => (hdw z hz).2)
end
end K28

set_option Elab.async false
set_option linter.all false
set_option maxRecDepth 100000
set_option maxHeartbeats 4000000
/-! Atoms drawn. -/
namespace K28
open PySem PySem.Spec PyProof.Rows L2 Evl
def nmAr : List (Str × Nat) := [("p", 1), ("q", 1), ("r", 2), ("s", 0)]
theorem pick_nm {y : V} (h : y ∈ [V.str "p", V.str "p", V.str "q", V.str "r", V.str "s"]) : ∃ s m, y = .str s ∧ (s, m) ∈ nmAr := by
  simp only [List.mem_cons, List.not_mem_nil, or_false] at h
  rcases h with rfl | rfl | rfl | rfl | rfl
  · exact ⟨_, 1, rfl, by simp [nmAr]⟩
  · exact ⟨_, 1, rfl, by simp [nmAr]⟩
  · exact ⟨_, 1, rfl, by simp [nmAr]⟩
  · exact ⟨_, 2, rfl, by simp [nmAr]⟩
  · exact ⟨_, 0, rfl, by simp [nmAr]⟩
theorem nm_fit : ∀ x ∈ nmAr, nameB x.1 = true ∧ SS.contains x.1 = true ∧ (x.1 == "=") = false ∧ x.2 ≤ 2 := by decide +kernel
def nmKvs : List (Key × V) := [(Sum.inr "p", .int 1), (Sum.inr "q", .int 1), (Sum.inr "r", .int 2), (Sum.inr "s", .int 0)]
theorem nm_val : ∀ x ∈ nmAr, valV (mergeK [] nmKvs) (Sum.inr x.1 : Key) = some (.int (x.2 : Nat)) := by
  intro x hx
  simp only [nmAr, List.mem_cons, List.not_mem_nil, or_false] at hx
  rcases hx with rfl | rfl | rfl | rfl <;> decide +kernel
theorem kids (L : Nat) : ∀ l : List W, (∀ x ∈ l, Dw L x) → O.fits (W.os l) = true ∧ O.sss (W.os l) = true ∧ W.nds l ≤ l.length * nN L ∧ W.dps l ≤ L + 1 := by
  intro l
  induction l with
  | nil => intro _; exact ⟨rfl, rfl, Nat.zero_le _, Nat.zero_le _⟩
  | cons x l ih =>
    intro h
    obtain ⟨a, b, c, d⟩ := ih fun y hy => h y (List.mem_cons_of_mem _ hy)
    have hx := h x (List.mem_cons_self ..)
    refine ⟨?_, ?_, ?_, ?_⟩
    · show (x.o.fit && O.fits (W.os l)) = true
      rw [hx.fit, a]
      rfl
    · show (x.o.ss && O.sss (W.os l)) = true
      rw [hx.ss, b]
      rfl
    · show x.nd + W.nds l ≤ (l.length + 1) * nN L
      have := hx.nd
      rw [Nat.add_mul, Nat.one_mul]
      omega
    · exact Nat.max_le.mpr ⟨hx.dp, d⟩
theorem nm_ar : ∀ x ∈ nmAr, x.2 = arS x.1 ∧ N10.contains x.1 = true := by decide +kernel
theorem atom_ar {s : Str} {m : Nat} {as : List W} (hs : (s, m) ∈ nmAr) (hl : as.length = m) (h : ∀ x ∈ as, Dw 2 x) : (W.n s as).ar = true := by
  obtain ⟨h1, h2⟩ := nm_ar _ hs
  have h1 : m = arS s := h1
  have h2 : N10.contains s = true := h2
  have hars : W.ars as = true := by
    clear hl
    induction as with
    | nil => rfl
    | cons x l ih =>
      show (x.ar && W.ars l) = true
      rw [(h x (by simp)).ar, ih fun y hy => h y (by simp [hy])]
      rfl
  show ((decide (as.length = arS s) && N10.contains s) && W.ars as) = true
  rw [hars, h2, decide_eq_true (hl.trans h1)]
  rfl
theorem Dz.atom {s : Str} {m : Nat} {as : List W} (hs : (s, m) ∈ nmAr) (hl : as.length = m) (h : ∀ x ∈ as, Dw 2 x) : Dz (.n s as) ∧ (W.n s as).nd ≤ 81 ∧ (W.n s as).o.fit = true ∧ (W.n s as).dp ≤ 6 := by
  obtain ⟨h1, h2, h3, h4⟩ := nm_fit _ hs
  obtain ⟨a, b, c, d⟩ := kids 2 as h
  have hm : m ≤ 2 := h4
  have hnd : (W.n s as).nd ≤ 81 := by
    show W.nds as + 1 ≤ 81
    have : as.length * nN 2 ≤ 2 * nN 2 := Nat.mul_le_mul_right _ (by omega)
    have e : nN 2 = 13 := rfl
    omega
  refine ⟨⟨?_, ?_, by omega, ?_⟩, hnd, ?_, ?_⟩
  · unfold O.fitW
    have : (W.n s as).o.fitA = true := by
      show ((eqL (.str s :: W.os as) || headB (.str s) (W.os as).length) && O.fits (W.os as)) = true
      rw [a, Bool.and_true, os_len]
      show (eqL (.str s :: W.os as) || (decide (as.length ≤ 6) && nameB s)) = true
      rw [show nameB s = true from h1, decide_eq_true (by omega)]
      simp
    rw [this, Bool.or_true]
  · show (SS.contains s && O.sss (W.os as)) = true
    rw [show SS.contains s = true from h2, b]
    rfl
  · show W.dps as + 1 < 12
    omega
  · show (headB (.str s) (W.os as).length && O.fits (W.os as)) = true
    rw [a, Bool.and_true, os_len]
    show (decide (as.length ≤ 6) && nameB s) = true
    rw [show nameB s = true from h1, decide_eq_true (by omega)]
    rfl
  · show W.dps as + 1 ≤ 6
    omega
section
variable {P : Program} {w : World} {K : PySem.W.Frag} {mg : Str → Option Value} {base : Heap}
def spAt : Sp := fun vs H Q _ => ∃ (p q va : Addr) (n : Int) (xs : List Str), vs = [.ref p, .int 2, .ref va] ∧ Spr H p q n ∧ n + 400 ≤ 90000 ∧ H va = some (.lst (sVs xs)) ∧ va ≠ p ∧ va ≠ q ∧ xs.length ≤ 4 ∧ (∀ s ∈ xs, s ∈ SV) ∧
  ∀ (r : V) (G : Hp) (n' : Int) (z : W), Spr G p q n' → n' ≤ n + 400 → But p q H G → WV G r z → Dz z → (z.nd ≤ 81 ∧ z.o.fit = true ∧ z.dp ≤ 6) → z.ar = true → z.vin xs = true → Q r G
abbrev nAt : List Str := ["_law_stream", "_law_level", "_law_variables", "_law_name", "_law_many", "_law_k"]
theorem sc_at : FnScope nAt ["_law_stream", "_law_level", "_law_variables"] (defScope s__law_d_atom) := ⟨rfl, rfl, rfl, by decide +kernel, rfl, by decide +kernel, by decide +kernel⟩
theorem ev_nm {σ : L2.St} {H : Hp} {i : Nat} {s : Str} {m : Nat} (hs : σ[i]? = some (some (.str s))) (h : (s, m) ∈ nmAr) :
    Ev (tDGet (tDisp [(tC (.str "p"), tC (.int 1)), (tC (.str "q"), tC (.int 1)), (tC (.str "r"), tC (.int 2)), (tC (.str "s"), tC (.int 0))]) (tVar i)) σ H (.int (m : Nat)) := fun H1 e Q q pd hpd =>
  ⟨upd_same, nmKvs, rfl, by decide, .str s, hs, pd, _, rfl, by
    have g := DGet.k (H := upd (upd H1 pd (.dK [])) pd (.dK (mergeK [] nmKvs))) (k := (Sum.inr s : Key)) upd_same
    rw [nm_val _ h] at g
    exact g, q _ (Ex.mut (Ex.new hpd) hpd)⟩
theorem ok_d_atom (T : T28 P w K mg base) : Ok P w K mg base CX0 "_law_d_atom" ["_law_stream", "_law_level", "_law_variables"] 7 spAt := by
  obtain ⟨fP, dP, GP, bP, kP, mP⟩ := (ok_pick T).ex
  obtain ⟨fR, dR, GR, bR, kR, mR⟩ := (ok_d_word T 2).ex
  refine T.ok 35 rfl sc_at (fun vs H Q E h => ?_) (fun kV doc pm an cdv ct us hl => match us, hl with | [_, _, _], _ => rfl) (fun f cdv A outer s H vs Q E hr h => ?_)
  · obtain ⟨p, q, va, n, xs, rfl, _⟩ := h
    rfl
  · obtain ⟨p, q, va, n, xs, rfl, S, hn, hv, n1, n2, hl, hS, k⟩ := h
    refine ⟨_, pss_cons (ps_set (i := 3) sc_at.nd rfl (Or.inl rfl) (pe_call GP (hr.mono (by decide)) (by rfl) mP kP bP .nil pass0 (pa_cons (pv 0) (pa_cons (pe_lst (pa_cons pe_str (pa_cons pe_str (pa_cons pe_str (pa_cons pe_str (pa_cons pe_str pa_nil)))))) pa_nil))))
      (pss_cons (ps_set (i := 4) sc_at.nd rfl (Or.inl rfl) (pe_dget (hu_of hr) (pe_disp (pps_cons pe_str pe_int (pps_cons pe_str pe_int (pps_cons pe_str pe_int (pps_cons pe_str pe_int pps_nil)))) (by rfl) (by rfl) (fun z => by cases z) (by decide)) (pv 3) (fun _ _ => rfl)))
      (pss_one (ps_ret (pe_op op_catT (pe_tup (pa_cons (pv 3) pa_nil))
        (pe_callTy call_tuple_of (by rfl) T.tuple PyProof.Rows.boot_tuple (pa_cons (pe_lc (own := [("_law_k", 5)]) (g := gName 5) (tt := tYes) (te := tCall (spDw 2) [] E0 (tCons (tVar 0) (tCons (tVar 1) (tCons (tVar 2) tNil)))) rfl sc_at.nd (pi_range1 (by rfl) T.range (pa_cons (pv 4) pa_nil))
          (blkOk_by (N := nAt) (sc := defScope s__law_d_atom) (by decide +kernel)) (fun _ _ _ _ _ => pg_name (i := 5) sc_at.nd rfl (Or.inl rfl)) (fun _ _ _ _ _ => pts_nil) (fun _ _ _ _ _ => pe_call GR (hr.mono (by decide)) (by rfl) mR kR bR .nil pass0 (pa_cons (pv 0) (pa_cons (pv 1) (pa_cons (pv 2) pa_nil))))) pa_nil)))))), ?_⟩
    have hk2 : kk 2 = 26 := rfl
    refine ⟨.ref p, rfl, by show 5 ≤ sizeLine; decide, fun c hc => ?_⟩
    have xc : Ex H (upd H c (.lst [V.str "p", V.str "p", V.str "q", V.str "r", V.str "s"])) := Ex.new hc
    obtain ⟨c1, c2⟩ := S.nep hc
    refine ⟨p, q, c, n, _, rfl, S.ext xc, by omega, upd_same, c1, c2, by simp, by simp, fun y G hy S1 B1 => ?_⟩
    have B1' := (But.of (p := p) (q := q) xc).trans B1
    have hv1 : G va = some (.lst (sVs xs)) := B1' _ _ n1 n2 hv
    obtain ⟨sn, m, rfl, hsm⟩ := pick_nm hy
    obtain ⟨g1, g2, g3, g4⟩ := nm_fit _ hsm
    have hm2 : m ≤ 2 := g4
    refine q_asg (v := .int (m : Nat)) (ev_nm rfl hsm) fun G2 e2 => ?_
    refine ret_opU (eu_tup (ea_cons (ev_var rfl) ea_nil) (by show 1 ≤ 100000; decide)) fun pt G3 npt e3 hpt => ?_
    have S4 := (S1.ext e2).ext e3
    have hv4 : G3 va = some (.lst (sVs xs)) := e3 _ _ (e2 _ _ hv1)
    refine ⟨.int (m : Nat), rfl, _, rfl, by omega, by omega, fun Dl hD => ?_⟩
    obtain ⟨d1, d2⟩ := S4.nep hD
    have x4 : Ex G3 (upd G3 Dl (.lst [])) := Ex.new hD
    refine lc_range (lo := 0) (fun i J => ∃ acc n', Spr J p q n' ∧ n' ≤ n + 1 + ((i * 26 : Nat) : Int) ∧ J Dl = some (.lst acc) ∧ acc.length = i ∧ (∃ zs : List W, WVs J acc zs ∧ ∀ z ∈ zs, Dw 2 z ∧ z.vin xs = true) ∧ But p q G3 J) ?_ ?_ ?_
    · exact ⟨[], n + 1, S4.ext x4, by simp, upd_same, rfl, ⟨[], rfl, fun z hz => nomatch hz⟩, But.of x4⟩
    · rintro i J hi ⟨acc, n', SJ, hnJ, hJ, hal, ⟨zs, hzs, hdw⟩, BJ⟩
      refine ⟨rfl, ?_⟩
      unfold tYes
      dsimp only
      rw [if_pos (rfl : true = true)]
      have hi' : i < m := by simpa using hi
      have hvJ : J va = some (.lst (sVs xs)) := BJ _ _ n1 n2 hv4
      refine ⟨.ref p, rfl, .int 2, rfl, .ref va, rfl, ?_⟩
      refine ⟨p, q, va, n', xs, rfl, SJ, by omega, hvJ, n1, n2, hl, hS, fun y J2 n2' z SJ2 hn2 BJ2 hz hdz hvz => ?_⟩
      have hJ2 : J2 Dl = some (.lst acc) := BJ2 _ _ d1 d2 hJ
      have tJ : Tx J2 (upd J2 Dl (.lst (acc ++ [y]))) := Tx.lst hJ2
      refine ⟨acc, hJ2, sz_lt (by omega), acc ++ [y], n2', SJ2.keep (fun o h => by rw [upd_ne d1.symm]; exact h) (fun o h => by rw [upd_ne d2.symm]; exact h), by omega, upd_same, by simp [hal], ⟨zs ++ [z], ?_, fun z' hz' => ?_⟩, ?_⟩
      · unfold WVs
        rw [W.os_map, List.map_append, ← W.os_map]
        exact OVs.append (WVs.tx tJ (WVs.tx (SJ.tx BJ2) hzs)) (.cons (hz.tx tJ) .nil)
      · rcases List.mem_append.mp hz' with h | h
        · exact hdw z' h
        · obtain rfl : z' = z := by simpa using h
          exact ⟨hdz, hvz⟩
      · intro b o nb1 nb2 e
        rw [upd_ne (ne_of_none e hD)]
        exact BJ2 _ _ nb1 nb2 (BJ _ _ nb1 nb2 e)
    · rintro J ⟨acc, n', SJ, hnJ, hJ, hal, ⟨zs, hzs, hdw⟩, BJ⟩
      have hm' : ((m : Nat) : Int).toNat = m := rfl
      rw [hm'] at hnJ hal
      have hzl : zs.length = m := by rw [← WVs.length hzs]; exact hal
      obtain ⟨hdz, hnd⟩ := Dz.atom hsm hzl fun z hz => (hdw z hz).1
      refine ⟨Dl, acc, rfl, .inl ⟨sq_of hJ, fun pu hpu => ?_⟩⟩
      have hptJ : J pt = some (.tup [.str sn]) := (S4.tx BJ) _ _ hpt
      have x5 : Ex J (upd J pu (.tup acc)) := Ex.new hpu
      have Ball := ((((B1'.trans (But.of e2)).trans (But.of e3)).trans BJ))
      refine ⟨pt, pu, [.str sn], acc, rfl, rfl, st_of (x5 _ _ hptJ), st_of upd_same, by simp, sz_of (by simp; omega), fun z => ?_, fun _ pr hpr => ?_⟩
      · subst z
        have hz0 : zs = [] := List.length_eq_zero_iff.mp (by rw [← WVs.length hzs]; rfl)
        subst hz0
        exact k (.ref pt) _ n' (.n sn []) (SJ.ext x5) (by omega) (Ball.trans (But.of x5)) (WV.of (us := []) (x5 _ _ hptJ) rfl) hdz hnd (atom_ar hsm hzl fun z hz => (hdw z hz).1) (W.vins_all fun z hz => (hdw z hz).2)
      · have x6 : Ex (upd J pu (.tup acc)) (upd (upd J pu (.tup acc)) pr (.tup ([.str sn] ++ acc))) := Ex.new hpr
        have x56 := x5.trans x6
        exact k (.ref pr) _ n' (.n sn zs) (SJ.ext x56) (by omega) (Ball.trans (But.of x56)) (WV.of upd_same (WVs.ext x56 hzs)) hdz hnd (atom_ar hsm hzl fun z hz => (hdw z hz).1) (W.vins_all fun z hz => (hdw z hz).2)
end
end K28

set_option Elab.async false
set_option linter.all false
set_option maxRecDepth 100000
set_option maxHeartbeats 4000000
/-! The law's parts of words. -/
namespace K28
open PySem PySem.Spec PyProof.Rows L2 Evl
def PaV (B : Addr → Prop) (H : Hp) (x : V) (p : List Nat × W) : Prop := ∃ t l u, x = .ref t ∧ H t = some (.tup [.ref l, u]) ∧ B l ∧ H l = some (.lst (nums p.1)) ∧ WV H u p.2
theorem PaV.mut {B B' : Addr → Prop} {H G : Hp} {x : V} {p : List Nat × W} (h : PaV B H x p) (tx : Tx H G) (l : ∀ a o, B a → H a = some o → G a = some o) (b : ∀ a, B a → B' a) : PaV B' G x p := by
  obtain ⟨t, a, u, rfl, h1, h2, h3, h4⟩ := h
  exact ⟨t, a, u, rfl, tx _ _ h1, b _ h2, l _ _ h2 h3, h4.tx tx⟩
def prtL (as : List W) : List (List Nat × W) := W.partsL 0 as
theorem prtL_snoc (xs : List W) (x : W) : prtL (xs ++ [x]) = prtL xs ++ x.parts.map fun q => (xs.length :: q.1, q.2) := by
  unfold prtL
  rw [W.partsL_snoc, Nat.zero_add]
section
variable {P : Program} {w : World} {K : PySem.W.Frag} {mg : Str → Option Value} {base : Heap}
def spDp (m : Nat) : Sp := fun vs H Q _ => ∃ v z, vs = [v] ∧ WV H v z ∧ z.dp < m ∧ m ≤ 40 ∧ z.sz ≤ 9000 ∧
  ∀ p xs H', H p = none → Ex H H' → H' p = some (.lst xs) → A2 (PaV (fun l => H l = none ∧ l ≠ p) H') xs z.parts → Q (.ref p) H'
abbrev nDp : List Str := ["_law_word", "_law_found", "_law_index", "_law_part", "_law_place", "_law_deep"]
theorem sc_dp : FnScope nDp ["_law_word"] (defScope s__law_d_parts) := ⟨rfl, rfl, rfl, by decide +kernel, rfl, by decide +kernel, by decide +kernel⟩
theorem ok_d_parts (T : T28 P w K mg base) : ∀ m, Ok P w K mg base CX0 "_law_d_parts" ["_law_word"] (m + 1) (spDp m)
  | 0 => T.ok 36 rfl sc_dp (fun vs H Q E h => by obtain ⟨v, z, rfl, _⟩ := h; rfl) (fun kV doc pm an cdv ct us hl => match us, hl with | [_], _ => rfl) (fun f cdv A outer s H vs Q E hr h => by obtain ⟨v, z, _, _, h0, _⟩ := h; exact absurd h0 (Nat.not_lt_zero _))
  | m + 1 => by
    obtain ⟨fR, dR, GR, bR, kR, mR⟩ := (ok_d_parts T m).ex
    refine T.ok 36 rfl sc_dp (fun vs H Q E h => ?_) (fun kV doc pm an cdv ct us hl => match us, hl with | [_], _ => rfl) (fun f cdv A outer s H vs Q E hr h => ?_)
    · obtain ⟨v, z, rfl, _⟩ := h
      rfl
    · obtain ⟨v, z, rfl, hw, hz, hm, hs, k⟩ := h
      refine ⟨_, pss_cons (ps_set (i := 1) sc_dp.nd rfl (Or.inl rfl) (pe_lst (pa_cons (pe_tup (pa_cons (pe_lst pa_nil) (pa_cons (pv 0) pa_nil))) pa_nil)))
        (pss_cons (ps_if (pt_not (pt_val (pe_isiB T.isi T.str PyProof.Rows.boot_str (pv 0))))
          (pss_one (ps_for PassesOwn.never rfl (pi_enumT (by rfl) T.enumerate (pa_cons (pe_slice sl_tup (pv 0) (po_some pe_int) po_none) pa_nil)) (pg_tup rfl (pgs_cons (pg_name (i := 2) sc_dp.nd rfl (Or.inr rfl)) (pgs_cons (pg_name (i := 3) sc_dp.nd rfl (Or.inl rfl)) pgs_nil)))
            (pss_one (ps_expr (pe_bm PySem.F.plainAttrs_list PySem.F.slot_list_extend PySem.F.type_list_extend mt_extend (pv 1) (pa_cons
              (pe_lc (own := [("_law_place", 4), ("_law_deep", 5)]) (g := gPair K 4 5) (tt := tYes) (te := tTup (tCons (tOp rCat (tLst (tCons (tVar 2) tNil)) (tVar 4)) (tCons (tVar 5) tNil))) rfl sc_dp.nd (pi_list (pe_call GR hr (by rfl) mR kR bR .nil pass0 (pa_cons (pv 3) pa_nil))) (blkOk_by (N := nDp) (sc := defScope s__law_d_parts) (by decide +kernel))
                (fun _ _ _ _ _ => pg_tup rfl (pgs_cons (pg_name (i := 4) sc_dp.nd rfl (Or.inl rfl)) (pgs_cons (pg_name (i := 5) sc_dp.nd rfl (Or.inl rfl)) pgs_nil))) (fun _ _ _ _ _ => pts_nil)
                (fun _ _ _ _ _ => pe_tup (pa_cons (pe_op op_cat (pe_lst (pa_cons (pv 2) pa_nil)) (pv 4)) (pa_cons (pv 5) pa_nil)))) pa_nil)))))) pss_nil)
        (pss_one (ps_ret (pv 1)))), ?_⟩
      refine ⟨Nat.zero_le _, fun l hl => ⟨_, rfl, by show 2 ≤ sizeLine; decide, fun t ht => ⟨by show 1 ≤ sizeLine; decide, fun p hp => ?_⟩⟩⟩
      have e1 : Ex H (upd H l (.lst [])) := Ex.new hl
      have e2 := e1.trans (Ex.new (o := .tup [.ref l, v]) ht)
      have e3 := e2.trans (Ex.new (o := .lst [.ref t]) hp)
      have hp0 : H p = none := fresh_back e2 hp
      have hlp : l ≠ p := by
        intro q
        have q2 := (Ex.new (H := upd H l (.lst [])) (o := .tup [.ref l, v]) ht) l _ upd_same
        rw [q] at q2
        rw [q, q2] at hp
        cases hp
      have htp : t ≠ p := by
        intro q
        rw [← q, upd_same] at hp
        cases hp
      have first : PaV (fun l => H l = none ∧ l ≠ p) (upd (upd (upd H l (.lst [])) t (.tup [.ref l, v])) p (.lst [.ref t])) (.ref t) ([], z) :=
        ⟨t, l, v, rfl, by rw [upd_ne htp, upd_same], ⟨hl, hlp⟩, by rw [upd_ne hlp]; exact (Ex.new (o := .tup [.ref l, v]) ht) l _ upd_same, hw.ext e3⟩
      have keep : ∀ {G1 G2 : Hp} {xs : List V} {L : List (List Nat × W)}, A2 (PaV (fun l => H l = none ∧ l ≠ p) G1) xs L → Tx G1 G2 → (∀ a o, a ≠ p → G1 a = some o → G2 a = some o) → A2 (PaV (fun l => H l = none ∧ l ≠ p) G2) xs L :=
        fun h tx e => h.mono fun a b q => q.mut tx (fun c o q1 q2 => e c o q1.2 q2) fun _ q => q
      cases z with
      | v sv =>
        obtain rfl : v = .str sv := hw
        refine q_when (b := false) (et_not (a := true) (et_B (ev_isStr (o := .str sv) (ev_var rfl) rfl))) (fun z => nomatch z) fun _ H1 e4 => ?_
        refine s_ret (ev_var rfl) fun H2 e5 => k p [.ref t] H2 hp0 ((e3.trans e4).trans e5) (e5 _ _ (e4 _ _ upd_same)) ?_
        exact keep ⟨first, trivial⟩ (Tx.of (e4.trans e5)) fun a o _ q => e5 _ _ (e4 _ _ q)
      | n sn as =>
        obtain ⟨r, us, rfl, hr1, hu⟩ := hw.tup
        have hul := hu.length
        have hdp : W.dps as < m := by have : (W.n sn as).dp = W.dps as + 1 := rfl; omega
        have hsz : W.szs as + 2 ≤ 9000 := hs
        refine q_when (b := true) (et_not (a := false) (et_B (ev_isStr (o := (W.n sn as).o) (ev_var rfl) (hw.ext e3)))) (fun _ H1 e4 => ?_) (fun z => nomatch z)
        have e04 := e3.trans e4
        refine s_forEnumNT (eu_tail (ev_var rfl) (st_of (e04 _ _ hr1))) (fun i σ' H' => Ex H H' ∧ (∃ a b : Option V, σ' = [some (.ref r), some (.ref p), a, b, none, none]) ∧ ∃ xs, H' p = some (.lst xs) ∧ A2 (PaV (fun l => H l = none ∧ l ≠ p) H') xs (([], W.n sn as) :: prtL (as.take i))) ?_ ?_ ?_
        · intro H2 e5
          refine ⟨e04.trans e5, ⟨none, none, rfl⟩, [.ref t], e5 _ _ (e4 _ _ upd_same), ?_⟩
          exact keep ⟨first, trivial⟩ (Tx.of (e4.trans e5)) fun a o _ q => e5 _ _ (e4 _ _ q)
        · rintro i x σ' H' H2 hx ⟨e5, ⟨a, b, rfl⟩, xs, h5, hP⟩ e6 N hN
          have e06 := e5.trans e6
          have h6 := e6 _ _ h5
          obtain ⟨y, hy, hwy⟩ := (hu.ext e06).getv hx
          have hyd := W.lt_dp hy
          have hys := W.lt_sz hy
          have hlenx := hP.length
          have hpl := W.partsL_len 0 (as.take i)
          have htk := szs_take as i
          have hxl : xs.length ≤ 9001 := by
            rw [hlenx]
            show (prtL (as.take i)).length + 1 ≤ 9001
            unfold prtL
            omega
          refine s_extLP (P := fun zs G => A2 (PaV (fun l => H2 l = none) G) zs (y.parts.map fun q => (i :: q.1, q.2))) h6 (ev_var rfl) ?_ (fun zs G q => ?_) fun zs H3 e7 q => ?_
          · intro H3 e7 Q3 q3
            refine ⟨x, rfl, x, y, rfl, hwy.ext e7, by omega, by omega, by omega, fun pq ps H5 hpq e9 h9 hparts => ?_⟩
            have hpln := hparts.length
            have hpl2 := W.parts_len y
            refine ⟨pq, rfl, ⟨ps, sq_of h9⟩, fun Dl hD => lc_it walk_list (Cwp H5 (fun _ => true) (fun j v G => ∃ q, y.parts[j]? = some q ∧ PaV (fun l => H2 l = none ∧ l ≠ Dl) G v (i :: q.1, q.2)) Dl) (cwp0 hD) (fun i G _ c => sq_of (c.2.1 _ _ h9)) ?_ ?_⟩
            · rintro j v G G' hj c ⟨rfl, hv⟩
              obtain ⟨q5, hq5, t5, l5, u5, rfl, k1, k2, k3, k5⟩ := hparts.get hv
              have eG := c.2.1
              obtain ⟨acc, hacc, _⟩ := c.2.2
              refine ⟨t5, _, rfl, st_of (eG _ _ k1), rfl, _, _, rfl, _, _, rfl, rfl, rfl, cwp_turn (fun _ v => ?_) c (Ex.refl _) (by omega) et_yes (fun _ G3 e10 => ?_)⟩
              · intro G1 G2 xs1 a0 a1 a2 a3 ⟨q, hq, hp⟩
                have tx : Tx G1 G2 := fun a ys q => a3 a _ (ne_of q a0 (by intro z; cases z)) q
                exact ⟨q, hq, hp.mut tx (fun a o q1 q2 => a3 a o q1.2 q2) fun _ q => q⟩
              · intro G4 e11 Q4 q4
                have e12 := (eG.trans e10).trans e11
                have hq6 := W.parts_deep y q5 (List.mem_of_getElem? hq5)
                refine ⟨_, rfl, by show 1 ≤ sizeLine; decide, fun l6 hl6 => ⟨_, rfl, l6, l5, _, nums q5.1, rfl, rfl, upd_same, Ex.new hl6 _ _ (e12 _ _ k3), sz_of (by rw [nums_len]; simp; omega), fun l7 hl7 => ⟨_, rfl, by show 2 ≤ sizeLine; decide, fun t8 ht8 => ?_⟩⟩⟩
                have x6 : Ex G4 (upd G4 l6 (.lst [.int i])) := Ex.new hl6
                have x7 := x6.trans (Ex.new (o := .lst ([V.int i] ++ nums q5.1)) hl7)
                have x8 := x7.trans (Ex.new (o := .tup [.ref l7, u5]) ht8)
                have h47 : G4 l7 = none := fresh_back x6 hl7
                refine q4 _ _ x8 ⟨q5, hq5, t8, l7, u5, rfl, upd_same, ⟨fresh_back (((e7.trans e9).trans e12)) h47, fun z => ?_⟩, ?_, k5.ext (e12.trans x8)⟩
                · rw [z, e11 _ _ (e10 _ _ hacc)] at h47
                  cases h47
                · rw [upd_ne (fun z => by rw [z, upd_same] at ht8; cases ht8)]
                  exact upd_same
            · rintro G c
              obtain ⟨acc, hacc, hal, ha2⟩ := c.2.2
              rw [filter_true] at ha2
              refine q3 Dl acc G (fresh_back e9 c.1) (e9.trans c.2.1) hacc ?_
              have h3 : A2 (fun v q => PaV (fun l => H2 l = none ∧ l ≠ Dl) G v (i :: q.1, q.2)) acc y.parts := a2_range hpln ha2
              refine A2.of_get (by rw [List.length_map]; exact h3.length) fun j a b e1 e2 => ?_
              obtain ⟨q, hq, hr⟩ := h3.get e1
              rw [List.getElem?_map, hq] at e2
              obtain rfl : (i :: q.1, q.2) = b := Option.some.inj e2
              exact hr.mut (Tx.refl _) (fun _ _ _ q => q) fun _ q => q.1
          · have := q.length
            rw [List.length_map] at this
            have hpl2 := W.parts_len y
            omega
          · refine hN _ _ ⟨Ex.mut (e06.trans e7) hp0, ⟨_, _, rfl⟩, xs ++ zs, upd_same, ?_⟩ ((Tx.of e7).trans (Tx.lst (e7 _ _ h6)))
            rw [take_snoc hy, prtL_snoc, List.length_take, Nat.min_eq_left (by have := (List.getElem?_eq_some_iff.mp hy).1; omega)]
            have t7 : Tx H3 (upd H3 p (.lst (xs ++ zs))) := Tx.lst (e7 _ _ h6)
            refine A2.append (as := xs) (bs := ([], W.n sn as) :: prtL (as.take i)) ?_ ?_
            · refine keep hP ((Tx.of (e6.trans e7)).trans t7) fun a o nn q => ?_
              rw [upd_ne nn]
              exact e7 _ _ (e6 _ _ q)
            · refine q.mono fun a b q => q.mut t7 (fun c o q1 q2 => ?_) fun c q1 => ⟨fresh_back e06 q1, fun z => ?_⟩
              · rw [upd_ne (fun z => by rw [z, h6] at q1; cases q1)]
                exact q2
              · rw [z, h6] at q1
                cases q1
        · rintro σ' H' ⟨e5, ⟨a, b, rfl⟩, xs, h5, hP⟩
          rw [hul, List.take_length] at hP
          exact s_ret (ev_var rfl) fun H2 e6 => k p xs H2 hp0 (e5.trans e6) (e6 _ _ h5) (keep hP (Tx.of e6) fun a o _ q => e6 _ _ q)
end
end K28

set_option Elab.async false
set_option linter.all false
set_option maxRecDepth 100000
set_option maxHeartbeats 4000000
/-! What is known beside some objects, and beside tables; words handed loosely. -/
namespace K28
open PySem PySem.Spec PyProof.Rows L2 Evl LamX
open Classical in
/-- the heap without the objects of B, without tables -/
noncomputable def Hx (B : Addr → Prop) (H : Hp) : Hp := fun b => if B b then none else match H b with
  | some (.tbl _) => none
  | o => o
theorem hx_of {B : Addr → Prop} {H : Hp} {b : Addr} {o : HO} (n : ¬ B b) (t : ∀ ps, o ≠ .tbl ps) (h : H b = some o) : Hx B H b = some o := by
  unfold Hx
  rw [if_neg n, h]
  split
  · rename_i ps e
    exact absurd (Option.some.inj e) (t ps)
  · rfl
theorem hx_to {B : Addr → Prop} {H : Hp} {b : Addr} {o : HO} (h : Hx B H b = some o) : ¬ B b ∧ (∀ ps, o ≠ .tbl ps) ∧ H b = some o := by
  unfold Hx at h
  by_cases n : B b
  · rw [if_pos n] at h
    cases h
  · rw [if_neg n] at h
    split at h
    · cases h
    · rename_i x hx
      exact ⟨n, fun ps e => hx ps (by rw [h, e]), h⟩
/-- all but the objects of B and the tables stay -/
def Go (B : Addr → Prop) (H G : Hp) : Prop := ∀ b o, ¬ B b → (∀ ps, o ≠ .tbl ps) → H b = some o → G b = some o
theorem Go.ex {B : Addr → Prop} {H G : Hp} (g : Go B H G) : Ex (Hx B H) (Hx B G) := fun b o h => by
  obtain ⟨h1, h2, h3⟩ := hx_to h
  exact hx_of h1 h2 (g b o h1 h2 h3)
theorem hx_ex {B : Addr → Prop} {H : Hp} : Ex (Hx B H) H := fun b o h => (hx_to h).2.2
theorem hx_mono {B B' : Addr → Prop} {H : Hp} (m : ∀ b, B b → B' b) : Ex (Hx B' H) (Hx B H) := fun b o h => by
  obtain ⟨h1, h2, h3⟩ := hx_to h
  exact hx_of (fun z => h1 (m b z)) h2 h3
theorem Go.of {B : Addr → Prop} {H G : Hp} (e : Ex H G) : Go B H G := fun b o _ _ h => e b o h
theorem Go.ofN {B : Addr → Prop} {H G : Hp} (e : ExtN H G) : Go B H G := fun b o _ t h => e b o h t
theorem Go.but {B : Addr → Prop} {p q : Addr} {H G : Hp} (e : But p q H G) (bp : B p) (bq : B q) : Go B H G := fun b o n _ h => e b o (fun z => n (by rw [z]; exact bp)) (fun z => n (by rw [z]; exact bq)) h
theorem Go.trans {B : Addr → Prop} {H G J : Hp} (a : Go B H G) (b : Go B G J) : Go B H J := fun c o n t h => b c o n t (a c o n t h)
theorem Go.upd {B : Addr → Prop} {H : Hp} {p : Addr} {o : HO} (b : B p) : Go B H (upd H p o) := fun c u n _ h => by
  rw [upd_ne (fun z => n (by rw [z]; exact b))]
  exact h
theorem Go.refl {B : Addr → Prop} {H : Hp} : Go B H H := fun _ _ _ _ h => h
theorem Go.new {B : Addr → Prop} {H : Hp} {p : Addr} {o : HO} (n : H p = none) : Go B H (L2.upd H p o) := Go.of (Ex.new n)
def Old (H : Hp) (b : Addr) : Prop := ∃ xs, H b = some (.lst xs)
theorem Old.ex {H G : Hp} (e : Ex H G) {b : Addr} (h : Old H b) : Old G b := by
  obtain ⟨xs, h⟩ := h
  exact ⟨xs, e _ _ h⟩
theorem Old.but {p q : Addr} {H G : Hp} {n : Int} (B : But p q H G) (S : Spr G p q n) {b : Addr} (h : Old H b) : Old G b := by
  obtain ⟨xs, ys, h1, h2⟩ := S.lst
  by_cases e1 : b = p
  · exact ⟨xs, by rw [e1]; exact h1⟩
  · by_cases e2 : b = q
    · exact ⟨ys, by rw [e2]; exact h2⟩
    · obtain ⟨zs, h⟩ := h
      exact ⟨zs, B _ _ e1 e2 h⟩
theorem Spr.old {p q : Addr} {H : Hp} {n : Int} (S : Spr H p q n) : Old H p ∧ Old H q := by
  obtain ⟨xs, ys, h1, h2⟩ := S.lst
  exact ⟨⟨_, h1⟩, ⟨_, h2⟩⟩
theorem not_old {H : Hp} {b : Addr} (h : H b = none) : ¬ Old H b := fun ⟨xs, e⟩ => by
  rw [h] at e
  cases e
theorem But.back {p q : Addr} {H G : Hp} {n : Int} (B : But p q H G) (S : Spr G p q n) {a : Addr} (h : G a = none) : H a = none := by
  obtain ⟨a1, a2⟩ := S.nep h
  cases e : H a with
  | none => rfl
  | some o =>
    have := B a o a1 a2 e
    rw [h] at this
    cases this
theorem asg_opL {σ : L2.St} {H : Hp} {D : Ends} {tz : TS} {r : R2} {ta tb : TE} {xs : List V} {g : TG} (h : EvL ta σ H xs) (k : ∀ p H1, H p = none → Ex H H1 → H1 p = some (.lst xs) → tb σ H1 (fun y H2 => r (.ref p) y H2 (fun x H3 => g x σ H3 (tz D)))) : tSeq (tAsg (tOp r ta tb) g) tz D σ H := h H (Ex.refl H) _ k
theorem lst_tbl {xs : List V} : ∀ ps, HO.lst xs ≠ .tbl ps := fun _ z => nomatch z
theorem tup_tbl {xs : List V} : ∀ ps, HO.tup xs ≠ .tbl ps := fun _ z => nomatch z
section
variable {P : Program} {w : World} {K : PySem.W.Frag} {mg : Str → Option Value} {base : Heap}
def spLo (m : Nat) : Sp := fun vs H Q _ => ∃ (p q : Addr) (u : V) (n : Int) (z : W), vs = [.ref p, u] ∧ Spr H p q n ∧ n + (z.nd : Nat) ≤ 90000 ∧ WV H u z ∧ z.dp < m ∧ m ≤ 40 ∧ z.sz ≤ 9000 ∧
  ∀ (r : V) (G : Hp) (n' : Int) (o : O), Spr G p q n' → n' ≤ n + (z.nd : Nat) → But p q H G → OV (Hx (Old H) G) r o → o.strip = z.o → Q r G
abbrev nLo : List Str := ["_law_stream", "_law_word", "_law_parts", "_law_part"]
theorem sc_lo : FnScope nLo ["_law_stream", "_law_word"] (defScope s__law_d_loose) := ⟨rfl, rfl, rfl, by decide +kernel, rfl, by decide +kernel, by decide +kernel⟩
theorem nds_take {as : List W} {i : Nat} {x : W} (h : as[i]? = some x) : W.nds (as.take (i + 1)) = W.nds (as.take i) + x.nd := by
  rw [take_snoc h]
  have : ∀ (l : List W) (y : W), W.nds (l ++ [y]) = W.nds l + y.nd := by
    intro l y
    induction l with
    | nil => show y.nd + 0 = 0 + y.nd; omega
    | cons c l ih => show c.nd + W.nds (l ++ [y]) = c.nd + W.nds l + y.nd; rw [ih]; omega
  exact this _ _
theorem nds_take_le (as : List W) (n : Nat) : W.nds (as.take n) ≤ W.nds as := by
  induction as generalizing n with
  | nil => simp [W.nds]
  | cons c l ih =>
    cases n with
    | zero => exact Nat.zero_le _
    | succ n =>
      have := ih n
      show c.nd + W.nds (l.take n) ≤ c.nd + W.nds l
      omega
theorem ok_d_loose (T : T28 P w K mg base) : ∀ m, Ok P w K mg base CX0 "_law_d_loose" ["_law_stream", "_law_word"] (m + 2) (spLo m)
  | 0 => T.ok 38 rfl sc_lo (fun vs H Q E h => by obtain ⟨p, q, u, n, z, rfl, _⟩ := h; rfl) (fun kV doc pm an cdv ct us hl => match us, hl with | [_, _], _ => rfl) (fun f cdv A outer s H vs Q E hr h => by obtain ⟨p, q, u, n, z, _, _, _, _, h0, _⟩ := h; exact absurd h0 (Nat.not_lt_zero _))
  | m + 1 => by
    obtain ⟨fR, dR, GR, bR, kR, mR⟩ := (ok_d_loose T m).ex
    obtain ⟨fD, dD, GD, bD, kD, mD⟩ := (ok_dr T).ex
    refine T.ok 38 rfl sc_lo (fun vs H Q E h => ?_) (fun kV doc pm an cdv ct us hl => match us, hl with | [_, _], _ => rfl) (fun f cdv A outer s H vs Q E hr h => ?_)
    · obtain ⟨p, q, u, n, z, rfl, _⟩ := h
      rfl
    · obtain ⟨p, q, u, n, z, rfl, S, hn, hw, hz, hm, hs, k⟩ := h
      refine ⟨_, pss_cons (ps_if (pt_val (pe_isiB T.isi T.str PyProof.Rows.boot_str (pv 1))) (pss_one (ps_ret (pv 1))) pss_nil)
        (pss_cons (ps_set (i := 2) sc_lo.nd rfl (Or.inl rfl) (pe_op op_cat (pe_lst (pa_cons (pe_ix ix_tup (pv 1) pe_int (fun _ _ => rfl)) pa_nil))
          (pe_lc (own := [("_law_part", 3)]) (g := gName 3) (tt := tYes) (te := tCall (spLo m) [] E0 (tCons (tVar 0) (tCons (tVar 3) tNil))) rfl sc_lo.nd (pi_tup (pe_slice sl_tup (pv 1) (po_some pe_int) po_none)) (blkOk_by (N := nLo) (sc := defScope s__law_d_loose) (by decide +kernel))
            (fun _ _ _ _ _ => pg_name (i := 3) sc_lo.nd rfl (Or.inl rfl)) (fun _ _ _ _ _ => pts_nil) (fun _ _ _ _ _ => pe_call GR hr (by rfl) mR kR bR .nil pass0 (pa_cons (pv 0) (pa_cons (pv 3) pa_nil))))))
        (pss_one (ps_ret (pe_ifExp (pt_cmpR op_eq (pe_call GD (hr.mono (by omega)) (by rfl) mD kD bD .nil pass0 (pa_cons (pv 0) (pa_cons pe_int pa_nil))) pe_int (nomark _)) (pv 2) (pe_callTy call_tuple_of (by rfl) T.tuple PyProof.Rows.boot_tuple (pa_cons (pv 2) pa_nil)))))), ?_⟩
      cases z with
      | v sv =>
        obtain rfl : u = .str sv := hw
        refine q_when (b := true) (et_B (ev_isStr (o := .str sv) (ev_var rfl) rfl)) (fun _ H1 e1 => s_ret (ev_var rfl) fun H2 e2 => k (.str sv) H2 n (.str sv) (S.ext (e1.trans e2)) (by omega) (But.of (e1.trans e2)) rfl rfl) fun z => nomatch z
      | n sn as =>
        obtain ⟨r, us, rfl, hr1, hu⟩ := hw.tup
        have hul := hu.length
        have hdp : W.dps as < m := by have : (W.n sn as).dp = W.dps as + 1 := rfl; omega
        have hsz : W.szs as + 2 ≤ 9000 := hs
        have hasl := W.len_szs as
        have hnd : (W.n sn as).nd = W.nds as + 1 := rfl
        refine q_when (b := false) (et_B (ev_isStr (o := (W.n sn as).o) (ev_var rfl) hw)) (fun z => nomatch z) fun _ H1 e1 => ?_
        have S1 := S.ext e1
        refine asg_opL (el_lst (ea_cons (ev_op (z := .str sn) (ev_var rfl) ev_c (rv_ixT (st_of (e1 _ _ hr1)) (atI_nat (j := 0) rfl))) ea_nil) (by show 1 ≤ 100000; decide)) fun p1 H2 np1 e2 hp1 => ?_
        have e12 := e1.trans e2
        refine eu_tail (K := K) (te := tVar 1) (σ := [some (.ref p), some (.ref r), none, none]) (H := H2) (a := r) (x := .str sn) (xs := us) (ev_var rfl) (st_of (e12 _ _ hr1)) H2 (Ex.refl _) _ fun c H3 nc e3 hc => ?_
        have e13 := e12.trans e3
        have S3 := S.ext e13
        refine ⟨c, rfl, ⟨us, st_of hc⟩, fun Dl hD => ?_⟩
        obtain ⟨d1, d2⟩ := S3.nep hD
        have hp13 : H3 p1 = some (.lst [.str sn]) := e3 _ _ hp1
        obtain ⟨q1, q2⟩ := S1.nep np1
        have hDp1 : Dl ≠ p1 := (ne_of_none hp13 hD).symm
        have hDc : Dl ≠ c := (ne_of_none hc hD).symm
        obtain ⟨oP, oQ⟩ := S.old
        refine lc_tup (xs := us) (fun i J => ∃ acc n' os, Spr J p q n' ∧ n' ≤ n + (W.nds (as.take i) : Nat) ∧ J Dl = some (.lst acc) ∧ acc.length = i ∧ OVs (Hx (fun b => Old H b ∨ b = Dl) J) acc os ∧ O.strips os = W.os (as.take i) ∧ But p q H3 J) ?_ ?_ ?_ ?_
        · exact ⟨[], n, [], S3.ext (Ex.new hD), by simp [W.nds], upd_same, rfl, .nil, rfl, But.of (Ex.new hD)⟩
        · rintro i J hi ⟨acc, n', os, SJ, _, _, _, _, _, BJ⟩
          exact st_of ((S3.tx BJ) _ _ hc)
        · rintro i x J hx ⟨acc, n', os, SJ, hnJ, hJ, hal, hov, hst, BJ⟩
          refine ⟨rfl, ?_⟩
          unfold tYes
          dsimp only
          rw [if_pos (rfl : true = true)]
          obtain ⟨y, hy, hwy⟩ := hu.getv hx
          have hyd := W.lt_dp hy
          have hys := W.lt_sz hy
          have hyn := nds_take hy
          have hle := nds_take_le as (i + 1)
          have hil := (List.getElem?_eq_some_iff.mp hy).1
          have hwJ : WV J x y := ((hwy.ext e13).tx (S3.tx BJ))
          refine ⟨.ref p, rfl, x, rfl, p, q, x, n', y, rfl, SJ, by omega, hwJ, by omega, by omega, by omega, fun y' J2 n2 o2 SJ2 hn2 BJ2 hov2 hst2 => ?_⟩
          have hJ2 : J2 Dl = some (.lst acc) := BJ2 _ _ d1 d2 hJ
          refine ⟨acc, hJ2, sz_lt (by omega), acc ++ [y'], n2, os ++ [o2], SJ2.keep (fun o h => by rw [upd_ne d1.symm]; exact h) (fun o h => by rw [upd_ne d2.symm]; exact h), by rw [hyn]; omega, upd_same, by simp [hal], ?_, ?_, ?_⟩
          · have hold : ∀ b, (Old H b ∨ b = Dl) → Old J b := fun b hb => by
              rcases hb with hb | rfl
              · exact Old.but BJ SJ (Old.ex e13 hb)
              · exact ⟨_, hJ⟩
            have g1 : Go (fun b => Old H b ∨ b = Dl) J2 (upd J2 Dl (.lst (acc ++ [y']))) := Go.upd (.inr rfl)
            have g2 : Go (fun b => Old H b ∨ b = Dl) J J2 := Go.but BJ2 (.inl oP) (.inl oQ)
            exact OVs.append ((hov.ext g2.ex).ext g1.ex) (.cons ((hov2.ext (hx_mono hold)).ext g1.ex) .nil)
          · rw [take_snoc hy, strips_eq, W.os_map, List.map_append, List.map_append, ← strips_eq, ← W.os_map, hst]
            show _ ++ [o2.strip] = _ ++ [y.o]
            rw [hst2]
          · intro b o nb1 nb2 e
            rw [upd_ne (ne_of_none e hD)]
            exact BJ2 _ _ nb1 nb2 (BJ _ _ nb1 nb2 e)
        · rintro J ⟨acc, n', os, SJ, hnJ, hJ, hal, hov, hst, BJ⟩
          rw [hul, List.take_length] at hst hnJ
          have hp1J : J p1 = some (.lst [.str sn]) := BJ _ _ q1 q2 hp13
          refine ⟨p1, Dl, [.str sn], acc, rfl, rfl, hp1J, hJ, sz_of (by simp; omega), fun pl hpl => ?_⟩
          have x4 : Ex J (upd J pl (.lst ([.str sn] ++ acc))) := Ex.new hpl
          have npl : H pl = none := fresh_back e13 (BJ.back SJ hpl)
          obtain ⟨l1, l2⟩ := SJ.nep hpl
          have S4 := SJ.ext x4
          refine ⟨.ref p, rfl, p, q, n', 3, rfl, S4, by omega, by decide, by decide, fun rr G r0 r1 S5 B5 => ⟨rfl, _, rfl, ?_⟩⟩
          have hGl : G pl = some (.lst ([.str sn] ++ acc)) := B5 _ _ l1 l2 upd_same
          have Ball : But p q H G := ((But.of e13).trans BJ).trans ((But.of x4).trans B5)
          have hovG : OVs (Hx (Old H) G) acc os := by
            have a1 : OVs (Hx (Old H) J) acc os := hov.ext (hx_mono fun b hb => .inl hb)
            have g1 : Go (Old H) J G := (Go.of x4).trans (Go.but B5 oP oQ)
            exact a1.ext g1.ex
          dsimp only
          by_cases hb : decide (V.int rr = V.int 0) = true
          · rw [if_pos hb]
            refine ⟨.ref pl, rfl, k (.ref pl) G (n' + 1) (.lst (.str sn :: os)) S5 (by omega) Ball ⟨pl, _, rfl, hx_of (not_old npl) lst_tbl hGl, _, _, rfl, rfl, hovG⟩ ?_⟩
            show O.tup (.str sn :: O.strips os) = .tup (.str sn :: W.os as)
            rw [hst]
          · rw [if_neg hb]
            refine ⟨.ref pl, rfl, pl, _, rfl, .inl ⟨sq_of hGl, fun pt hpt => ?_⟩⟩
            have x6 : Ex G (upd G pt (.tup ([.str sn] ++ acc))) := Ex.new hpt
            refine k (.ref pt) _ (n' + 1) (.tup (.str sn :: os)) (S5.ext x6) (by omega) (Ball.trans (But.of x6)) ⟨pt, _, rfl, hx_of (not_old (Ball.back S5 hpt)) tup_tbl upd_same, _, _, rfl, rfl, hovG.ext (Go.of x6).ex⟩ ?_
            show O.tup (.str sn :: O.strips os) = .tup (.str sn :: W.os as)
            rw [hst]
end
end K28

set_option Elab.async false
set_option linter.all false
set_option maxRecDepth 100000
set_option maxHeartbeats 4000000
/-! Data the same. -/
namespace K28
open PySem PySem.Spec PyProof.Rows L2 Evl
mutual
def O.dq : O → Nat
  | .non => 0 | .bl _ => 0 | .int _ => 0 | .str _ => 0 | .dct => 2 | .lst xs => O.dqs xs + 1 | .tup xs => O.dqs xs + 1
def O.dqs : List O → Nat
  | [] => 0
  | x :: xs => max x.dq (O.dqs xs)
end
theorem dqs_le : ∀ {xs : List O} {i : Nat} {x : O}, xs[i]? = some x → x.dq ≤ O.dqs xs
  | [], _, _, e => by simp at e
  | a :: as, 0, x, e => by
    obtain rfl : a = x := by simpa using e
    exact Nat.le_max_left _ _
  | a :: as, i + 1, x, e => Nat.le_trans (dqs_le (xs := as) (i := i) (by simpa using e)) (Nat.le_max_right _ _)
theorem szs_le : ∀ {xs : List O} {i : Nat} {x : O}, xs[i]? = some x → x.sz ≤ O.szs xs
  | [], _, _, e => by simp at e
  | a :: as, 0, x, e => by
    obtain rfl : a = x := by simpa using e
    exact Nat.le_add_right _ _
  | a :: as, i + 1, x, e => Nat.le_trans (szs_le (xs := as) (i := i) (by simpa using e)) (Nat.le_add_left _ _)
section
variable {P : Program} {w : World} {K : PySem.W.Frag} {mg : Str → Option Value} {base : Heap}
theorem all_true (n : Nat) : (List.replicate n true).all id = true := by
  induction n with
  | zero => rfl
  | succ n ih => rw [List.replicate_succ, List.all_cons, ih]; rfl
def spSa (m : Nat) : Sp := fun vs H Q _ => ∃ u v o, vs = [u, v] ∧ OV H u o ∧ OV H v o ∧ o.dq < m ∧ m ≤ 40 ∧ o.sz ≤ 40000 ∧ RetV (.bl true) H Q
theorem spv_sa {m : Nat} {u v : V} {o : O} {H : Hp} (h1 : OV H u o) (h2 : OV H v o) (hd : o.dq < m) (hm : m ≤ 40) (hs : o.sz ≤ 40000) : SpV (spSa m) ([u, v] ++ []) H (.bl true) := fun H1 e Q q E => ⟨u, v, o, rfl, h1.ext e, h2.ext e, hd, hm, hs, q⟩
abbrev nSa : List Str := ["_law_found", "_law_due_here", "_law_x", "_law_y"]
theorem sc_sa : FnScope nSa ["_law_found", "_law_due_here"] (defScope s__law_same) := ⟨rfl, rfl, rfl, by decide +kernel, rfl, by decide +kernel, by decide +kernel⟩
theorem boot_dict23 : bootBuiltins "dict" = some (.type "dict") := by decide +kernel
theorem kit_four (o : O) : PySem.W.kitAny K (.type o.ty) (["int", "list", "tuple", "dict"].map Value.type) = some (o.isInt || (o.isLst || (o.isTup || o.isDct))) := by
  refine kitAny_cons (b := o.isInt) (kit_ty (kit_int o)) (fun h1 => ?_) fun h1 => by rw [h1]; rfl
  rw [h1, Bool.false_or]
  refine kitAny_cons (b := o.isLst) (kit_ty (kit_lst o)) (fun h2 => ?_) fun h2 => by rw [h2]; rfl
  rw [h2, Bool.false_or]
  refine kitAny_cons (b := o.isTup) (kit_ty (kit_tup o)) (fun h3 => ?_) fun h3 => by rw [h3]; rfl
  rw [h3, Bool.false_or]
  refine kitAny_cons (b := o.isDct) (kit_ty (kit_dct o)) (fun h4 => ?_) fun h4 => by rw [h4]
  rw [h4]
  exact kitAny_nil
theorem ok_same (T : T28 P w K mg base) : ∀ m, Ok P w K mg base CX0 "_law_same" ["_law_found", "_law_due_here"] (m + 1) (spSa m)
  | 0 => T.ok 47 rfl sc_sa (fun vs H Q E h => by obtain ⟨u, v, o, rfl, _⟩ := h; rfl) (fun kV doc pm an cdv ct us hl => match us, hl with | [_, _], _ => rfl) (fun f cdv A outer s H vs Q E hr h => by obtain ⟨u, v, o, _, _, _, h0, _⟩ := h; exact absurd h0 (Nat.not_lt_zero _))
  | m + 1 => by
    obtain ⟨fR, dR, GR, bR, kR, mR⟩ := (ok_same T m).ex
    refine T.ok 47 rfl sc_sa (fun vs H Q E h => ?_) (fun kV doc pm an cdv ct us hl => match us, hl with | [_, _], _ => rfl) (fun f cdv A outer s H vs Q E hr h => ?_)
    · obtain ⟨u, v, o, rfl, _⟩ := h
      rfl
    · obtain ⟨u, v, o, rfl, hu, hv, hd, hm, hs, k⟩ := h
      refine ⟨_, pss_cons (ps_if (pt_val (pe_isiLT T.isi T.list T.tuple (pv 1)))
          (pss_cons (ps_if (PW.pt (pw_or (pt_cmpR op_ne (pe_isiB T.isi T.list PyProof.Rows.boot_list (pv 0)) (pe_isiB T.isi T.list PyProof.Rows.boot_list (pv 1)) (nomark _)) (pw_or1 (pt_cmpR op_ne (pe_isiB T.isi T.tuple PyProof.Rows.boot_tuple (pv 0)) (pe_isiB T.isi T.tuple PyProof.Rows.boot_tuple (pv 1)) (nomark _))))) (pss_one ps_never) pss_nil)
          (pss_one (ps_ret (pe_and (pe_cmpR op_eq (pe_callB call_len (by rfl) T.len PySem.boot_len (pa_cons (pv 0) pa_nil)) (pe_callB call_len (by rfl) T.len PySem.boot_len (pa_cons (pv 1) pa_nil)) (nomark _))
            (pe_one (pe_callB (cr_all rfl) (by rfl) T.all (by decide +kernel) (pa_cons (pe_lc (own := [("_law_x", 2), ("_law_y", 3)]) (g := gPair K 2 3) (tt := tYes) (te := tCall (spSa m) [] E0 (tCons (tVar 2) (tCons (tVar 3) tNil))) rfl sc_sa.nd (RZ.pi_zipA (by rfl) T.zip (pa_cons (pv 0) (pa_cons (pv 1) pa_nil))) (blkOk_by (N := nSa) (sc := defScope s__law_same) (by decide +kernel))
              (fun _ _ _ _ _ => pg_tup rfl (pgs_cons (pg_name (i := 2) sc_sa.nd rfl (Or.inl rfl)) (pgs_cons (pg_name (i := 3) sc_sa.nd rfl (Or.inl rfl)) pgs_nil))) (fun _ _ _ _ _ => pts_nil) (fun _ _ _ _ _ => pe_call GR hr (by rfl) mR kR bR .nil pass0 (pa_cons (pv 2) (pa_cons (pv 3) pa_nil)))) pa_nil)))))))
          pss_nil)
        (pss_cons (ps_if (pt_val (pe_isiB T.isi T.dict boot_dict23 (pv 1))) (pss_one (ps_ret (pe_and (pe_isiB T.isi T.dict boot_dict23 (pv 0))
            (pe_one (pe_call GR hr (by rfl) mR kR bR .nil pass0 (pa_cons (LiI.pe_listItems rfl (pv 0) (by rfl) T.list PyProof.Rows.boot_list) (pa_cons (LiI.pe_listItems rfl (pv 1) (by rfl) T.list PyProof.Rows.boot_list) pa_nil))))))) pss_nil)
        (pss_cons (ps_if (pt_val (pe_isiB T.isi T.int PyProof.Rows.boot_int (pv 1))) (pss_one (ps_ret (pe_and (pe_isiB T.isi T.int PyProof.Rows.boot_int (pv 0)) (pe_and (pe_cmpR op_eq (pe_isiB T.isi T.bool PyProof.Rows.boot_bool (pv 0)) (pe_isiB T.isi T.bool PyProof.Rows.boot_bool (pv 1)) (nomark _))
            (pe_one (pe_cmpR op_eq (pv 0) (pv 1) (nomark _))))))) pss_nil)
        (pss_one (ps_ret (pe_and (pe_not (pe_callB call_isiT (by rfl) T.isi PyProof.Rows.boot_isinstance (pa_cons (pv 0) (pa_cons (pe_tup (pa_cons (pe_bltn (v := .ty "int") (by rfl) T.int PyProof.Rows.boot_int rfl) (pa_cons (pe_bltn (v := .ty "list") (by rfl) T.list PyProof.Rows.boot_list rfl) (pa_cons (pe_bltn (v := .ty "tuple") (by rfl) T.tuple PyProof.Rows.boot_tuple rfl) (pa_cons (pe_bltn (v := .ty "dict") (by rfl) T.dict (by decide +kernel) rfl) pa_nil))))) pa_nil))))
          (pe_one (pe_cmpR op_eq (pv 0) (pv 1) (nomark _)))))))), ?_⟩
      have huo := hu
      have hvo := hv
      cases hq : o.isLst || o.isTup with
      | true =>
        obtain ⟨b, xs, rfl⟩ := O.seq_of hq
        obtain ⟨a1, us, rfl, ha1, hus⟩ := hu.seq
        obtain ⟨a2, ws, rfl, ha2, hws⟩ := hv.seq
        have sq1 : SqB H b a1 us := ha1
        have sq2 : SqB H b a2 ws := ha2
        have hul := hus.length
        have hwl := hws.length
        rw [O.seq_sz] at hs
        have hxl := O.len_szs xs
        have hdq : O.dqs xs < m := by
          have : (O.seq b xs).dq = O.dqs xs + 1 := by cases b <;> rfl
          omega
        refine q_if (b := true) (et_is (et_B (ev_isSeq (ev_var rfl) hvo)) hq) (fun _ H1 e1 => ?_) (fun z => nomatch z)
        refine q_when (b := false) (et_is (et_or (a := false) (b := false) (et_is (et_test (ev_op (ev_isLst (ev_var rfl) (huo.ext e1)) (ev_isLst (ev_var rfl) (hvo.ext e1)) rv_neB)) (by simp)) fun _ => et_is (et_test (ev_op (ev_isTup (ev_var rfl) (huo.ext e1)) (ev_isTup (ev_var rfl) (hvo.ext e1)) rv_neB)) (by simp)) rfl) (fun z => nomatch z) fun _ H2 e2 => ?_
        have e02 := e1.trans e2
        have sq12 := sq1.ext e02
        have sq22 := sq2.ext e02
        refine s_ret (ev_andV (a := true) (b := true) (ev_is (ev_op (ev_lenQ (ev_var rfl) sq12) (ev_lenQ (ev_var rfl) sq22) (rv_eq rfl)) (congrArg V.bl (decide_eq_true (by rw [hul, hwl])))) fun _ G1 g1 Q1 q1 => ?_) fun H3 e3 => k H3 (e02.trans e3)
        have turn : ∀ (Dl : Addr) (i : Nat) (x : V) (G G' : Hp), G1 Dl = none → i < us.length → (Ex G1 G ∧ G Dl = some (.lst ((List.replicate i true).map V.bl))) → YPair (fun i => us[i]?) (fun i => ws[i]?) i G x G' → gPair K 2 3 x (wipe [some (.ref a1), some (.ref a2), none, none] [2, 3]) G' fun σ2 H2 => wipe σ2 [2, 3] = wipe [some (.ref a1), some (.ref a2), none, none] [2, 3] ∧ tYes σ2 H2 fun b H3 =>
            if b = true then tCall (spSa m) [] E0 (tCons (tVar 2) (tCons (tVar 3) tNil)) σ2 H3 fun y H4 => ∃ acc, H4 Dl = some (.lst acc) ∧ acc.length < sizeLine ∧ (Ex G1 (upd H4 Dl (.lst (acc ++ [y]))) ∧ (upd H4 Dl (.lst (acc ++ [y]))) Dl = some (.lst ((List.replicate (i + 1) true).map V.bl))) else Ex G1 H3 ∧ H3 Dl = some (.lst ((List.replicate (i + 1) true).map V.bl)) := by
          rintro Dl i x G G' hD hi ⟨c1, c2⟩ ⟨t, x1, x2, rfl, ht, rfl, hx1, hx2⟩
          obtain ⟨y1, hy1, ho1⟩ := hus.get hx1
          obtain ⟨y2, hy2, ho2⟩ := hws.get hx2
          rw [hy1] at hy2
          obtain rfl : y1 = y2 := Option.some.inj hy2
          have eT : Ex G (upd G t (.tup [x1, x2])) := Ex.new ht
          have h3 := dqs_le hy1
          have h4 := szs_le hy1
          refine ⟨t, _, rfl, st_of upd_same, rfl, _, _, rfl, _, _, rfl, rfl, rfl, ?_⟩
          unfold tYes
          dsimp only
          rw [if_pos rfl]
          have eall := ((e02.trans g1).trans c1).trans eT
          refine ⟨_, rfl, _, rfl, x1, x2, y1, rfl, ho1.ext eall, ho2.ext eall, by omega, by omega, by omega, fun G3 g3 => ⟨_, g3 _ _ (eT _ _ c2), sz_lt (by simp; omega), Ex.mut ((c1.trans eT).trans g3) hD, ?_⟩⟩
          rw [upd_same, List.replicate_succ']
          simp
        have fin : ∀ (Dl : Addr) (G : Hp), (Ex G1 G ∧ G Dl = some (.lst ((List.replicate (min us.length ws.length) true).map V.bl))) → ∃ (p : Addr) (bs : List Bool), [V.ref Dl] = [V.ref p] ∧ SqL K G p (bs.map V.bl) ∧ Q1 (.bl (bs.all id)) G := by
          rintro Dl G ⟨c1, c2⟩
          exact ⟨Dl, _, rfl, sq_of c2, by rw [all_true]; exact q1 G c1⟩
        have h1 := sq12.ext g1
        have h2 := sq22.ext g1
        refine ⟨_, rfl, _, rfl, a1, a2, us, ws, rfl, ?_⟩
        cases b with
        | true => exact .inl ⟨sq_of h1, sq_of h2, fun Dl hD => lc_it (walk_zip (K := K) (a := a1) (b := a2) (xs := us) (ys := ws) rfl) (fun i G => Ex G1 G ∧ G Dl = some (.lst ((List.replicate i true).map V.bl))) ⟨Ex.new hD, upd_same⟩ (fun i G _ c => ⟨sq_of (c.1 _ _ h1), sq_of (c.1 _ _ h2)⟩) (fun i x G G' hi c y => turn Dl i x G G' hD (by omega) c y) (fun G c => fin Dl G c)⟩
        | false => exact .inr ⟨st_of h1, st_of h2, fun Dl hD => lc_it (walk_zipT (K := K) (a := a1) (b := a2) (xs := us) (ys := ws) rfl) (fun i G => Ex G1 G ∧ G Dl = some (.lst ((List.replicate i true).map V.bl))) ⟨Ex.new hD, upd_same⟩ (fun i G _ c => ⟨st_of (c.1 _ _ h1), st_of (c.1 _ _ h2)⟩) (fun i x G G' hi c y => turn Dl i x G G' hD (by omega) c y) (fun G c => fin Dl G c)⟩
      | false =>
        have hd1 : o.isLst = false := (Bool.or_eq_false_iff.mp hq).1
        have hd2 : o.isTup = false := (Bool.or_eq_false_iff.mp hq).2
        refine q_when (b := false) (et_is (et_B (ev_isSeq (ev_var rfl) hvo)) hq) (fun z => nomatch z) fun _ H1 e1 => ?_
        cases hdd : o.isDct with
        | true =>
          cases o with
          | dct =>
            obtain ⟨a1, rfl, ha1⟩ := huo
            obtain ⟨a2, rfl, ha2⟩ := hvo
            have hm2 : 2 < m + 1 := hd
            refine q_when (b := true) (et_B (ev_isDct (o := .dct) (ev_var rfl) ⟨a2, rfl, e1 _ _ ha2⟩)) (fun _ H2 e2 => ?_) fun z => nomatch z
            have e02 := e1.trans e2
            refine s_ret (ev_andV (a := true) (b := true) (ev_isDct (o := .dct) (ev_var rfl) ⟨a1, rfl, e02 _ _ ha1⟩) fun _ G1 g1 Q1 q1 => ?_) fun H3 e3 => k H3 (e02.trans e3)
            refine ⟨.ref a1, rfl, a1, [], rfl, g1 _ _ (e02 _ _ ha1), fun G2 p1 ts1 x1 n1 _ _ h1 pr1 => ⟨.ref a2, rfl, a2, [], rfl, x1 _ _ (g1 _ _ (e02 _ _ ha2)), fun G3 p2 ts2 x2 n2 _ _ h2 pr2 => ?_⟩⟩
            cases pr1
            cases pr2
            have x2' : Ex G2 G3 := x2
            have x1' : Ex G1 G2 := x1
            exact ⟨.ref p1, .ref p2, .lst [], rfl, ⟨p1, [], rfl, x2' _ _ h1, rfl⟩, ⟨p2, [], rfl, h2, rfl⟩, by show 1 < m; omega, by omega, by decide, fun G4 g4 => q1 G4 ((x1'.trans x2').trans g4)⟩
          | _ => cases hdd
        | false =>
          refine q_when (b := false) (et_is (et_B (ev_isDct (ev_var rfl) (hvo.ext e1))) hdd) (fun z => nomatch z) fun _ H2 e2 => ?_
          have e02 := e1.trans e2
          cases hii : o.isInt with
          | true =>
            refine q_when (b := true) (et_is (et_B (ev_isInt (ev_var rfl) (hvo.ext e02))) hii) (fun _ H3 e3 => ?_) fun z => nomatch z
            have e03 := e02.trans e3
            refine s_ret (ev_andV (a := true) (b := true) (ev_is (ev_isInt (ev_var rfl) (huo.ext e03)) (by rw [hii])) fun _ => ev_andV (a := true) (b := true) (ev_is (ev_op (ev_isBool (ev_var rfl) (huo.ext e03)) (ev_isBool (ev_var rfl) (hvo.ext e03)) (rv_eq rfl)) (congrArg V.bl (decide_eq_true rfl))) fun _ => ?_) fun H4 e4 => k H4 (e03.trans e4)
            cases o with
            | bl c =>
              obtain rfl : u = .bl c := huo
              obtain rfl : v = .bl c := hvo
              exact ev_is (ev_op (ev_var rfl) (ev_var rfl) (rv_eq rfl)) (congrArg V.bl (decide_eq_true rfl))
            | int c =>
              obtain rfl : u = .int c := huo
              obtain rfl : v = .int c := hvo
              exact ev_is (ev_op (ev_var rfl) (ev_var rfl) (rv_eq rfl)) (congrArg V.bl (decide_eq_true rfl))
            | _ => cases hii
          | false =>
            refine q_when (b := false) (et_is (et_B (ev_isInt (ev_var rfl) (hvo.ext e02))) hii) (fun z => nomatch z) fun _ H3 e3 => ?_
            have e03 := e02.trans e3
            have hu3 := huo.ext e03
            have h4 : PySem.W.kitAny K (.type o.ty) (["int", "list", "tuple", "dict"].map Value.type) = some false := by
              rw [kit_four, hii, hd1, hd2, hdd]
              rfl
            refine s_ret (ev_andV (a := true) (b := true) (ev_notV (a := false) (ev_isiN (m := o.ty) (cs := ["int", "list", "tuple", "dict"]) (ev_var rfl) hu3.tyx h4 (eu_tup (ea_cons ev_c (ea_cons ev_c (ea_cons ev_c (ea_cons ev_c ea_nil)))) (by show 4 ≤ 100000; decide)))) fun _ => ?_) fun H4 e4 => k H4 (e03.trans e4)
            cases o with
            | non =>
              obtain rfl : u = .non := huo
              obtain rfl : v = .non := hvo
              exact ev_is (ev_op (ev_var rfl) (ev_var rfl) (rv_eq rfl)) (congrArg V.bl (decide_eq_true rfl))
            | str c =>
              obtain rfl : u = .str c := huo
              obtain rfl : v = .str c := hvo
              exact ev_is (ev_op (ev_var rfl) (ev_var rfl) (rv_eq rfl)) (congrArg V.bl (decide_eq_true rfl))
            | bl c => cases hii
            | int c => cases hii
            | dct => cases hdd
            | lst c => cases hd1
            | tup c => cases hd2
end
end K28

set_option Elab.async false
set_option linter.all false
set_option maxRecDepth 100000
set_option maxHeartbeats 4000000
/-! Things each once; the variables of words. -/
namespace K28
open PySem PySem.Spec PyProof.Rows L2 Evl
def eo : List Str → List Str → List Str
  | acc, [] => acc
  | acc, x :: xs => eo (if acc.contains x then acc else acc ++ [x]) xs
theorem eo_snoc : ∀ (xs : List Str) (x : Str) (acc : List Str), eo acc (xs ++ [x]) = if (eo acc xs).contains x then eo acc xs else eo acc xs ++ [x]
  | [], x, acc => rfl
  | y :: ys, x, acc => eo_snoc ys x _
theorem eo_app : ∀ (xs ys acc : List Str), eo acc (xs ++ ys) = eo (eo acc xs) ys
  | [], ys, acc => rfl
  | y :: ys, zs, acc => eo_app ys zs _
theorem eo_len : ∀ (xs acc : List Str), (eo acc xs).length ≤ acc.length + xs.length
  | [], acc => Nat.le_refl _
  | x :: xs, acc => by
    have := eo_len xs (if acc.contains x then acc else acc ++ [x])
    show (eo (if acc.contains x then acc else acc ++ [x]) xs).length ≤ _
    by_cases h : acc.contains x = true
    · rw [if_pos h] at this ⊢
      simp at this ⊢
      omega
    · rw [if_neg h] at this ⊢
      simp at this ⊢
      omega
theorem contains_app (a b : List Str) (x : Str) : (a ++ b).contains x = (a.contains x || b.contains x) := by
  induction a with
  | nil => simp
  | cons y ys ih => simp [ih, Bool.or_assoc]
theorem contains_filter (b : List Str) (x : Str) (p : Str → Bool) : (b.filter p).contains x = (b.contains x && p x) := by
  induction b with
  | nil => rfl
  | cons y ys ih =>
    rw [List.filter_cons]
    cases hp : p y with
    | true =>
      rw [if_pos rfl, List.contains_cons, List.contains_cons, ih]
      by_cases h : x = y
      · subst h
        simp [hp]
      · rw [beq_eq_false_iff_ne.mpr h]
        simp
    | false =>
      rw [if_neg (by decide), ih, List.contains_cons]
      by_cases h : x = y
      · subst h
        simp [hp]
      · rw [beq_eq_false_iff_ne.mpr h]
        simp
theorem eo_rel (acc : List Str) : ∀ xs : List Str, eo acc xs = acc ++ (eo [] xs).filter fun s => !acc.contains s := by
  have key : ∀ (n : Nat) (xs : List Str), xs.length = n → eo acc xs = acc ++ (eo [] xs).filter fun s => !acc.contains s := by
    intro n
    induction n with
    | zero =>
      intro xs h
      obtain rfl := List.length_eq_zero_iff.mp h
      simp [eo]
    | succ n ih =>
      intro xs h
      have hne : xs ≠ [] := fun z => by rw [z] at h; cases h
      obtain ⟨ys, y, rfl⟩ : ∃ ys y, xs = ys ++ [y] := ⟨xs.dropLast, xs.getLast hne, (List.dropLast_concat_getLast hne).symm⟩
      have ih := ih ys (by simp at h; omega)
      rw [eo_snoc, eo_snoc, ih, contains_app, contains_filter]
      have e1 : ([y].filter fun s => !acc.contains s) = if acc.contains y = true then [] else [y] := by
        rw [List.filter_cons]
        cases h1 : acc.contains y <;> rfl
      cases h1 : acc.contains y with
      | true =>
        rw [Bool.true_or, if_pos rfl]
        cases h2 : (eo [] ys).contains y with
        | true => rw [if_pos rfl]
        | false => rw [if_neg (by decide), List.filter_append, e1, if_pos h1, List.append_nil]
      | false =>
        rw [Bool.false_or]
        cases h2 : (eo [] ys).contains y with
        | true => rw [if_pos rfl, if_pos (by rfl)]
        | false => rw [if_neg (by decide), if_neg (by decide), List.filter_append, e1, if_neg (by rw [h1]; decide), List.append_assoc]
  exact fun xs => key _ xs rfl
mutual
def W.allv : W → List Str
  | .v s => [s]
  | .n _ as => W.allvs as
def W.allvs : List W → List Str
  | [] => []
  | a :: r => a.allv ++ W.allvs r
end
mutual
theorem W.vars_eo : ∀ w : W, w.vars = eo [] w.allv
  | .v s => rfl
  | .n _ as => W.varsL_eo [] as
theorem W.varsL_eo : ∀ (acc : List Str) (as : List W), W.varsL acc as = eo acc (W.allvs as)
  | acc, [] => rfl
  | acc, a :: r => by
    show W.varsL (acc ++ a.vars.filter fun s => !acc.contains s) r = eo acc (a.allv ++ W.allvs r)
    rw [eo_app, W.varsL_eo, W.vars_eo a, ← eo_rel]
end
def vOf : W → Option Str
  | .v s => some s
  | .n _ _ => none
mutual
theorem W.parts_allv : ∀ w : W, w.parts.filterMap (fun q => vOf q.2) = w.allv
  | .v s => rfl
  | .n s as => by
    show (([], W.n s as) :: W.partsL 0 as).filterMap (fun q => vOf q.2) = _
    rw [List.filterMap_cons]
    exact W.partsL_allv 0 as
theorem W.partsL_allv : ∀ (i : Nat) (as : List W), (W.partsL i as).filterMap (fun q => vOf q.2) = W.allvs as
  | _, [] => rfl
  | i, a :: r => by
    show ((a.parts.map fun q => (i :: q.1, q.2)) ++ W.partsL (i + 1) r).filterMap (fun q => vOf q.2) = a.allv ++ W.allvs r
    rw [List.filterMap_append, W.partsL_allv (i + 1) r, List.filterMap_map, ← W.parts_allv a]
    rfl
end
section
variable {P : Program} {w : World} {K : PySem.W.Frag} {mg : Str → Option Value} {base : Heap}
def spEo : Sp := fun vs H Q _ => ∃ a xs, vs = [.ref a] ∧ H a = some (.lst (sVs xs)) ∧ xs.length ≤ 40000 ∧ ∀ p H', H p = none → Ex H H' → H' p = some (.lst (sVs (eo [] xs))) → Q (.ref p) H'
abbrev nEo : List Str := ["_law_things", "_law_found", "_law_thing"]
theorem sc_eo : FnScope nEo ["_law_things"] (defScope s__law_each_once) := ⟨rfl, rfl, rfl, by decide +kernel, rfl, by decide +kernel, by decide +kernel⟩
theorem sVs_len (xs : List Str) : (sVs xs).length = xs.length := by unfold sVs; rw [List.length_map]
theorem sVs_get {xs : List Str} {i : Nat} {x : V} (h : (sVs xs)[i]? = some x) : ∃ s, xs[i]? = some s ∧ x = .str s := by
  unfold sVs at h
  rw [List.getElem?_map] at h
  obtain ⟨s, a, b⟩ := Option.map_eq_some_iff.mp h
  exact ⟨s, a, b.symm⟩
theorem ok_each (T : T28 P w K mg base) : Ok P w K mg base CX0 "_law_each_once" ["_law_things"] 1 spEo := by
  refine T.ok 48 rfl sc_eo (fun vs H Q E h => ?_) (fun kV doc pm an cdv ct us hl => match us, hl with | [_], _ => rfl) (fun f cdv A outer s H vs Q E hr h => ?_)
  · obtain ⟨a, xs, rfl, _⟩ := h
    rfl
  · obtain ⟨a, xs, rfl, ha, hl, k⟩ := h
    refine ⟨_, pss_cons (ps_set (i := 1) sc_eo.nd rfl (Or.inl rfl) (pe_lst pa_nil))
      (pss_cons (ps_for PassesOwn.never rfl (pi_list (pv 0)) (pg_name (i := 2) sc_eo.nd rfl (Or.inl rfl))
        (pss_one (ps_if (pt_cmpR op_notIn_seq (pv 2) (pv 1) (by rfl)) (pss_one (ps_expr (pe_bm PySem.F.plainAttrs_list PySem.F.slot_list_append PySem.F.type_list_append mt_append (pv 1) (pa_cons (pv 2) pa_nil)))) pss_nil)))
      (pss_one (ps_ret (pv 1)))), ?_⟩
    refine q_asgL (el_lst ea_nil (by show 0 ≤ 100000; decide)) fun p H1 hp e1 h1 => ?_
    refine q_forL (xs := sVs xs) (ev_var rfl) (sq_of (e1 _ _ ha)) (fun i σ' H' => Ex H H' ∧ (∃ b : Option V, σ' = [some (.ref a), some (.ref p), b]) ∧ H' p = some (.lst (sVs (eo [] (xs.take i))))) ?_ ?_ ?_ ?_
    · intro H2 e2
      exact ⟨e1.trans e2, ⟨none, rfl⟩, e2 _ _ h1⟩
    · rintro i σ' H' hi ⟨e, _⟩
      exact sq_of (e _ _ ha)
    · rintro i x σ' H' hx ⟨e, ⟨b, rfl⟩, h⟩
      obtain ⟨s, hs, rfl⟩ := sVs_get hx
      have hil := (List.getElem?_eq_some_iff.mp hs).1
      have ht := eo_len (xs.take i) []
      have ht2 := List.length_take_le i xs
      simp at ht
      have hev : EvT (tTest (tOp (rIn K true) (tVar 2) (tVar 1))) [some (V.ref a), some (V.ref p), some (V.str s)] H' (!(eo [] (xs.take i)).contains s) := by
        refine et_is (et_test (ev_op (ev_var rfl) (ev_var rfl) (rv_niL (sq_of h) rfl (sVs_flat _)))) ?_
        rw [sVs_in]
      refine s_when hev (fun hb H2 e2 => ?_) fun hb H2 e2 => ?_
      · refine s_app (xs := sVs (eo [] (xs.take i))) (e2 _ _ h) (ev_var rfl) (ev_var rfl) (by rw [sVs_len]; omega) fun H3 e3 => ?_
        refine ⟨Ex.mut ((e.trans e2).trans e3) hp, ⟨_, rfl⟩, ?_⟩
        rw [upd_same, take_snoc hs, eo_snoc, if_neg (by intro z; rw [z] at hb; cases hb)]
        unfold sVs
        rw [List.map_append]
        rfl
      · refine ⟨e.trans e2, ⟨_, rfl⟩, ?_⟩
        rw [take_snoc hs, eo_snoc, if_pos (by cases hc : (eo [] (xs.take i)).contains s with | true => rfl | false => rw [hc] at hb; cases hb)]
        exact e2 _ _ h
    · rintro σ' H' ⟨e, ⟨b, rfl⟩, h⟩
      rw [sVs_len, List.take_length] at h
      exact s_ret (ev_var rfl) fun H2 e2 => k p H2 hp (e.trans e2) (e2 _ _ h)
end
end K28

set_option Elab.async false
set_option linter.all false
set_option maxRecDepth 100000
set_option maxHeartbeats 4000000
/-! The variables of words. -/
namespace K28
open PySem PySem.Spec PyProof.Rows L2 Evl
theorem given_vOf {α : Type} (L : List α) (v : α → Option Str) : ∀ n : Nat, n ≤ L.length → given n (fun i => ((L[i]?).bind v).isSome) (fun i => (((L[i]?).bind v).map V.str).getD .non) = sVs ((L.take n).filterMap v)
  | 0, _ => by simp [given, sVs]
  | n + 1, h => by
    have ih := given_vOf L v n (by omega)
    obtain ⟨x, hx⟩ : ∃ x, L[n]? = some x := ⟨L[n], by simp⟩
    rw [take_snoc hx, List.filterMap_append]
    cases hv : v x with
    | some s =>
      rw [given_yes (by rw [hx]; show (v x).isSome = true; rw [hv]; rfl), ih, hx]
      show _ ++ [((v x).map V.str).getD .non] = _
      rw [hv]
      unfold sVs
      rw [List.map_append]
      simp [hv]
    | none =>
      rw [given_no (by rw [hx]; show (v x).isSome = false; rw [hv]; rfl), ih]
      simp [hv]
mutual
theorem W.allv_len : ∀ w : W, w.allv.length ≤ w.sz
  | .v _ => Nat.le_refl _
  | .n _ as => by
    have := W.allvs_len as
    show (W.allvs as).length ≤ W.szs as + 2
    omega
theorem W.allvs_len : ∀ as : List W, (W.allvs as).length ≤ W.szs as
  | [] => Nat.le_refl _
  | a :: r => by
    have h1 := W.allv_len a
    have h2 := W.allvs_len r
    show (a.allv ++ W.allvs r).length ≤ a.sz + W.szs r
    rw [List.length_append]
    omega
end
theorem W.allvs_snoc : ∀ (as : List W) (x : W), W.allvs (as ++ [x]) = W.allvs as ++ x.allv
  | [], x => by simp [W.allvs]
  | a :: r, x => by
    show a.allv ++ W.allvs (r ++ [x]) = (a.allv ++ W.allvs r) ++ x.allv
    rw [W.allvs_snoc r x, List.append_assoc]
section
variable {P : Program} {w : World} {K : PySem.W.Frag} {mg : Str → Option Value} {base : Heap}
def spDv (m : Nat) : Sp := fun vs H Q _ => ∃ a us zs, vs = [.ref a] ∧ H a = some (.lst us) ∧ WVs H us zs ∧ (∀ z ∈ zs, z.dp < m) ∧ m ≤ 40 ∧ W.szs zs ≤ 9000 ∧
  ∀ p H', H p = none → Ex H H' → H' p = some (.lst (sVs (W.varsL [] zs))) → Q (.ref p) H'
abbrev nDv : List Str := ["_law_words", "_law_found", "_law_word", "_law_place", "_law_part"]
end
end K28

set_option Elab.async false
set_option linter.all false
set_option maxRecDepth 100000
set_option maxHeartbeats 4000000
/-! The law's depths. -/
namespace K28
open PySem PySem.Spec PyProof.Rows L2 Evl
section
variable {P : Program} {w : World} {K : PySem.W.Frag} {mg : Str → Option Value} {base : Heap}
abbrev nLd : List Str := ["_law_word", "_law_part"]
end
end K28

set_option Elab.async false
set_option linter.all false
set_option maxRecDepth 100000
set_option maxHeartbeats 4000000
/-! The law's exchange. -/
namespace K28
open PySem PySem.Spec PyProof.Rows L2 Evl
section
variable {K : PySem.W.Frag} {σ : L2.St} {H : Hp} {te : TE}
/-- x[1:], x a list -/
theorem el_tail {a : Addr} {x : V} {xs : List V} (h : Ev te σ H (.ref a)) (ha : H a = some (.lst (x :: xs))) : EvL (tSl (rSlL K) te (tPart (tC (.int 1))) tNoPart) σ H xs := fun H1 e Q q =>
  h H1 e _ fun H2 e2 => ⟨1, rfl, a, x :: xs, rfl, sq_of ((e.trans e2) _ _ ha), fun p hp => by
    have e0 : cutV (x :: xs) (some 1) none = xs := cut1 x xs
    rw [e0]
    exact q p _ (fresh_back e2 hp) (e2.trans (Ex.new hp)) upd_same⟩
theorem et_eqNil {a : Addr} {p : List Nat} (h : Ev te σ H (.ref a)) (ha : H a = some (.lst (nums p))) : EvT (tTest (tOp (rEqD K) te (tLst tNil))) σ H (PyData.eqv (.list ((p.map fun n => ((n : Nat) : Int)).map PyData.int)) (.list [])) := fun H1 e Q q =>
  h H1 e _ fun H2 e2 => ⟨Nat.zero_le _, fun l hl => by
    have e3 := e2.trans (Ex.new (o := .lst []) hl)
    have hp : nums p = (p.map fun n => ((n : Nat) : Int)).map V.int := by
      unfold nums
      rw [List.map_map]
      rfl
    refine ⟨.list ((p.map fun n => ((n : Nat) : Int)).map PyData.int), .list [], .lst (sq_of ((e.trans e3) _ _ (by rw [ha, hp]))) (dp_ints _), .lst (sq_of upd_same) .nil, shaped_ints _, by decide +kernel, _, rfl, ?_⟩
    exact q _ e3⟩
end
section
variable {P : Program} {w : World} {K : PySem.W.Frag} {mg : Str → Option Value} {base : Heap}
def spLx (m : Nat) : Sp := fun vs H Q _ => ∃ (u q : V) (a : Addr) (z y : W) (p : List Nat), vs = [u, .ref a, q] ∧ WV H u z ∧ H a = some (.lst (nums p)) ∧ WV H q y ∧ p.length < m ∧ m ≤ 40 ∧ z.sz ≤ 1000 ∧ (z.at p).isSome = true ∧ ∀ (r : V) (G : Hp), Ex H G → WV G r (z.put p y) → Q r G
theorem ep_lx {σ : L2.St} {H : Hp} {m : Nat} {t1 t2 t3 : TE} {ux q : V} {x y : W} {p : List Nat} (h1 : Ev t1 σ H ux) (h2 : EvL t2 σ H (nums p)) (h3 : Ev t3 σ H q) (hw : WV H ux x) (hy : WV H q y) (hp : p.length < m) (hm : m ≤ 40) (hs : x.sz ≤ 1000) (ha : (x.at p).isSome = true) :
    EvP (tCall (spLx m) [] E0 (tCons t1 (tCons t2 (tCons t3 tNil)))) σ H (fun r G => WV G r (x.put p y)) := fun H1 e Q k =>
  h1 H1 e _ fun H2 e2 => h2 H2 (e.trans e2) _ fun a H3 _ e3 h3' => h3 H3 ((e.trans e2).trans e3) _ fun H4 e4 => ⟨ux, q, a, x, y, p, rfl, hw.ext (((e.trans e2).trans e3).trans e4), e4 _ _ h3', hy.ext (((e.trans e2).trans e3).trans e4), hp, hm, hs, ha, fun r G e5 hr => k r G (((e2.trans e3).trans e4).trans e5) hr⟩
abbrev nLx : List Str := ["_law_word", "_law_place", "_law_part", "_law_at"]
end
end K28

set_option Elab.async false
set_option linter.all false
set_option maxRecDepth 100000
set_option maxHeartbeats 4000000
/-! Things that are no words. -/
namespace K28
open PySem PySem.Spec PyProof.Rows L2 Evl
/-- a new thing, beside the lists of H0 -/
def EvOx (H0 : Hp) (te : TE) (σ : L2.St) (H : Hp) (o : O) : Prop := ∀ H1, Ex H H1 → ∀ Q : VK, (∀ v H2, Ex H1 H2 → OV (Hx (Old H0) H2) v o → Q v H2) → te σ H1 Q
def EvAx (H0 : Hp) (ta : TA) (σ : L2.St) (H : Hp) (os : List O) : Prop := ∀ H1, Ex H H1 → ∀ Q : List V → Hp → Prop, (∀ vs H2, Ex H1 H2 → OVs (Hx (Old H0) H2) vs os → Q vs H2) → ta σ H1 Q
def EvLx (H0 : Hp) (te : TE) (σ : L2.St) (H : Hp) (os : List O) : Prop := ∀ H1, Ex H H1 → ∀ Q : VK, (∀ p xs H2, H1 p = none → Ex H1 H2 → H2 p = some (.lst xs) → OVs (Hx (Old H0) H2) xs os → Q (.ref p) H2) → te σ H1 Q
section
variable {H0 H : Hp} {σ : L2.St} {te : TE} {ta : TA}
theorem eox_int {i : Int} : EvOx H0 (tC (.int i)) σ H (.int i) := fun H1 e Q q => q _ _ (Ex.refl _) rfl
theorem eox_str {i : Str} : EvOx H0 (tC (.str i)) σ H (.str i) := fun H1 e Q q => q _ _ (Ex.refl _) rfl
theorem eox_bl {i : Bool} : EvOx H0 (tC (.bl i)) σ H (.bl i) := fun H1 e Q q => q _ _ (Ex.refl _) rfl
theorem eox_non : EvOx H0 (tC .non) σ H .non := fun H1 e Q q => q _ _ (Ex.refl _) rfl
theorem eax_nil : EvAx H0 tNil σ H [] := fun H1 e Q q => q _ _ (Ex.refl _) rfl
theorem eax_cons {o : O} {os : List O} (h : EvOx H0 te σ H o) (k : EvAx H0 ta σ H os) : EvAx H0 (tCons te ta) σ H (o :: os) := fun H1 e Q q =>
  h H1 e _ fun v H2 e2 hv => k H2 (e.trans e2) _ fun vs H3 e3 hvs => q (v :: vs) H3 (e2.trans e3) (.cons (hv.ext (Go.of e3).ex) hvs)
theorem eox_tup {os : List O} (h0 : Ex H0 H) (h : EvAx H0 ta σ H os) (n : os.length ≤ 1000) : EvOx H0 (tTup ta) σ H (.tup os) := fun H1 e Q q =>
  h H1 e _ fun vs H2 e2 hvs => ⟨sz_of (by rw [hvs.length]; omega), fun p hp => q (.ref p) _ (e2.trans (Ex.new hp)) ⟨p, vs, rfl, hx_of (not_old (fresh_back (h0.trans (e.trans e2)) hp)) tup_tbl upd_same, hvs.ext (Go.of (Ex.new hp)).ex⟩⟩
theorem eox_lst {os : List O} (h0 : Ex H0 H) (h : EvAx H0 ta σ H os) (n : os.length ≤ 1000) : EvOx H0 (tLst ta) σ H (.lst os) := fun H1 e Q q =>
  h H1 e _ fun vs H2 e2 hvs => ⟨sz_of (by rw [hvs.length]; omega), fun p hp => q (.ref p) _ (e2.trans (Ex.new hp)) ⟨p, vs, rfl, hx_of (not_old (fresh_back (h0.trans (e.trans e2)) hp)) lst_tbl upd_same, hvs.ext (Go.of (Ex.new hp)).ex⟩⟩
theorem eox_dct (h0 : Ex H0 H) : EvOx H0 tDNewK σ H .dct := fun H1 e Q q => fun p hp => q (.ref p) _ (Ex.new hp) ⟨p, rfl, hx_of (not_old (fresh_back (h0.trans e) hp)) (fun _ z => nomatch z) upd_same⟩
theorem elx_lst {os : List O} (h : EvAx H0 ta σ H os) (n : os.length ≤ 1000) : EvLx H0 (tLst ta) σ H os := fun H1 e Q q =>
  h H1 e _ fun vs H2 e2 hvs => ⟨sz_of (by rw [hvs.length]; omega), fun p hp => q p vs _ (fresh_back e2 hp) (e2.trans (Ex.new hp)) upd_same (hvs.ext (Go.of (Ex.new hp)).ex)⟩
theorem s_retLx {D : Ends} {os : List O} (h : EvLx H0 te σ H os) (k : ∀ p xs H1, H p = none → Ex H H1 → H1 p = some (.lst xs) → OVs (Hx (Old H0) H1) xs os → D.rt (.ref p) H1) : tRet te D σ H := h H (Ex.refl H) _ k
end
def odds : List O := [.non, .int 5, .bl true, .str "", .str "x", .str "a", .str "Xy", .str "X1y", .str "XX", .lst [], .tup [], .dct, .tup [.str "X"], .tup [.str "not"], .tup [.str "a", .int 5], .tup [.str "f", .tup [.str "a"], .non], .tup [.str "f", .str "a"], .tup [.str "=", .str "X"], .tup [.str "=", .tup [.str "a"], .tup [.str "b"], .tup [.str "c"]],
  .tup [.int 5, .str "X"], .tup [.str "f", .tup [.str "=", .str "X", .str "Y"]], .tup [.str "Ff", .str "X"]]
def oddB (o : O) : Bool := o.ss && (decide (o.sz ≤ 8000) && (o.e3 && !o.fitW))
theorem odds_odd : odds.all oddB = true := by decide +kernel
theorem oddB_no {H : Hp} {v : V} {o : O} (h : oddB o = true) (k : OV H v o) : NoW H v := by
  unfold oddB at h
  simp only [Bool.and_eq_true, Bool.not_eq_true', decide_eq_true_eq] at h
  exact ⟨o, ⟨k, h.1, h.2.1, h.2.2.1⟩, h.2.2.2⟩
section
variable {P : Program} {w : World} {K : PySem.W.Frag} {mg : Str → Option Value} {base : Heap}
def spOd : Sp := fun vs H Q _ => vs = [] ∧ ∀ p xs H', H p = none → Ex H H' → H' p = some (.lst xs) → OVs (Hx (Old H) H') xs odds → Q (.ref p) H'
theorem sc_od : FnScope [] [] (defScope s__law_d_odd_words) := ⟨rfl, rfl, rfl, by decide +kernel, rfl, by decide +kernel, by decide +kernel⟩
theorem ok_odd (T : T28 P w K mg base) : Ok P w K mg base CX0 "_law_d_odd_words" [] 1 spOd := by
  refine T.ok 37 rfl sc_od (fun vs H Q E h => ?_) (fun kV doc pm an cdv ct us hl => match us, hl with | [], _ => rfl) (fun f cdv A outer s H vs Q E hr h => ?_)
  · rw [h.1]
    rfl
  · obtain ⟨rfl, k⟩ := h
    refine ⟨_, pss_one (ps_ret (pe_lst (pa_cons pe_non (pa_cons pe_int (pa_cons pe_bl (pa_cons pe_str (pa_cons pe_str (pa_cons pe_str (pa_cons pe_str (pa_cons pe_str (pa_cons pe_str (pa_cons (pe_lst pa_nil) (pa_cons (pe_tup pa_nil) (pa_cons pe_dnewK (pa_cons (pe_tup (pa_cons pe_str pa_nil)) (pa_cons (pe_tup (pa_cons pe_str pa_nil)) (pa_cons (pe_tup (pa_cons pe_str (pa_cons pe_int pa_nil))) (pa_cons (pe_tup (pa_cons pe_str (pa_cons (pe_tup (pa_cons pe_str pa_nil)) (pa_cons pe_non pa_nil)))) (pa_cons (pe_tup (pa_cons pe_str (pa_cons pe_str pa_nil))) (pa_cons (pe_tup (pa_cons pe_str (pa_cons pe_str pa_nil))) (pa_cons (pe_tup (pa_cons pe_str (pa_cons (pe_tup (pa_cons pe_str pa_nil)) (pa_cons (pe_tup (pa_cons pe_str pa_nil)) (pa_cons (pe_tup (pa_cons pe_str pa_nil)) pa_nil))))) (pa_cons (pe_tup (pa_cons pe_int (pa_cons pe_str pa_nil))) (pa_cons (pe_tup (pa_cons pe_str (pa_cons (pe_tup (pa_cons pe_str (pa_cons pe_str (pa_cons pe_str pa_nil)))) pa_nil))) (pa_cons (pe_tup (pa_cons pe_str (pa_cons pe_str pa_nil))) pa_nil)))))))))))))))))))))))), ?_⟩
    refine s_retLx (H0 := H) (os := odds) (elx_lst ?_ (by decide)) k
    exact (eax_cons eox_non (eax_cons eox_int (eax_cons eox_bl (eax_cons eox_str (eax_cons eox_str (eax_cons eox_str (eax_cons eox_str (eax_cons eox_str (eax_cons eox_str (eax_cons (eox_lst (Ex.refl H) eax_nil (by decide)) (eax_cons (eox_tup (Ex.refl H) eax_nil (by decide)) (eax_cons (eox_dct (Ex.refl H)) (eax_cons (eox_tup (Ex.refl H) (eax_cons eox_str eax_nil) (by decide)) (eax_cons (eox_tup (Ex.refl H) (eax_cons eox_str eax_nil) (by decide)) (eax_cons (eox_tup (Ex.refl H) (eax_cons eox_str (eax_cons eox_int eax_nil)) (by decide)) (eax_cons (eox_tup (Ex.refl H) (eax_cons eox_str (eax_cons (eox_tup (Ex.refl H) (eax_cons eox_str eax_nil) (by decide)) (eax_cons eox_non eax_nil))) (by decide)) (eax_cons (eox_tup (Ex.refl H) (eax_cons eox_str (eax_cons eox_str eax_nil)) (by decide)) (eax_cons (eox_tup (Ex.refl H) (eax_cons eox_str (eax_cons eox_str eax_nil)) (by decide)) (eax_cons (eox_tup (Ex.refl H) (eax_cons eox_str (eax_cons (eox_tup (Ex.refl H) (eax_cons eox_str eax_nil) (by decide)) (eax_cons (eox_tup (Ex.refl H) (eax_cons eox_str eax_nil) (by decide)) (eax_cons (eox_tup (Ex.refl H) (eax_cons eox_str eax_nil) (by decide)) eax_nil)))) (by decide)) (eax_cons (eox_tup (Ex.refl H) (eax_cons eox_int (eax_cons eox_str eax_nil)) (by decide)) (eax_cons (eox_tup (Ex.refl H) (eax_cons eox_str (eax_cons (eox_tup (Ex.refl H) (eax_cons eox_str (eax_cons eox_str (eax_cons eox_str eax_nil))) (by decide)) eax_nil)) (by decide)) (eax_cons (eox_tup (Ex.refl H) (eax_cons eox_str (eax_cons eox_str eax_nil)) (by decide)) eax_nil))))))))))))))))))))))
end
end K28

set_option Elab.async false
set_option linter.all false
set_option maxRecDepth 100000
set_option maxHeartbeats 4000000
/-! repr of words; defs that run where no guard stands. -/
namespace K28
open PySem PySem.Spec PyProof.Rows L2 Evl
/-- a def's promise where no guard stands -/
structure FnG (P : Program) (w : World) (K : PySem.W.Frag) (mg : Str → Option Value) (base : Heap) (k : Nat) (f : Addr) (fd : FuncData) (ps : List Str) (sp : Sp) : Prop where
  len : ∀ vs H Q E, sp vs H Q E → vs.length = ps.length
  run : ∀ (A : Around) (outer : List Env) (s : Shared) (H : Hp) (args : Args) (us : List Value) (vs : List V) (Q : VK), A.guards = some [] → Room k A → Env0 P w K mg base A outer s H → BindsTo s fd args (ps.zip us) → Vals vs us → sp vs H Q E0 →
    codeAny (model P w) A (.call (.ref f) args) (CR CX0 outer P w H s Q E0) s
section
variable {P : Program} {w : World} {K : PySem.W.Frag} {mg : Str → Option Value} {base : Heap}
theorem FnG.of {x qual : Str} {params : Arguments} {body : List Stmt} {scope : Scope} {f : Addr} {fd : FuncData} {N ps : List Str} {k : Nat} {sp : Sp} (F : FunD K x qual params body scope [] [] f fd) (S : FnScope N ps scope) (len : ∀ vs H Q E, sp vs H Q E → vs.length = ps.length)
    (hb : ∀ (c : Addr), (∃ oc od osl, K.lookup f = some ⟨oc, od, .func fd, osl⟩ ∧ fd.code = .ref c) → ∀ (A : Around) (outer : List Env) (s : Shared) (H : Hp) (vs : List V) (Q : VK), A.guards = some [] → Room k (A.deeper (envOfC qual scope s.heap.objs.size f (.ref c))) → sp vs H Q E0 →
      ∃ t, PSs (cxOf CX0 P w K mg base N qual scope f (.ref c) A outer s H E0) body t ∧ t { nx := fun _ G => Q .non G, rt := Q } (L2.start N vs) H) : FnG P w K mg base (k + 1) f fd ps sp := by
  obtain ⟨oc, od, dV, kV, doc, pm, an, cd, ct, osl, rfl, lk, hcd, _, _⟩ := F.ex
  obtain ⟨c, hc⟩ := He.codeIn_ref hcd
  subst hc
  constructor
  · exact len
  intro A outer s H args us vs Q hg hr e0 hbi r hs
  have hK : K.In s.heap := e0.mod.kin.keeps fun b o e => (e0.bs b o e).1
  have hL : s.heap.NoLimit := e0.mod.nolimit.keeps fun b o e => (e0.bs b o e).1
  refine codeAny_call_function hr.depth (hK _ _ lk) rfl S.co S.gen rfl (PySem.W.codeRec_of hK hcd) (hbi _ _ _ _ ?_)
  refine wpAny_newFunctionEnv_cells S.kind (fun y hy => ?_) fun env he s1 x => ?_
  · rcases S.par y.1 (List.of_mem_zip (a := y.1) (b := y.2) hy).1 with q | q
    · exact Or.inl q
    · exact Or.inr ⟨q, PySem.W.cellsFrom_some _ _ _ (Or.inl q)⟩
  · subst he
    obtain ⟨t, ht, hq⟩ := hb c ⟨_, _, _, lk, rfl⟩ A outer s H vs Q hg (hr.deeper _) hs
    refine ⟨hL.keeps x.toInCall.keep, codeAny_func (wpAny_mono (ht.run [] s1 (L2.start N vs) H _ (inv_start S hr.hd e0 (len _ _ _ _ hs) r x) hq) (fun fl s' z => ?_) fun _ _ z => z)⟩
    match fl, z with
    | .ret u, ⟨v, σ', G, J, rv, q⟩ => exact ⟨v, G, J.os, J.bare, J.base, J.hok, rv, q⟩
    | .next, ⟨σ', G, J, q⟩ => exact ⟨V.non, G, J.os, J.bare, J.base, J.hok, rfl, q⟩
    | .brk, ⟨_, _, _, q⟩ => exact q.elim
    | .cont, ⟨_, _, _, q⟩ => exact q.elim
end
section
variable {X : Cx}
/-- a call of such a def -/
theorem pe_callG {k : Nat} {f : Addr} {fd : FuncData} {ps : List Str} {sp : Sp} {x : Str} {p pos : Pos} {e : Expr} {es : List Expr} {t : TA} (F : FnG X.prog X.w X.K X.mg X.base k f fd ps sp) (hg : X.A.guards = some []) (hr : Room k X.A) (hx : Gl X x) (hm : X.mg x = some (.ref f))
    (hk : PySem.W.keepIn X.K (.ref f) = true) (hb : Binds X.K fd ps []) (ha : PA X (e :: es) t) (hdb : (x == ("__debug__" : Str)) = false := by decide) (he : starEach (e :: es) X.env = (false, eval e X.env) :: starEach es X.env := by rfl)
    (hpl : (backTo pos (starEach es X.env)).any (·.1) = false := by rfl) : PE X (.Call (.Name x p) (e :: es) [] pos) (tCall sp [] E0 t) := by
  refine ⟨fun pins s σ H Q I h => wpAny_Call_Name_kw (ld_glob I hx hm (PySem.W.callWith_K (h₀ := X.base) I.ok.mod.kin hk (thn (ha.run pos pins s σ H _ I h) fun us s1 ⟨vs, H1, I1, r, q⟩ => ⟨I1.kIn, ?_⟩) he hpl) hdb)⟩
  have q : sp (vs ++ []) H1 Q E0 := q
  rw [List.append_nil] at q
  have hl : us.length = ps.length := by
    rw [← r.length]
    exact F.len _ _ _ _ q
  have b := hb s1 us I1.kIn (by simpa using hl)
  rw [List.append_nil] at b
  refine wpAny_call (codeAny_mono (F.run X.A X.stack s1 H1 ⟨us, []⟩ us vs Q hg hr I1.env0 b r q) fun r s' z => ?_)
  match r, z with
  | .ok (.ret u), z => exact I1.after z
  | .error _, z => exact (show False from z).elim
/-! ### repr -/
def rRepr (K : PySem.W.Frag) : List V → Hp → VK → Prop := fun xs H Q => ∃ (v : V) (d : PyData), xs = [v] ∧ Dp K H v d ∧ d.hasDict = false ∧ d.showable = true ∧ d.depth ≤ 30 ∧ d.shown.length ≤ sizeLine ∧ ((∃ a, v = .ref a) ∨ ∃ x, v = .str x) ∧ Q (.str d.shown) H
theorem call_repr (hg : X.A.guards = some []) (hu : X.A.units + 100 < cLine) : CallR X (.builtin "repr") (rRepr X.K) := by
  intro pins s σ H xs us Q I r h
  obtain ⟨v, d, rfl, hd, h1, h2, h3, h4, hv, q⟩ := h
  obtain ⟨u, rfl, r1⟩ := vals1 r
  rcases hv with ⟨a, rfl⟩ | ⟨x, rfl⟩
  · obtain rfl : u = .ref a := r1
    obtain ⟨as, rd⟩ := Dp.reads I d _ _ hd rfl
    exact PySem.repr_of_reads' rd h2 (fun z => by rw [h1] at z; cases z) hg (by omega) (fun _ _ e => e) (fun h' t tk hk => ⟨.str _, H, I.kept hk, ⟨_, rfl⟩, q⟩) h4
  · obtain ⟨t, rfl⟩ := r1
    cases hd
    exact P.repr_of_str ⟨.str _, H, I.tok _, ⟨_, rfl⟩, q⟩ h4
end
/-! ### words as data -/
mutual
def O.py : O → PyData
  | .non => .none | .bl b => .bool b | .int i => .int i | .str s => .str s | .dct => .dict [] | .lst xs => .list (O.pys xs) | .tup xs => .tuple (O.pys xs)
def O.pys : List O → List PyData
  | [] => []
  | x :: xs => x.py :: O.pys xs
end
mutual
def O.wd : O → Bool
  | .str s => SS.contains s | .lst xs => O.wds xs | .tup xs => O.wds xs | _ => false
def O.wds : List O → Bool
  | [] => true
  | x :: xs => x.wd && O.wds xs
end
mutual
theorem strip_wd : ∀ o : O, o.strip.wd = o.wd
  | .non => rfl | .bl _ => rfl | .int _ => rfl | .str _ => rfl | .dct => rfl
  | .lst xs => strips_wd xs
  | .tup xs => strips_wd xs
theorem strips_wd : ∀ xs : List O, O.wds (O.strips xs) = O.wds xs
  | [] => rfl
  | x :: xs => by show (x.strip.wd && O.wds (O.strips xs)) = (x.wd && O.wds xs); rw [strip_wd x, strips_wd xs]
end
mutual
theorem W.wd : ∀ w : W, w.o.wd = w.o.ss
  | .v s => rfl
  | .n s as => by show (SS.contains s && O.wds (W.os as)) = (SS.contains s && O.sss (W.os as)); rw [W.wds as]
theorem W.wds : ∀ ws : List W, O.wds (W.os ws) = O.sss (W.os ws)
  | [] => rfl
  | x :: xs => by show (x.o.wd && O.wds (W.os xs)) = (x.o.ss && O.sss (W.os xs)); rw [W.wd x, W.wds xs]
end
mutual
theorem strip_dp : ∀ o : O, o.strip.dp = o.dp
  | .non => rfl | .bl _ => rfl | .int _ => rfl | .str _ => rfl | .dct => rfl
  | .lst xs => by show O.dps (O.strips xs) + 1 = O.dps xs + 1; rw [strips_dp xs]
  | .tup xs => by show O.dps (O.strips xs) + 1 = O.dps xs + 1; rw [strips_dp xs]
theorem strips_dp : ∀ xs : List O, O.dps (O.strips xs) = O.dps xs
  | [] => rfl
  | x :: xs => by show max x.strip.dp (O.dps (O.strips xs)) = max x.dp (O.dps xs); rw [strip_dp x, strips_dp xs]
end
mutual
theorem W.odp : ∀ w : W, w.o.dp = w.dp
  | .v _ => rfl
  | .n _ as => by show max 0 (O.dps (W.os as)) + 1 = W.dps as + 1; rw [W.odps as]; omega
theorem W.odps : ∀ ws : List W, O.dps (W.os ws) = W.dps ws
  | [] => rfl
  | x :: xs => by show max x.o.dp (O.dps (W.os xs)) = max x.dp (W.dps xs); rw [W.odp x, W.odps xs]
end
theorem ss_cps : SS.all (fun s => s.cps.toList.all fun c => decide (c < 16 ^ 8)) = true := by decide +kernel
theorem ss_size : SS.all (fun s => decide (s.cps.size ≤ 8)) = true := by decide +kernel
theorem ss_of {p : Str → Bool} (h : SS.all p = true) {s : Str} (k : SS.contains s = true) : p s = true := List.all_eq_true.mp h s (List.contains_iff_mem.mp k)
section
variable {K : PySem.W.Frag} {H : Hp}
mutual
theorem OV.dp : ∀ {o : O} {v : V}, OV H v o → o.wd = true → Dp K H v o.py
  | .str s, v, h, k => by obtain rfl : v = .str s := h; exact .str s
  | .lst xs, v, h, k => by obtain ⟨a, vs, rfl, h1, h2⟩ := h; exact .lst (sq_of h1) (OVs.dp h2 k)
  | .tup xs, v, h, k => by obtain ⟨a, vs, rfl, h1, h2⟩ := h; exact .tup (st_of h1) (OVs.dp h2 k)
  | .non, _, _, k => nomatch k
  | .bl _, _, _, k => nomatch k
  | .int _, _, _, k => nomatch k
  | .dct, _, _, k => nomatch k
theorem OVs.dp : ∀ {os : List O} {vs : List V}, OVs H vs os → O.wds os = true → DpAll K H vs (O.pys os)
  | [], vs, h, k => by obtain rfl : vs = [] := h; exact .nil
  | x :: xs, vs, h, k => by
    obtain ⟨v, us, rfl, h1, h2⟩ := h
    have k : (x.wd && O.wds xs) = true := k
    rw [Bool.and_eq_true] at k
    exact .cons (OV.dp h1 k.1) (OVs.dp h2 k.2)
end
mutual
theorem O.py_nd : ∀ {o : O}, o.wd = true → o.py.hasDict = false ∧ o.py.showable = true ∧ o.py.leavesShort 8 = true ∧ o.py.weight + 1 ≤ 9 * o.sz ∧ o.py.depth ≤ o.dp
  | .str s, k => ⟨rfl, rfl, ss_of ss_cps k, by
      have := of_decide_eq_true (ss_of ss_size k)
      show s.cps.size + 1 ≤ 9 * 1
      omega, Nat.le_refl _⟩
  | .lst xs, k => by
    obtain ⟨a, b, c, d, e⟩ := O.pys_nd (xs := xs) k
    exact ⟨by simpa only [O.py, PyData.hasDict] using a, by simpa only [O.py, PyData.showable] using b, by simpa only [O.py, PyData.leavesShort] using c, by simp only [O.py, PyData.weight, O.sz]; omega, by simp only [O.py, PyData.depth, O.dp]; omega⟩
  | .tup xs, k => by
    obtain ⟨a, b, c, d, e⟩ := O.pys_nd (xs := xs) k
    exact ⟨by simpa only [O.py, PyData.hasDict] using a, by simpa only [O.py, PyData.showable] using b, by simpa only [O.py, PyData.leavesShort] using c, by simp only [O.py, PyData.weight, O.sz]; omega, by simp only [O.py, PyData.depth, O.dp]; omega⟩
  | .non, k => nomatch k
  | .bl _, k => nomatch k
  | .int _, k => nomatch k
  | .dct, k => nomatch k
theorem O.pys_nd : ∀ {xs : List O}, O.wds xs = true → PyData.hasDictAll (O.pys xs) = false ∧ PyData.showableAll (O.pys xs) = true ∧ PyData.leavesShortAll 8 (O.pys xs) = true ∧ PyData.weightAll (O.pys xs) ≤ 9 * O.szs xs ∧ PyData.depthAll (O.pys xs) ≤ O.dps xs
  | [], _ => ⟨rfl, rfl, rfl, Nat.zero_le _, Nat.zero_le _⟩
  | x :: xs, k => by
    have k : (x.wd && O.wds xs) = true := k
    rw [Bool.and_eq_true] at k
    obtain ⟨a1, b1, c1, d1, e1⟩ := O.py_nd (o := x) k.1
    obtain ⟨a, b, c, d, e⟩ := O.pys_nd (xs := xs) k.2
    have hs := x.sz_pos
    refine ⟨?_, ?_, ?_, ?_, ?_⟩
    · simp only [O.pys, PyData.hasDictAll, a1, a, Bool.or_false]
    · simp only [O.pys, PyData.showableAll, b1, b, Bool.and_true]
    · simp only [O.pys, PyData.leavesShortAll, c1, c, Bool.and_true]
    · simp only [O.pys, PyData.weightAll, O.szs]; omega
    · simp only [O.pys, PyData.depthAll, O.dps]; omega
end
abbrev tRpr (K : PySem.W.Frag) (te : TE) : TE := tCB (rRepr K) (tCons te tNil)
theorem ev_repr {σ : L2.St} {te : TE} {v : V} {z : W} {o : O} (h : Ev te σ H v) (ov : OV H v o) (e : o.strip = z.o) (hz : Dz z) : Ev (tRpr K te) σ H (.str o.py.shown) := fun H1 x Q q =>
  h H1 x _ fun H2 x2 => by
    have hw : o.wd = true := by rw [← strip_wd, e, W.wd]; exact hz.ss
    obtain ⟨a, b, c, d, e2⟩ := O.py_nd hw
    have hd : o.dp ≤ 12 := by rw [← strip_dp, e, W.odp]; exact Nat.le_of_lt hz.dp
    have hs : o.sz ≤ 800 := by
      have := sz_of_strip e
      have := W.sz_nd z
      have := hz.nd
      omega
    refine ⟨v, o.py, rfl, OV.dp (ov.ext (x.trans x2)) hw, a, b, by omega, PyData.shown_fits (B := 8) (by decide) (by decide) c (by omega), ?_, q H2 x2⟩
    cases o with
    | str s => exact .inr ⟨s, ov⟩
    | lst xs => obtain ⟨p, _, h, _⟩ := ov; exact .inl ⟨p, h⟩
    | tup xs => obtain ⟨p, _, h, _⟩ := ov; exact .inl ⟨p, h⟩
    | _ => cases hw
end
end K28

set_option Elab.async false
set_option linter.all false
set_option maxRecDepth 100000
set_option maxHeartbeats 4000000
/-! Substitutions, whatever stands for them. -/
namespace K28
open PySem PySem.Spec PyProof.Rows L2 Evl
theorem pe_or2 {X : Cx} {e : Expr} {t1 t2 : TE} (h1 : PE X e t1) (h2 : PE X e t2) : PE X e (fun σ H Q => t1 σ H Q ∨ t2 σ H Q) := ⟨fun pins s σ H Q I h => by
  rcases h with h | h
  · exact h1.run pins s σ H Q I h
  · exact h2.run pins s σ H Q I h⟩
section
variable {P : Program} {w : World} {K : PySem.W.Frag} {mg : Str → Option Value} {base : Heap}
/-! ### what is no text is no variable -/
def spN : Sp := fun vs H Q _ => ∃ v o, vs = [v] ∧ OV H v o ∧ o.isStr = false ∧ RetV (.bl false) H Q
theorem spN_len {vs : List V} {H : Hp} {Q : VK} {E : XK} (h : spN vs H Q E) : vs.length = 1 := by
  obtain ⟨v, o, rfl, _⟩ := h
  rfl
theorem spv_N {v : V} {o : O} {H : Hp} (h : OV H v o) (hs : o.isStr = false) : SpV spN ([v] ++ []) H (.bl false) := fun H1 e Q q E => ⟨v, o, rfl, h.ext e, hs, q⟩
theorem ok_is_spelledN (T : T28 P w K mg base) : Ok P w K mg base CX0 "is_spelled" ["thing"] 1 spN := by
  obtain ⟨tl, mLo⟩ := T.longest
  refine T.ok 4 rfl sc_spelled (fun vs H Q E h => spN_len h) (fun kV doc pm an cdv ct us hl => match us, hl with | [_], _ => rfl) (fun f cdv A outer s H vs Q E hr h => ?_)
  obtain ⟨v, o, rfl, hv, hs, k⟩ := h
  refine ⟨_, pss_one (ps_ret (pe_and (pe_isiB T.isi T.str PyProof.Rows.boot_str (pv 0)) (pe_and (pe_cmpR op_le (pe_callB call_len (by rfl) T.len PySem.boot_len (pa_cons (pv 0) pa_nil)) (pe_glob (v := .int 8) rfl mLo ⟨_, rfl⟩) (nomark _))
    (pe_and (pe_m0 PySem.F.slot_str_isalnum PySem.F.type_str_isalnum mt_isalnum (pv 0)) (pe_one (pe_m0 PySem.F.slot_str_isascii PySem.F.type_str_isascii mt_isascii (pv 0))))))), ?_⟩
  exact s_ret (ev_andV (a := false) (b := false) (ev_is (ev_isStr (ev_var rfl) hv) (by rw [hs])) fun z => nomatch z) k
theorem ok_is_variableN (T : T28 P w K mg base) : Ok P w K mg base CX0 "is_variable" ["thing"] 2 spN := by
  obtain ⟨tl, mLe⟩ := T.capitals
  obtain ⟨fS, dS, GS, bS, kS, mS⟩ := (ok_is_spelledN T).ex
  refine T.ok 6 rfl sc_var (fun vs H Q E h => spN_len h) (fun kV doc pm an cdv ct us hl => match us, hl with | [_], _ => rfl) (fun f cdv A outer s H vs Q E hr h => ?_)
  obtain ⟨v, o, rfl, hv, hs, k⟩ := h
  refine ⟨_, pss_one (ps_ret (pe_and (pe_call GS hr (by rfl) mS kS bS .nil pass0 (pa_cons (pv 0) pa_nil))
    (pe_and (pe_cmpR op_in_sign (pe_ix ix_str (pv 0) pe_int (fun _ _ => rfl)) (pe_glob (v := .str "ABCDEFGHIJKLMNOPQRSTUVWXYZ") rfl mLe ⟨_, rfl⟩) (by rfl))
    (pe_one (pe_or (pe_cmpR op_eq (pe_callB call_len (by rfl) T.len PySem.boot_len (pa_cons (pv 0) pa_nil)) pe_int (nomark _))
      (pe_one (pe_m0 PySem.F.slot_str_isdigit PySem.F.type_str_isdigit mt_isdigit (pe_slice sl_str (pv 0) (po_some pe_int) po_none)))))))), ?_⟩
  exact s_ret (ev_andV (a := false) (b := false) (ev_call (ea_cons (ev_var rfl) ea_nil) (spv_N hv hs)) fun z => nomatch z) k
/-! ### dicts as data -/
def kO : Key → O
  | .inl i => .int i
  | .inr s => .str s
theorem kO_ov {H : Hp} (k : Key) : OV H (kV k) (kO k) := by cases k <;> rfl
/-- the dict at d: its keys, its values -/
structure DD (H : Hp) (d : Addr) (ks : List (Key × O)) : Prop where
  ex : ∃ kvs, H d = some (.dK kvs) ∧ kvs.map (·.1) = ks.map (·.1) ∧ OVs H (kvs.map (·.2)) (ks.map (·.2))
  nd : (ks.map (·.1)).Nodup
theorem DD.ext {H G : Hp} {d : Addr} {ks : List (Key × O)} (h : DD H d ks) (e : Ex H G) : DD G d ks := by
  obtain ⟨kvs, a, b, c⟩ := h.ex
  exact ⟨⟨kvs, e _ _ a, b, c.ext e⟩, h.nd⟩
/-- a key and its value that may be asked about -/
def okP (p : Key × O) : Bool := ((kO p.1).ss && p.2.ss) && ((decide (p.2.sz ≤ 8000) && p.2.e3) && (!p.2.hasL && p.2.nod))
def varO : O → Bool
  | .str s => varB s
  | _ => false
def subB (ks : List (Key × O)) : Bool := ks.all fun p => varO (kO p.1) && p.2.fit
theorem valV_at {kvs : List (Key × V)} (nd : (kvs.map (·.1)).Nodup) : ∀ {i : Nat} {p : Key × V}, kvs[i]? = some p → valV kvs p.1 = some p.2 := by
  induction kvs with
  | nil => intro i p h; simp at h
  | cons a r ih =>
    intro i p h
    rw [List.map_cons, List.nodup_cons] at nd
    unfold valV
    rw [List.find?_cons]
    cases i with
    | zero =>
      obtain rfl : a = p := by simpa using h
      simp
    | succ i =>
      have hp : r[i]? = some p := by simpa using h
      have hne : a.1 ≠ p.1 := fun z => nd.1 (by rw [z]; exact List.mem_map.mpr ⟨p, List.mem_of_getElem? hp, rfl⟩)
      rw [decide_eq_false hne]
      exact ih nd.2 hp
theorem dd_at {H : Hp} {kvs : List (Key × V)} {ks : List (Key × O)} (e : kvs.map (·.1) = ks.map (·.1)) (h : OVs H (kvs.map (·.2)) (ks.map (·.2))) {i : Nat} {p : Key × V} (hp : kvs[i]? = some p) : ∃ q, ks[i]? = some q ∧ q.1 = p.1 ∧ OV H p.2 q.2 := by
  have h1 : (ks.map (·.1))[i]? = some p.1 := by rw [← e, List.getElem?_map, hp]; rfl
  rw [List.getElem?_map] at h1
  obtain ⟨q, hq, e1⟩ := Option.map_eq_some_iff.mp h1
  obtain ⟨o, ho, hov⟩ := h.get (i := i) (v := p.2) (by rw [List.getElem?_map, hp]; rfl)
  rw [List.getElem?_map, hq] at ho
  obtain rfl := Option.some.inj ho
  exact ⟨q, hq, e1, hov⟩
def spIs : Sp := fun vs H Q _ => ∃ v, vs = [v] ∧ ((∃ d ks, v = .ref d ∧ DD H d ks ∧ ks.all okP = true ∧ RetV (.bl (subB ks)) H Q) ∨ (∃ o, OV H v o ∧ o.isDct = false ∧ RetV (.bl false) H Q) ∨ ∃ d kvs, v = .ref d ∧ H d = some (.dT kvs) ∧ kvs ≠ [] ∧
  (∀ p ∈ kvs, ∃ (q : Addr), H q = some (.tup (p.1.map kV))) ∧ RetV (.bl false) H Q)
theorem sc_is : FnScope ["thing", "variable"] ["thing"] (defScope s_is_any_substitution) := ⟨rfl, rfl, rfl, by decide +kernel, rfl, by decide +kernel, by decide +kernel⟩
theorem ok_is_sub (T : T28 P w K mg base) : Ok P w K mg base CX0 "is_any_substitution" ["thing"] 7 spIs := by
  obtain ⟨fV, dV, GV, bV, kV', mV⟩ := (ok_is_variable T).ex
  obtain ⟨fN, dN, GN, bN, kN, mN⟩ := (ok_is_variableN T).ex
  obtain ⟨fW, dW, GW, bW, kW, mW⟩ := (ok_is_any_word T).ex
  refine T.ok 21 rfl sc_is (fun vs H Q E h => ?_) (fun kV doc pm an cdv ct us hl => match us, hl with | [_], _ => rfl) (fun f cdv A outer s H vs Q E hr h => ?_)
  · obtain ⟨v, rfl, _⟩ := h
    rfl
  obtain ⟨v, rfl, h⟩ := h
  refine ⟨_, pss_cons (ps_if (pt_not (pt_val (pe_isiB T.isi T.dict boot_dict23 (pv 0)))) (pss_one (ps_ret pe_bl)) pss_nil)
    (pss_cons (ps_lock (ps_for PassesOwn.never rfl (pi_keys (pv 0)) (pg_name (i := 1) sc_is.nd rfl (Or.inl rfl))
      (pss_one (ps_if (PW.pt (pw_or (pt_not (pt_val (pe_or2 (pe_call GV (hr.mono (by decide)) (by rfl) mV kV' bV .nil pass0 (pa_cons (pv 1) pa_nil)) (pe_call GN (hr.mono (by decide)) (by rfl) mN kN bN .nil pass0 (pa_cons (pv 1) pa_nil)))))
        (pw_or1 (pt_not (pt_val (pe_call GW hr (by rfl) mW kW bW .nil pass0 (pa_cons (pe_dget (hu_of hr) (pv 0) (pv 1) (fun _ _ => rfl)) pa_nil))))))) (pss_one (ps_ret pe_bl)) pss_nil))))
    (pss_one (ps_ret pe_bl))), ?_⟩
  rcases h with ⟨d, ks, rfl, hd, hok, k⟩ | ⟨o, ho, hdd, k⟩ | ⟨d, kvs, rfl, hd, hne, htup, k⟩
  · obtain ⟨kvs, h1, h2, h3⟩ := hd.ex
    have hnd : (kvs.map (·.1)).Nodup := by rw [h2]; exact hd.nd
    refine q_when (b := false) (et_not (a := true) (et_is (et_B (ev_isi (m := "dict") (ev_var rfl) (.base (.dK h1)) (by decide +kernel))) rfl)) (fun z => nomatch z) fun _ H1 e1 => ?_
    have h1' := e1 _ _ h1
    refine ⟨d, .dK kvs, h1', trivial, fun od => ⟨.ref d, rfl, d, od, rfl, .inl ⟨kvs, upd_same, ?_⟩⟩⟩
    have tx0 : Tx H (upd H1 d (.frz od (.dK kvs))) := fun a xs h => by
      rw [upd_ne (fun z => by rw [z, h1] at h; cases h)]
      exact e1 _ _ h
    refine for_it walk_keys (fun i σ' G => (∃ b : Option V, σ' = [some (.ref d), b]) ∧ Ex (upd H1 d (.frz od (.dK kvs))) G ∧ (ks.take i).all (fun p => varO (kO p.1) && p.2.fit) = true) ⟨⟨_, rfl⟩, Ex.refl _, rfl⟩ (fun i σ' G _ c => c.2.1 _ _ upd_same) ?_ ?_
    · rintro i x σ' G G' hi ⟨⟨b, rfl⟩, eG, hall⟩ ⟨rfl, kk, yv, hk, rfl⟩
      obtain ⟨q, hq, hq1, hov⟩ := dd_at h2 h3 hk
      have hokq := List.all_eq_true.mp hok q (List.mem_of_getElem? hq)
      unfold okP at hokq
      simp only [Bool.and_eq_true, Bool.not_eq_true', decide_eq_true_eq] at hokq
      obtain ⟨⟨o1, o2⟩, ⟨o3, o4⟩, o5, o6⟩ := hokq
      have hovG : OV G' yv q.2 := OV.tx (tx0.trans (Tx.of eG)) o5 o6 hov
      have hget : DGet G' d (kV kk) (some yv) := .inl ⟨kvs, kk, .inr ⟨od, eG _ _ upd_same⟩, rfl, (valV_at hnd hk).symm⟩
      have htest : EvT (tOr (tNot (tB (fun σ H Q => tCall (spS varB) [] E0 (tCons (tVar 1) tNil) σ H Q ∨ tCall spN [] E0 (tCons (tVar 1) tNil) σ H Q))) (tNot (tB (tCall (spF 0 O.fit) [] E0 (tCons (tDGet (tVar 0) (tVar 1)) tNil))))) [some (.ref d), some (kV kk)] G' (!varO (kO q.1) || !q.2.fit) := by
        refine et_or (et_not (et_B ?_)) fun _ => et_not (et_B ?_)
        · rw [hq1]
          cases kk with
          | inl n => exact fun H2 e2 Q2 q2 => .inr ⟨_, rfl, .int n, .int n, rfl, rfl, rfl, fun H3 e3 => q2 H3 e3⟩
          | inr sx =>
            have hss : SS.contains sx = true := by
              rw [hq1] at o1
              exact o1
            exact fun H2 e2 Q2 q2 => .inl ⟨_, rfl, sx, rfl, List.contains_iff_mem.mp hss, fun H3 e3 => q2 H3 e3⟩
        · exact fun H2 e2 Q2 q2 => ⟨.ref d, rfl, kV kk, rfl, d, yv, rfl, .inl ⟨kvs, kk, .inr ⟨od, e2 _ _ (eG _ _ upd_same)⟩, rfl, (valV_at hnd hk).symm⟩, yv, q.2, rfl, hovG.ext e2, o2, o3, o4, fun H3 e3 => q2 H3 e3⟩
      refine s_when htest (fun hb G2 e2 => ?_) fun hb G2 e2 => ?_
      · refine s_ret ev_c fun G3 e3 => ?_
        have hfr := e3 _ _ (e2 _ _ (eG _ _ upd_same))
        refine ⟨hfr, ?_⟩
        have : subB ks = false := by
          unfold subB
          rw [List.all_eq_false]
          refine ⟨q, List.mem_of_getElem? hq, ?_⟩
          revert hb
          cases varO (kO q.1) <;> cases q.2.fit <;> simp
        rw [this] at k
        refine k _ fun a o ha => ?_
        by_cases hda : a = d
        · rw [hda] at ha ⊢
          rw [h1] at ha
          cases ha
          exact upd_same
        · rw [upd_ne hda]
          refine e3 _ _ (e2 _ _ (eG _ _ ?_))
          rw [upd_ne hda]
          exact e1 _ _ ha
      · refine ⟨⟨_, rfl⟩, eG.trans e2, ?_⟩
        rw [take_snoc hq, List.all_append, hall, Bool.true_and]
        have hbb : (varO (kO q.1) && q.2.fit) = true := by
          revert hb
          cases varO (kO q.1) <;> cases q.2.fit <;> simp
        show ((varO (kO q.1) && q.2.fit) && true) = true
        rw [hbb]
        rfl
    · rintro σ' G ⟨⟨b, rfl⟩, eG, hall⟩
      refine ⟨eG _ _ upd_same, ?_⟩
      dsimp only
      refine s_ret ev_c fun G3 e3 => ?_
      have hlen : kvs.length = ks.length := by
        have := congrArg List.length h2
        simpa using this
      rw [hlen, List.take_length] at hall
      have : subB ks = true := hall
      rw [this] at k
      refine k _ fun a o ha => e3 _ _ ?_
      by_cases hda : a = d
      · rw [hda] at ha ⊢
        rw [h1] at ha
        cases ha
        exact upd_same
      · rw [upd_ne hda]
        refine eG _ _ ?_
        rw [upd_ne hda]
        exact e1 _ _ ha
  · exact q_when (b := true) (et_not (a := false) (et_is (et_B (ev_isDct (ev_var rfl) ho)) hdd)) (fun _ H1 e1 => s_ret ev_c fun G e => k G (e1.trans e)) fun z => nomatch z
  · have hty : TyX K H (.ref d) (.type "dict") := .base (.dT hd)
    refine q_when (b := false) (et_not (a := true) (et_is (et_B (ev_isi (m := "dict") (ev_var rfl) hty (by decide +kernel))) rfl)) (fun z => nomatch z) fun _ H1 e1 => ?_
    have h1' := e1 _ _ hd
    refine ⟨d, .dT kvs, h1', trivial, fun od => ⟨.ref d, rfl, d, od, rfl, .inr ⟨kvs, upd_same, ?_⟩⟩⟩
    refine for_it walk_keysT (fun i σ' G => (∃ b : Option V, σ' = [some (.ref d), b]) ∧ Ex (upd H1 d (.frz od (.dT kvs))) G ∧ i = 0) ⟨⟨_, rfl⟩, Ex.refl _, rfl⟩ (fun i σ' G _ c => c.2.1 _ _ upd_same) ?_ ?_
    · rintro i x σ' G G' hi ⟨⟨b, rfl⟩, eG, rfl⟩ ⟨rfl, kk, yv, qa, hk, rfl, hqa⟩
      have hkey : OV G' (.ref qa) (.tup (kk.map kO)) := ⟨qa, _, rfl, hqa, by
        have : ∀ l : List Key, OVs G' (l.map kV) (l.map kO) := by
          intro l
          induction l with
          | nil => rfl
          | cons a r ih => exact .cons (kO_ov a) ih
        exact this kk⟩
      refine s_when (b := true) (et_is (et_or (a := true) (b := true) (et_not (a := false) (et_B fun H2 e2 Q2 q2 => .inr ⟨_, rfl, .ref qa, .tup (kk.map kO), rfl, hkey.ext e2, rfl, fun H3 e3 => q2 H3 e3⟩)) fun z => nomatch z) rfl) (fun _ G2 e2 => ?_) fun z => nomatch z
      refine s_ret ev_c fun G3 e3 => ?_
      refine ⟨e3 _ _ (e2 _ _ (eG _ _ upd_same)), k _ fun a o ha => ?_⟩
      by_cases hda : a = d
      · rw [hda] at ha ⊢
        rw [hd] at ha
        cases ha
        exact upd_same
      · rw [upd_ne hda]
        refine e3 _ _ (e2 _ _ (eG _ _ ?_))
        rw [upd_ne hda]
        exact e1 _ _ ha
    · rintro σ' G ⟨_, _, h0⟩
      exact absurd (List.length_eq_zero_iff.mp h0) hne
end
end K28

set_option Elab.async false
set_option linter.all false
set_option maxRecDepth 100000
set_option maxHeartbeats 4000000
/-! Words put. -/
namespace K28
open PySem PySem.Spec PyProof.Rows L2 Evl
/-! ### words with words put for variables -/
mutual
def W.sub (f : Str → Option W) : W → W
  | .v s => (f s).getD (.v s)
  | .n s as => .n s (W.subs f as)
def W.subs (f : Str → Option W) : List W → List W
  | [] => []
  | x :: xs => x.sub f :: W.subs f xs
end
theorem subs_map (f : Str → Option W) : ∀ as : List W, W.subs f as = as.map (W.sub f)
  | [] => rfl
  | x :: xs => congrArg (x.sub f :: ·) (subs_map f xs)
/-- the word that a list of pairs has for a variable -/
def lk (ps : List (Str × W)) (s : Str) : Option W := (ps.find? fun p => decide (p.1 = s)).map (·.2)
def keyW (p : Str × W) : Key × O := (.inr p.1, p.2.o)
/-- the dict at d puts ps -/
def SubV (H : Hp) (d : Addr) (ps : List (Str × W)) : Prop := DD H d (ps.map keyW)
theorem SubV.ext {H G : Hp} {d : Addr} {ps : List (Str × W)} (h : SubV H d ps) (e : Ex H G) : SubV G d ps := DD.ext h e
theorem nodup_of {α β : Type} (f : α → β) : ∀ {l : List α}, (l.map f).Nodup → l.Nodup
  | [], _ => List.nodup_nil
  | a :: r, h => by
    rw [List.map_cons, List.nodup_cons] at h
    exact List.nodup_cons.mpr ⟨fun z => h.1 (List.mem_map.mpr ⟨a, z, rfl⟩), nodup_of f h.2⟩
theorem SubV.get {H : Hp} {d : Addr} {ps : List (Str × W)} (h : SubV H d ps) : ∃ kvs, H d = some (.dK kvs) ∧ kvs.length = ps.length ∧ kvs.map (·.1) = ps.map (fun p => (Sum.inr p.1 : Key)) ∧ (ps.map (·.1)).Nodup ∧
    (∀ s w, lk ps s = some w → ∃ v, valV kvs (Sum.inr s : Key) = some v ∧ WV H v w) ∧ (∀ s, lk ps s = none → valV kvs (Sum.inr s : Key) = none) := by
  obtain ⟨kvs, h1, h2, h3⟩ := h.ex
  have hk : kvs.map (·.1) = ps.map (fun p => (Sum.inr p.1 : Key)) := by
    rw [h2, List.map_map]
    rfl
  have hv : OVs H (kvs.map (·.2)) (ps.map fun p => p.2.o) := by
    rw [List.map_map] at h3
    exact h3
  refine ⟨kvs, h1, by simpa using congrArg List.length hk, hk, ?_, ?_, ?_⟩
  · have := h.nd
    rw [List.map_map] at this
    refine nodup_of (fun s => (Sum.inr s : Key)) ?_
    rw [List.map_map]
    exact this
  · clear h h1 h2 h3
    revert kvs
    induction ps with
    | nil => intro kvs hk hv s w e; cases e
    | cons p ps ih =>
      intro kvs hk hv s w e
      cases kvs with
      | nil => cases hk
      | cons a r =>
        have hk1 : a.1 = Sum.inr p.1 := (List.cons.inj hk).1
        obtain ⟨v, us, e1, e2, e3⟩ := hv
        obtain ⟨rfl, rfl⟩ := List.cons.inj e1
        unfold lk at e
        rw [List.find?_cons] at e
        unfold valV
        rw [List.find?_cons, hk1]
        by_cases hs : p.1 = s
        · rw [decide_eq_true hs] at e
          obtain rfl : p.2 = w := Option.some.inj e
          rw [decide_eq_true (by rw [hs])]
          exact ⟨a.2, rfl, e2⟩
        · rw [decide_eq_false hs] at e
          rw [decide_eq_false (fun z => hs (Sum.inr.inj z))]
          exact ih r (List.cons.inj hk).2 e3 s w e
  · clear h h1 h2 h3 hv
    revert kvs
    induction ps with
    | nil =>
      intro kvs hk s e
      cases kvs with
      | nil => rfl
      | cons a r => cases hk
    | cons p ps ih =>
      intro kvs hk s e
      cases kvs with
      | nil => cases hk
      | cons a r =>
        have hk1 : a.1 = Sum.inr p.1 := (List.cons.inj hk).1
        unfold lk at e
        rw [List.find?_cons] at e
        unfold valV
        rw [List.find?_cons, hk1]
        by_cases hs : p.1 = s
        · rw [decide_eq_true hs] at e
          cases e
        · rw [decide_eq_false hs] at e
          rw [decide_eq_false (fun z => hs (Sum.inr.inj z))]
          exact ih r (List.cons.inj hk).2 s e
section
variable {P : Program} {w : World} {K : PySem.W.Frag} {mg : Str → Option Value} {base : Heap}
def spEx (m : Nat) : Sp := fun vs H Q _ => ∃ (u : V) (d : Addr) (z : W) (ps : List (Str × W)), vs = [u, .ref d] ∧ WV H u z ∧ SubV H d ps ∧ z.dp < m ∧ m ≤ 40 ∧ z.sz ≤ 9000 ∧ ∀ (r : V) (G : Hp), Ex H G → WV G r (z.sub (lk ps)) → Q r G
abbrev nExc : List Str := ["word", "substitution", "told", "part"]
theorem sc_exc : FnScope nExc ["word", "substitution"] (defScope s_exchanged) := ⟨rfl, rfl, rfl, by decide +kernel, rfl, by decide +kernel, by decide +kernel⟩
theorem ok_exchanged (T : T28 P w K mg base) : ∀ m, Ok P w K mg base CX0 "exchanged" ["word", "substitution"] (m + 1) (spEx m)
  | 0 => T.ok 10 rfl sc_exc (fun vs H Q E h => by obtain ⟨u, d, z, ps, rfl, _⟩ := h; rfl) (fun kV doc pm an cdv ct us hl => match us, hl with | [_, _], _ => rfl) (fun f cdv A outer s H vs Q E hr h => by obtain ⟨u, d, z, ps, _, _, _, h0, _⟩ := h; exact absurd h0 (Nat.not_lt_zero _))
  | m + 1 => by
    obtain ⟨fR, dR, GR, bR, kR, mR⟩ := (ok_exchanged T m).ex
    refine T.ok 10 rfl sc_exc (fun vs H Q E h => ?_) (fun kV doc pm an cdv ct us hl => match us, hl with | [_, _], _ => rfl) (fun f cdv A outer s H vs Q E hr h => ?_)
    · obtain ⟨u, d, z, ps, rfl, _⟩ := h
      rfl
    · obtain ⟨u, d, z, ps, rfl, hw, hd, hz, hm, hs, k⟩ := h
      refine ⟨_, pss_cons (ps_if (pt_val (pe_isiB T.isi T.str PyProof.Rows.boot_str (pv 0))) (pss_one (ps_ret (pe_dget2 (hu_of hr) (pv 1) (pv 0) (pv 0) ⟨rfl, rfl, rfl, rfl⟩))) pss_nil)
        (pss_cons (ps_set (i := 2) sc_exc.nd rfl (Or.inl rfl) (pe_lst (pa_cons (pe_ix ix_tup (pv 0) pe_int (fun _ _ => rfl)) pa_nil)))
        (pss_cons (ps_for PassesOwn.never rfl (pi_tup (pe_slice sl_tup (pv 0) (po_some pe_int) po_none)) (pg_name (i := 3) sc_exc.nd rfl (Or.inl rfl))
          (pss_one (ps_expr (pe_bm PySem.F.plainAttrs_list PySem.F.slot_list_append PySem.F.type_list_append mt_append (pv 2) (pa_cons (pe_call GR hr (by rfl) mR kR bR .nil pass0 (pa_cons (pv 3) (pa_cons (pv 1) pa_nil))) pa_nil)))))
        (pss_one (ps_ret (pe_callTy call_tuple_of (by rfl) T.tuple PyProof.Rows.boot_tuple (pa_cons (pv 2) pa_nil)))))), ?_⟩
      obtain ⟨kvs, hk1, hk2, hk3, hk4, hk5, hk6⟩ := hd.get
      cases z with
      | v sv =>
        obtain rfl : u = .str sv := hw
        refine q_when (b := true) (et_B (ev_isStr (o := .str sv) (ev_var rfl) rfl)) (fun _ H1 e1 => ?_) fun z => nomatch z
        refine ⟨.ref d, rfl, d, rfl, .inl ⟨kvs, .inl (e1 _ _ hk1)⟩, .str sv, rfl, .str sv, rfl, valV kvs (Sum.inr sv : Key), .inl ⟨kvs, Sum.inr sv, .inl (e1 _ _ hk1), rfl, rfl⟩, k _ H1 e1 ?_⟩
        show WV H1 _ ((lk ps sv).getD (.v sv))
        cases hl : lk ps sv with
        | some x =>
          obtain ⟨v, hv, hwv⟩ := hk5 sv x hl
          rw [hv]
          exact hwv.ext e1
        | none =>
          rw [hk6 sv hl]
          rfl
      | n sn as =>
        obtain ⟨r, us, rfl, hr1, hu⟩ := hw.tup
        have hul := hu.length
        have hdp : W.dps as < m := by have : (W.n sn as).dp = W.dps as + 1 := rfl; omega
        have hsz : W.szs as + 2 ≤ 9000 := hs
        have hasl := W.len_szs as
        refine q_when (b := false) (et_B (ev_isStr (o := (W.n sn as).o) (ev_var rfl) hw)) (fun z => nomatch z) fun _ H1 e1 => ?_
        refine q_asgL (el_lst (ea_cons (ev_op (z := .str sn) (ev_var rfl) ev_c (rv_ixT (st_of (e1 _ _ hr1)) (atI_nat (j := 0) rfl))) ea_nil) (by show 1 ≤ 100000; decide)) fun p H2 hp e2 h2 => ?_
        have hp0 : H p = none := fresh_back e1 hp
        have e12 := e1.trans e2
        refine q_forNT (eu_tail (ev_var rfl) (st_of (e12 _ _ hr1))) (fun c i σ' H' => Ex H H' ∧ H' c = some (.tup us) ∧ (∃ a : Option V, σ' = [some (.ref r), some (.ref d), some (.ref p), a]) ∧ ∃ acc, H' p = some (.lst (.str sn :: acc)) ∧ acc.length = i ∧ WVs H' acc (W.subs (lk ps) (as.take i))) ?_ ?_ ?_ ?_
        · intro c H3 hc e3 h3
          exact ⟨e12.trans e3, h3, ⟨none, rfl⟩, [], e3 _ _ h2, rfl, rfl⟩
        · rintro c i σ' H' hi ⟨_, hc, _⟩
          exact st_of hc
        · rintro c i x σ' H' hx ⟨e3, hc, ⟨a, rfl⟩, acc, h3, hal, hacc⟩
          obtain ⟨y, hy, hwy⟩ := (hu.ext e3).getv hx
          have h1 := W.lt_dp hy
          have h2' := W.lt_sz hy
          have hil := (List.getElem?_eq_some_iff.mp hy).1
          refine ⟨.ref p, rfl, .inl ⟨rfl, _, sq_of h3⟩, x, rfl, .ref d, rfl, x, d, y, ps, rfl, hwy, hd.ext e3, by omega, by omega, by omega, fun r5 G5 e5 h5 => ?_⟩
          have hp5 := e5 _ _ h3
          have tx := Tx.lst (o := .lst (.str sn :: acc ++ [r5])) hp5
          refine ⟨p, .str sn :: acc, r5, rfl, rfl, hp5, sz_lt (by simp; omega), Ex.mut (e3.trans e5) hp0, tx _ _ (e5 _ _ hc), ⟨_, rfl⟩, acc ++ [r5], upd_same, by simp [hal], ?_⟩
          rw [take_snoc hy, subs_map, List.map_append, ← subs_map]
          unfold WVs
          rw [W.os_map, List.map_append, ← W.os_map]
          exact OVs.append (WVs.tx tx (WVs.ext e5 hacc)) (.cons (WV.tx tx h5) .nil)
        · rintro c σ' H' ⟨e3, hc, ⟨a, rfl⟩, acc, h3, hal, hacc⟩
          rw [hul, List.take_length] at hacc
          refine ⟨.ref p, rfl, p, _, rfl, .inl ⟨sq_of h3, fun pt hpt => ?_⟩⟩
          have x4 : Ex H' (upd H' pt (.tup (.str sn :: acc))) := Ex.new hpt
          exact k (.ref pt) _ (e3.trans x4) (WV.of upd_same (WVs.ext x4 hacc))
end
end K28

set_option Elab.async false
set_option linter.all false
set_option maxRecDepth 100000
set_option maxHeartbeats 4000000
/-! Substitutions frozen. -/
namespace K28
open PySem PySem.Spec PyProof.Rows L2 Evl
theorem strip_o : ∀ z : W, z.o.strip = z.o := by
  have key : ∀ n : Nat, ∀ z : W, z.sz ≤ n → z.o.strip = z.o := by
    intro n
    induction n with
    | zero => intro z h; cases z <;> simp [W.sz] at h
    | succ n ih =>
      intro z h
      cases z with
      | v s => rfl
      | n s as =>
        have hs : W.szs as + 2 ≤ n + 1 := h
        have : ∀ l : List W, W.szs l ≤ n → O.strips (W.os l) = W.os l := by
          intro l
          induction l with
          | nil => intro _; rfl
          | cons a r ih2 =>
            intro h
            have h : a.sz + W.szs r ≤ n := h
            show a.o.strip :: O.strips (W.os r) = a.o :: W.os r
            rw [ih a (by omega), ih2 (by omega)]
        show O.tup (.str s :: O.strips (W.os as)) = .tup (.str s :: W.os as)
        rw [this as (by omega)]
  exact fun z => key _ z (Nat.le_refl _)
theorem nodup_inr : ∀ {l : List Str}, l.Nodup → (l.map fun s => (Sum.inr s : Key)).Nodup
  | [], _ => List.nodup_nil
  | a :: r, h => by
    rw [List.nodup_cons] at h
    rw [List.map_cons, List.nodup_cons]
    refine ⟨fun z => ?_, nodup_inr h.2⟩
    obtain ⟨b, hb, e⟩ := List.mem_map.mp z
    obtain rfl := Sum.inr.inj e
    exact h.1 hb
theorem lk_self {ps : List (Str × W)} (nd : (ps.map (·.1)).Nodup) : ∀ p ∈ ps, lk ps p.1 = some p.2 := by
  induction ps with
  | nil => intro p h; cases h
  | cons a r ih =>
    intro p h
    rw [List.map_cons, List.nodup_cons] at nd
    unfold lk
    rw [List.find?_cons]
    rcases List.mem_cons.mp h with rfl | h
    · simp
    · have hne : a.1 ≠ p.1 := fun z => nd.1 (by rw [z]; exact List.mem_map.mpr ⟨p, h, rfl⟩)
      rw [decide_eq_false hne]
      exact ih nd.2 p h
def psOf (ps : List (Str × W)) (ys : List Str) : List (Str × W) := ys.map fun s => (s, (lk ps s).getD (.v s))
theorem psOf_self {ps : List (Str × W)} (nd : (ps.map (·.1)).Nodup) : psOf ps (ps.map (·.1)) = ps := by
  unfold psOf
  rw [List.map_map]
  have : ∀ p ∈ ps, ((fun s => (s, (lk ps s).getD (.v s))) ∘ (·.1)) p = p := fun p hp => by
    show (p.1, (lk ps p.1).getD (.v p.1)) = p
    rw [lk_self nd p hp]
    rfl
  exact (List.map_congr_left this).trans (List.map_id _)
theorem psOf_perm {ps : List (Str × W)} {ys : List Str} (nd : (ps.map (·.1)).Nodup) (h : ys.Perm (ps.map (·.1))) : (psOf ps ys).Perm ps := by
  have := h.map (fun s => (s, (lk ps s).getD (.v s)))
  have e : (ps.map (·.1)).map (fun s => (s, (lk ps s).getD (.v s))) = ps := psOf_self nd
  rw [e] at this
  exact this
theorem psOf_keys (ps : List (Str × W)) (ys : List Str) : (psOf ps ys).map (·.1) = ys := by
  unfold psOf
  rw [List.map_map]
  exact List.map_id _
theorem valV_no {kvs : List (Key × V)} {k : Key} (h : k ∉ kvs.map (·.1)) : valV kvs k = none := by
  unfold valV
  rw [List.find?_eq_none.mpr fun p hp z => h (List.mem_map.mpr ⟨p, hp, of_decide_eq_true z⟩)]
  rfl
theorem not_take_mem {ys : List Str} (nd : ys.Nodup) : ∀ {i : Nat} {y : Str}, ys[i]? = some y → y ∈ ys.take i → False := by
  induction ys with
  | nil => intro i y h; simp at h
  | cons a r ih =>
    intro i y h hm
    rw [List.nodup_cons] at nd
    cases i with
    | zero => simp at hm
    | succ i =>
      have hr : r[i]? = some y := by simpa using h
      rw [List.take_succ_cons] at hm
      rcases List.mem_cons.mp hm with rfl | hm
      · exact nd.1 (List.mem_of_getElem? hr)
      · exact ih nd.2 hr hm
section
variable {P : Program} {w : World} {K : PySem.W.Frag} {mg : Str → Option Value} {base : Heap}
def spFs : Sp := fun vs H Q _ => ∃ (d : Addr) (ps : List (Str × W)), vs = [.ref d] ∧ SubV H d ps ∧ ps.length < 64 ∧ (∀ p ∈ ps, p.2.sz ≤ 9000) ∧ ∀ (pd : Addr) (G : Hp) (ys : List Str), H pd = none → Ex H G → ys.Perm (ps.map (·.1)) → sortedS ys = true → SubV G pd (psOf ps ys) → Q (.ref pd) G
theorem sc_fs : FnScope ["substitution", "variable"] ["substitution"] (defScope s_frozen_substitution) := ⟨rfl, rfl, rfl, by decide +kernel, rfl, by decide +kernel, by decide +kernel⟩
theorem ok_frozen_sub (T : T28 P w K mg base) : Ok P w K mg base CX0 "frozen_substitution" ["substitution"] 3 spFs := by
  obtain ⟨fF, dF, GF, bF, kF, mF⟩ := (ok_frozen T).ex
  refine T.ok 11 rfl sc_fs (fun vs H Q E h => ?_) (fun kV doc pm an cdv ct us hl => match us, hl with | [_], _ => rfl) (fun f cdv A outer s H vs Q E hr h => ?_)
  · obtain ⟨d, ps, rfl, _⟩ := h
    rfl
  obtain ⟨d, ps, rfl, hd, hl, hsz, k⟩ := h
  refine ⟨_, pss_one (ps_ret (pe_dc (own := [("variable", 1)]) (g := gName 1) (tt := tYes) (tk := tVar 1) (tv := tCall spFz [] E0 (tCons (tDGet (tVar 0) (tVar 1)) tNil)) rfl sc_fs.nd (pi_list (pe_callB (call_sortedD rfl) (by rfl) T.sorted (by decide +kernel) (pa_cons (pv 0) pa_nil))) (blkOk_by (N := ["substitution", "variable"]) (sc := defScope s_frozen_substitution) (by decide +kernel))
    (fun _ _ _ _ _ => pg_name (i := 1) sc_fs.nd rfl (Or.inl rfl)) (fun _ _ _ _ _ => pts_nil) (fun _ _ _ _ _ => pv 1) (fun _ _ _ _ _ => pe_call GF hr (by rfl) mF kF bF .nil pass0 (pa_cons (pe_dget (hu_of hr) (pv 0) (pv 1) (fun _ _ => rfl)) pa_nil)))), ?_⟩
  obtain ⟨kvs, hk1, hk2, hk3, hk4, hk5, hk6⟩ := hd.get
  refine ⟨.ref d, rfl, d, kvs, ps.map (·.1), rfl, .inl hk1, by rw [hk3, List.map_map]; rfl, by simpa using hl, fun ys p hperm hsort np => ?_⟩
  have x1 : Ex H (upd H p (.lst (ys.map V.str))) := Ex.new np
  have hyn : ys.Nodup := hperm.nodup_iff.mpr hk4
  refine ⟨p, rfl, ⟨_, sq_of upd_same⟩, fun Dl hD => ?_⟩
  have hp2 : (upd H p (.lst (ys.map V.str))) p = some (.lst (ys.map V.str)) := upd_same
  generalize upd H p (.lst (ys.map V.str)) = H2 at x1 hD hp2
  have hDH : H Dl = none := fresh_back x1 hD
  refine dc_it (walk_list (K := K) (a := p) (xs := ys.map V.str)) (fun i G => Ex H2 G ∧ ∃ kv, G Dl = some (.dK kv) ∧ kv.map (·.1) = (ys.take i).map (fun s => (Sum.inr s : Key)) ∧ OVs G (kv.map (·.2)) ((psOf ps (ys.take i)).map fun q => q.2.o)) ⟨Ex.new hD, [], upd_same, by simp, by simp [psOf]; rfl⟩ (fun i G _ c => sq_of (c.1 _ _ hp2)) ?_ ?_
  · rintro i x G G' hi ⟨eG, kv, hkv, hkk, hvv⟩ ⟨rfl, hx⟩
    obtain ⟨y, hy, rfl⟩ := sVs_get (xs := ys) hx
    have hyk : y ∈ ps.map (·.1) := hperm.mem_iff.mp (List.mem_of_getElem? hy)
    obtain ⟨pr, hpr, rfl⟩ := List.mem_map.mp hyk
    have hlk := lk_self hk4 pr hpr
    obtain ⟨v, hv, hwv⟩ := hk5 _ _ hlk
    have eHG := x1.trans eG
    have hil := (List.getElem?_eq_some_iff.mp hy).1
    have hkl : kv.length = i := by
      have := congrArg List.length hkk
      simp at this
      omega
    refine ⟨rfl, ?_⟩
    unfold tYes
    dsimp only
    rw [if_pos rfl]
    refine ⟨.str pr.1, rfl, .ref d, rfl, .str pr.1, rfl, d, v, rfl, .inl ⟨kvs, Sum.inr pr.1, .inl (eHG _ _ hk1), rfl, hv.symm⟩, v, pr.2.o, rfl, OV.ext eHG hwv, by rw [W.osz]; exact hsz pr hpr, W.nod pr.2, fun u G5 e5 hu => ?_⟩
    rw [strip_o] at hu
    have hkv5 := e5 _ _ hkv
    refine ⟨kv, Sum.inr pr.1, rfl, hkv5, sz_lt (by have := hperm.length_eq; simp at this; omega), Ex.mut (eG.trans e5) hD, kv ++ [(Sum.inr pr.1, u)], ?_, ?_, ?_⟩
    · rw [upd_same, putK_new (valV_no (by
        rw [hkk]
        intro z
        obtain ⟨s2, hs2, e⟩ := List.mem_map.mp z
        obtain rfl := Sum.inr.inj e
        exact not_take_mem hyn hy hs2))]
    · rw [List.map_append, hkk, take_snoc hy, List.map_append]
      rfl
    · have tx : Tx G5 (upd G5 Dl (.dK (kv ++ [(Sum.inr pr.1, u)]))) := Tx.dct hkv5
      rw [List.map_append, take_snoc hy]
      have e6 : psOf ps (ys.take i ++ [pr.1]) = psOf ps (ys.take i) ++ [(pr.1, pr.2)] := by
        unfold psOf
        rw [List.map_append]
        show _ ++ [(pr.1, (lk ps pr.1).getD (.v pr.1))] = _
        rw [hlk]
        rfl
      rw [e6, List.map_append]
      have h7 : OVs (upd G5 Dl (.dK (kv ++ [(Sum.inr pr.1, u)]))) (kv.map (·.2)) ((psOf ps (ys.take i)).map fun q => q.2.o) := by
        have h8 : WVs G5 (kv.map (·.2)) ((psOf ps (ys.take i)).map (·.2)) := by
          unfold WVs
          rw [W.os_map, List.map_map]
          exact hvv.ext e5
        have h9 := WVs.tx tx h8
        unfold WVs at h9
        rw [W.os_map, List.map_map] at h9
        exact h9
      have e10 : putK kv (Sum.inr pr.1) u = kv ++ [(Sum.inr pr.1, u)] := putK_new (valV_no (by
        rw [hkk]
        intro z
        obtain ⟨s2, hs2, e⟩ := List.mem_map.mp z
        obtain rfl := Sum.inr.inj e
        exact not_take_mem hyn hy hs2))
      rw [e10]
      exact OVs.append h7 (.cons (WV.tx (w := pr.2) tx hu) .nil)
  · rintro G ⟨eG, kv, hkv, hkk, hvv⟩
    have hyl : (ys.map V.str).length = ys.length := List.length_map _
    rw [hyl, List.take_length] at hkk hvv
    refine k Dl G ys hDH (x1.trans eG) hperm hsort ⟨⟨kv, hkv, ?_, ?_⟩, ?_⟩
    · rw [hkk, List.map_map]
      unfold psOf
      rw [List.map_map]
      rfl
    · rw [List.map_map]
      exact hvv
    · rw [List.map_map]
      unfold psOf
      rw [List.map_map]
      exact nodup_inr hyn
end
end K28

set_option Elab.async false
set_option linter.all false
set_option maxRecDepth 100000
set_option maxHeartbeats 4000000
/-! checked_substitution, put. -/
namespace K28
open PySem PySem.Spec PyProof.Rows L2 Evl
theorem lk_none {ps : List (Str × W)} {s : Str} (h : s ∉ ps.map (·.1)) : lk ps s = none := by
  unfold lk
  rw [List.find?_eq_none.mpr fun p hp z => h (List.mem_map.mpr ⟨p, hp, of_decide_eq_true z⟩)]
  rfl
theorem lk_psOf {ps : List (Str × W)} {ys : List Str} (nd : (ps.map (·.1)).Nodup) (hp : ys.Perm (ps.map (·.1))) : lk (psOf ps ys) = lk ps := by
  funext s
  have hyn : ys.Nodup := hp.nodup_iff.mpr nd
  by_cases hs : s ∈ ys
  · have h1 : (s, (lk ps s).getD (.v s)) ∈ psOf ps ys := List.mem_map.mpr ⟨s, hs, rfl⟩
    have h2 := lk_self (ps := psOf ps ys) (by rw [psOf_keys]; exact hyn) _ h1
    obtain ⟨p, hp2, rfl⟩ := List.mem_map.mp (hp.mem_iff.mp hs)
    have h3 := lk_self nd p hp2
    rw [h2, h3]
    rfl
  · rw [lk_none (by rw [psOf_keys]; exact hs), lk_none (fun z => hs (hp.mem_iff.mpr z))]
/-- a right substitution, not too great -/
structure SbOk (ps : List (Str × W)) : Prop where
  len : ps.length < 64
  key : ∀ p ∈ ps, SS.contains p.1 = true ∧ varB p.1 = true
  val : ∀ p ∈ ps, p.2.o.fit = true ∧ p.2.o.ss = true ∧ p.2.sz ≤ 8000
theorem SbOk.oks {ps : List (Str × W)} (h : SbOk ps) : (ps.map keyW).all okP = true := by
  rw [List.all_map]
  refine List.all_eq_true.mpr fun p hp => ?_
  obtain ⟨a, b⟩ := h.key p hp
  obtain ⟨c, d, e⟩ := h.val p hp
  show ((SS.contains p.1 && p.2.o.ss) && ((decide (p.2.o.sz ≤ 8000) && p.2.o.e3) && (!p.2.o.hasL && p.2.o.nod))) = true
  rw [a, d, W.osz, decide_eq_true e, W.e3, W.noL, W.nod]
  rfl
theorem SbOk.sub {ps : List (Str × W)} (h : SbOk ps) : subB (ps.map keyW) = true := by
  unfold subB
  rw [List.all_map]
  refine List.all_eq_true.mpr fun p hp => ?_
  obtain ⟨a, b⟩ := h.key p hp
  obtain ⟨c, d, e⟩ := h.val p hp
  show (varB p.1 && p.2.o.fit) = true
  rw [b, c]
  rfl
/-- v is no substitution -/
def NoS (H : Hp) (v : V) : Prop := (∃ d ks, v = .ref d ∧ DD H d ks ∧ ks.all okP = true ∧ subB ks = false) ∨ (∃ o, OV H v o ∧ o.isDct = false) ∨ ∃ d kvs, v = .ref d ∧ H d = some (.dT kvs) ∧ kvs ≠ [] ∧ (∀ p ∈ kvs, ∃ (q : Addr), H q = some (.tup (p.1.map kV)))
theorem NoS.ext {H G : Hp} {v : V} (h : NoS H v) (e : Ex H G) : NoS G v := by
  rcases h with ⟨d, ks, a, b, c⟩ | ⟨o, a, b⟩ | ⟨d, kvs, a, b, c, f⟩
  · exact .inl ⟨d, ks, a, b.ext e, c⟩
  · exact .inr (.inl ⟨o, a.ext e, b⟩)
  · exact .inr (.inr ⟨d, kvs, a, e _ _ b, c, fun p hp => by
      obtain ⟨q, hq⟩ := f p hp
      exact ⟨q, e _ _ hq⟩⟩)
section
variable {P : Program} {w : World} {K : PySem.W.Frag} {mg : Str → Option Value} {base : Heap}
def spCs (K : PySem.W.Frag) : Sp := fun vs H Q E => ∃ v, vs = [v] ∧ ((∃ d ps, v = .ref d ∧ SubV H d ps ∧ SbOk ps ∧ ∀ (pd : Addr) (G : Hp) (ys : List Str), H pd = none → Ex H G → ys.Perm (ps.map (·.1)) → sortedS ys = true → SubV G pd (psOf ps ys) → Q (.ref pd) G) ∨ (NoS H v ∧ Bad K "BadSubstitution" v H E))
theorem sc_cs : FnScope ["thing"] ["thing"] (defScope s_checked_substitution) := ⟨rfl, rfl, rfl, by decide +kernel, rfl, by decide +kernel, by decide +kernel⟩
theorem ok_checked_sub (T : T28 P w K mg base) : Ok P w K mg base (L2.CX P w) "checked_substitution" ["thing"] 9 (spCs K) := by
  obtain ⟨fI, dI, GI, bI, kI, mI⟩ := (ok_is_sub T).ex
  obtain ⟨fF, dF, GF, bF, kF, mF⟩ := (ok_frozen_sub T).ex
  refine T.okX 32 rfl sc_cs (fun vs H Q E h => ?_) (fun kV doc pm an cdv ct us hl => match us, hl with | [_], _ => rfl) (fun f cdv A outer s H vs Q E hr h => ?_)
  · obtain ⟨v, rfl, _⟩ := h
    rfl
  obtain ⟨v, rfl, h⟩ := h
  refine ⟨_, pss_cons (ps_if (pt_not (pt_val (pe_call GI (hr.mono (by decide)) (by rfl) mI kI bI .nil pass0 (pa_cons (pv 0) pa_nil)))) (pss_one (ps_raiseE rfl T.bs (takes_of rfl rfl rfl rfl) (hr.mono (by decide)) (pv 0))) pss_nil)
    (pss_one (ps_ret (pe_call GF (hr.mono (by decide)) (by rfl) mF kF bF .nil pass0 (pa_cons (pv 0) pa_nil)))), ?_⟩
  rcases h with ⟨d, ps, rfl, hd, ok, k⟩ | ⟨hn, k⟩
  · refine q_when (b := false) (et_not (a := true) (et_B (ev_call (ea_cons (ev_var rfl) ea_nil) fun H1 e Q q E => ⟨.ref d, rfl, .inl ⟨d, ps.map keyW, rfl, hd.ext e, ok.oks, fun G g => ?_⟩⟩))) (fun z => nomatch z) fun _ H1 e1 => ?_
    · rw [ok.sub]
      exact q G g
    · exact ⟨.ref d, rfl, d, ps, rfl, hd.ext e1, ok.len, fun p hp => by have := (ok.val p hp).2.2; omega, fun pd G ys np e hp hs hv => k pd G ys (fresh_back e1 np) (e1.trans e) hp hs hv⟩
  · refine q_when (b := true) (et_not (a := false) (et_B (ev_call (ea_cons (ev_var rfl) ea_nil) fun H1 e Q q E => ⟨v, rfl, ?_⟩))) (fun _ H1 e1 => s_raise T.bs (ev_var rfl) fun d G e hd => k d G (e1.trans e) hd) fun z => nomatch z
    rcases hn.ext e with ⟨d, ks, a, b, c, sb⟩ | ⟨o, a, b⟩ | ⟨d, kvs, a, b, c, f⟩
    · exact .inl ⟨d, ks, a, b, c, by rw [sb]; exact q⟩
    · exact .inr (.inl ⟨o, a, b, q⟩)
    · exact .inr (.inr ⟨d, kvs, a, b, c, f, q⟩)
def spPut (K : PySem.W.Frag) : Sp := fun vs H Q E => ∃ v x, vs = [v, x] ∧ ((NoW H v ∧ Bad K "BadWord" v H E) ∨ ∃ z, Lw H v z ∧ ((NoS H x ∧ Bad K "BadSubstitution" x H E) ∨ ∃ d ps, x = .ref d ∧ SubV H d ps ∧ SbOk ps ∧ ∀ (r : V) (G : Hp), Ex H G → WV G r (z.sub (lk ps)) → Q r G))
theorem sc_put : FnScope ["word", "substitution", "told"] ["word", "substitution"] (defScope s_put) := ⟨rfl, rfl, rfl, by decide +kernel, rfl, by decide +kernel, by decide +kernel⟩
theorem ok_put (T : T28 P w K mg base) : Ok P w K mg base (L2.CX P w) "put" ["word", "substitution"] 14 (spPut K) := by
  obtain ⟨fC, dC, GC, bC, kC, mC⟩ := (ok_checked_word T).ex
  obtain ⟨fS, dS, GS, bS, kS, mS⟩ := (ok_checked_sub T).ex
  obtain ⟨fX, dX, GX, bX, kX, mX⟩ := (ok_exchanged T 12).ex
  refine T.okX 33 rfl sc_put (fun vs H Q E h => ?_) (fun kV doc pm an cdv ct us hl => match us, hl with | [_, _], _ => rfl) (fun f cdv A outer s H vs Q E hr h => ?_)
  · obtain ⟨v, x, rfl, _⟩ := h
    rfl
  obtain ⟨v, x, rfl, h⟩ := h
  refine ⟨_, pss_cons (ps_set (i := 2) sc_put.nd rfl (Or.inl rfl) (pe_callS GC (hr.mono (by decide)) (by rfl) mC kC bC (fun σ => passAt (takes_of rfl rfl rfl rfl) σ) (pa_cons (pv 0) pa_nil)))
    (pss_one (ps_ret (pe_call GX hr (by rfl) mX kX bX .nil pass0 (pa_cons (pv 2) (pa_cons (pe_callS (sp := spCs K) GS (hr.mono (by decide)) (by rfl) mS kS bS (fun σ => passAt (takes_of rfl rfl rfl rfl) σ) (pa_cons (pv 1) pa_nil)) pa_nil))))), ?_⟩
  rcases h with ⟨hn, k⟩ | ⟨z, hw, ⟨hn, k⟩ | ⟨d, ps, rfl, hd, ok, k⟩⟩
  · exact cw_bad (ev_var rfl) hn k
  · refine cw_go (ev_var rfl) hw fun u G e hu => ?_
    exact ⟨u, rfl, x, rfl, x, rfl, .inr ⟨hn.ext e, k.mono e⟩⟩
  · refine cw_go (ev_var rfl) hw fun u G e hu => ?_
    refine ⟨u, rfl, .ref d, rfl, .ref d, rfl, .inl ⟨d, ps, rfl, hd.ext e, ok, fun pd G2 ys np e2 hp hs hv => ?_⟩⟩
    obtain ⟨_, _, _, _, hnd, _⟩ := hd.get
    have hsz := hw.sz
    refine ⟨u, pd, z, psOf ps ys, rfl, hu.ext e2, hv, hw.dp, by decide, by omega, fun r G3 e3 h3 => k r G3 ((e.trans e2).trans e3) ?_⟩
    rw [lk_psOf hnd hp] at h3
    exact h3
end
end K28

set_option Elab.async false
set_option linter.all false
set_option maxRecDepth 100000
set_option maxHeartbeats 4000000
/-! Words compared; a pattern held against a word. -/
namespace K28
open PySem PySem.Spec PyProof.Rows L2 Evl
mutual
def W.beq : W → W → Bool
  | .v s, .v t => s == t
  | .n s as, .n t bs => s == t && W.beqs as bs
  | .v _, .n _ _ => false
  | .n _ _, .v _ => false
def W.beqs : List W → List W → Bool
  | [], [] => true
  | x :: xs, y :: ys => x.beq y && W.beqs xs ys
  | [], _ :: _ => false
  | _ :: _, [] => false
end
mutual
theorem W.beq_eq : ∀ {z y : W}, z.beq y = true → z = y
  | .v s, .v t, h => by rw [show s = t from beq_iff_eq.mp h]
  | .n s as, .n t bs, h => by
    have h : (s == t && W.beqs as bs) = true := h
    rw [Bool.and_eq_true] at h
    rw [show s = t from beq_iff_eq.mp h.1, W.beqs_eq h.2]
  | .v _, .n _ _, h => nomatch h
  | .n _ _, .v _, h => nomatch h
theorem W.beqs_eq : ∀ {xs ys : List W}, W.beqs xs ys = true → xs = ys
  | [], [], _ => rfl
  | x :: xs, y :: ys, h => by
    have h : (x.beq y && W.beqs xs ys) = true := h
    rw [Bool.and_eq_true] at h
    rw [W.beq_eq h.1, W.beqs_eq h.2]
  | [], _ :: _, h => nomatch h
  | _ :: _, [], h => nomatch h
end
mutual
theorem W.beq_self : ∀ z : W, z.beq z = true
  | .v s => beq_self_eq_true s
  | .n s as => by
    show (s == s && W.beqs as as) = true
    rw [beq_self_eq_true, W.beqs_self as]
    rfl
theorem W.beqs_self : ∀ xs : List W, W.beqs xs xs = true
  | [] => rfl
  | x :: xs => by
    show (x.beq x && W.beqs xs xs) = true
    rw [W.beq_self x, W.beqs_self xs]
    rfl
end
mutual
theorem eqv_w : ∀ z y : W, PyData.eqv z.o.py y.o.py = z.beq y
  | .v s, .v t => by simp only [W.o, O.py, PyData.eqv, W.beq]
  | .n s as, .n t bs => by simp only [W.o, O.py, O.pys, PyData.eqv, PyData.eqvAll, W.beq, eqv_ws as bs]
  | .v _, .n _ _ => by simp only [W.o, O.py, PyData.eqv, W.beq]
  | .n _ _, .v _ => by simp only [W.o, O.py, PyData.eqv, W.beq]
theorem eqv_ws : ∀ xs ys : List W, PyData.eqvAll (O.pys (W.os xs)) (O.pys (W.os ys)) = W.beqs xs ys
  | [], [] => by simp only [W.os, O.pys, PyData.eqvAll, W.beqs]
  | x :: xs, y :: ys => by simp only [W.os, O.pys, PyData.eqvAll, W.beqs, eqv_w x y, eqv_ws xs ys]
  | [], _ :: _ => by simp only [W.os, O.pys, PyData.eqvAll, W.beqs]
  | _ :: _, [] => by simp only [W.os, O.pys, PyData.eqvAll, W.beqs]
end
theorem ss_lay : SS.all PyData.strOk = true := by decide +kernel
mutual
theorem W.lay : ∀ z : W, z.o.ss = true → z.o.py.canLay0 = true
  | .v s, h => by
    have h : SS.contains s = true := h
    simp only [W.o, O.py, PyData.canLay0]
    exact ss_of ss_lay h
  | .n s as, h => by
    have h : (SS.contains s && O.sss (W.os as)) = true := h
    rw [Bool.and_eq_true] at h
    simp only [W.o, O.py, O.pys, PyData.canLay0, PyData.canLayAll0, Bool.and_eq_true]
    exact ⟨ss_of ss_lay h.1, W.lays as h.2⟩
theorem W.lays : ∀ xs : List W, O.sss (W.os xs) = true → PyData.canLayAll0 (O.pys (W.os xs)) = true
  | [], _ => by simp only [W.os, O.pys, PyData.canLayAll0]
  | x :: xs, h => by
    have h : (x.o.ss && O.sss (W.os xs)) = true := h
    rw [Bool.and_eq_true] at h
    simp only [W.os, O.pys, PyData.canLayAll0, Bool.and_eq_true]
    exact ⟨W.lay x h.1, W.lays xs h.2⟩
end
mutual
theorem W.pdp : ∀ z : W, z.o.py.depth = z.dp
  | .v s => by simp [W.o, O.py, PyData.depth, W.dp]
  | .n s as => by
    have := W.pdps as
    simp [W.o, O.py, O.pys, PyData.depth, PyData.depthAll, W.dp, this]
theorem W.pdps : ∀ xs : List W, PyData.depthAll (O.pys (W.os xs)) = W.dps xs
  | [] => by simp [W.os, O.pys, PyData.depthAll, W.dps]
  | x :: xs => by
    have h1 := W.pdp x
    have h2 := W.pdps xs
    simp [W.os, O.pys, PyData.depthAll, W.dps, h1, h2]
end
section
variable {K : PySem.W.Frag} {H : Hp}
mutual
theorem WV.dpd : ∀ {z : W} {v : V}, WV H v z → Dp K H v z.o.py
  | .v s, v, h => by obtain rfl : v = .str s := h; exact .str s
  | .n s as, v, h => by
    obtain ⟨r, us, rfl, h1, h2⟩ := h.tup
    exact .tup (st_of h1) (.cons (.str s) (WVs.dpd h2))
theorem WVs.dpd : ∀ {zs : List W} {vs : List V}, WVs H vs zs → DpAll K H vs (O.pys (W.os zs))
  | [], vs, h => by obtain rfl : vs = [] := h; exact .nil
  | z :: zs, vs, h => by
    obtain ⟨v, us, rfl, h1, h2⟩ := h
    exact .cons (WV.dpd (z := z) h1) (WVs.dpd (zs := zs) h2)
end
theorem rv_neW {u v : V} {z y : W} (h1 : WV H u z) (h2 : WV H v y) (s1 : z.o.ss = true) (s2 : y.o.ss = true) (d1 : z.dp ≤ 60) (d2 : y.dp ≤ 60) : RV (rNeD K) u v H (.bl (!z.beq y)) := fun H1 e Q q =>
  ⟨z.o.py, y.o.py, WV.dpd (h1.ext e), WV.dpd (h2.ext e), by unfold SeqAt.shaped; rw [W.lay z s1, W.pdp z, decide_eq_true (by omega)]; rfl, by unfold SeqAt.shaped; rw [W.lay y s2, W.pdp y, decide_eq_true (by omega)]; rfl, by
    rw [eqv_w]
    exact q H1 (Ex.refl _)⟩
end
end K28

set_option Elab.async false
set_option linter.all false
set_option maxRecDepth 100000
set_option maxHeartbeats 4000000
/-! Rows judged. -/
namespace K28
open PySem PySem.Spec PyProof.Rows L2 Evl
def O.isWeight : O → Bool
  | .int i => decide (i ≥ 1) | _ => false
def O.items : O → List O
  | .lst xs => xs | .tup xs => xs | _ => []
def O.isPair (o : O) : Bool := (o.isLst || o.isTup) && decide (o.items.length = 2)
def O.h0 (o : O) : O := o.items.getD 0 .non
def O.h1 (o : O) : O := o.items.getD 1 .non
def O.txt : O → Str
  | .str s => s | _ => ""
def O.isName : O → Bool
  | .str s => nameB s | _ => false
/-- a row that is wrong where these names stood -/
def rowX (stood : List Str) (x : O) : Bool := !x.isPair || (!x.h0.isName || (stood.contains x.h0.txt || !x.h1.isWeight))
def badRow : List Str → Nat → List O → Option Nat
  | _, _, [] => none
  | st, i, x :: xs => if rowX st x then some i else badRow (st ++ [x.h0.txt]) (i + 1) xs
theorem badRow_cons {st : List Str} {i : Nat} {x : O} {xs : List O} : badRow st i (x :: xs) = if rowX st x then some i else badRow (st ++ [x.h0.txt]) (i + 1) xs := rfl
def badR (o : O) : Option Nat := if (o.isLst || o.isTup) = true then badRow [] 0 o.items else some 0
def natV : Option Nat → V
  | some i => .int (i : Nat) | none => .non
def rowsS (o : O) : Bool := O.sss o.items
section
variable {K : PySem.W.Frag} {σ : L2.St} {H G : Hp} {te ta tb tl : TE} {v : V} {D : Ends} {tu tz : TS}
/-- for i, x in enumerate(xs), xs a list or a tuple -/
abbrev iEnQ (K : PySem.W.Frag) (ta : TA) : TI := fun σ H R => iEnum K ta σ H R ∨ iEnumT K ta σ H R
theorem q_forEnumQ {b : Bool} {a : Addr} {xs : List V} {j1 j2 : Nat} (h : Ev tl σ H (.ref a)) (hx : SqB H b a xs) (Pv : Nat → L2.St → Hp → Prop) (h0 : ∀ H1, Ex H H1 → Pv 0 σ H1) (hl : ∀ i σ' H', i ≤ xs.length → Pv i σ' H' → SqB H' b a xs)
    (hs : ∀ (i : Nat) x σ' H' H2, xs[i]? = some x → Pv i σ' H' → Ex H' H2 → tu { D with nx := Pv (i + 1), ct := Pv (i + 1), bk := tz D } ((σ'.set j1 (some (.int i))).set j2 (some x)) H2) (hd : ∀ σ' H', Pv xs.length σ' H' → tz D σ' H') : tSeq (tFor (iEnQ K (tCons tl tNil)) (gPair K j1 j2) tu) tz D σ H := by
  cases b with
  | true => exact .inl (s_forEnum (D := { D with nx := tz D }) h (sq_of hx) Pv h0 (fun i σ' H' hi p => sq_of (hl i σ' H' hi p)) hs hd)
  | false => exact .inr (h H (Ex.refl H) _ fun H1 e => ⟨a, xs, rfl, ex_t e (st_of hx), for_it walk_enumT Pv (h0 H1 e) (fun i σ' H' hi p => st_of (hl i σ' H' hi p)) (fun i v σ' H' H2 hi p y => by
    obtain ⟨T, x, z, rfl, hT, rfl, e1, e2⟩ := y
    cases e1
    exact ⟨T, _, rfl, SqT.of upd_same, rfl, _, _, rfl, _, _, rfl, rfl, hs i z σ' H' _ e2 p (Ex.new hT)⟩) hd⟩)
end
theorem O.pair_of {o : O} (h : o.isPair = true) : ∃ b x y, o = O.seq b [x, y] := by
  unfold O.isPair at h
  obtain ⟨h1, h2⟩ := Bool.and_eq_true_iff.mp h
  have h2 := of_decide_eq_true h2
  cases o with
  | lst xs =>
    match xs, h2 with
    | [x, y], _ => exact ⟨true, x, y, rfl⟩
  | tup xs =>
    match xs, h2 with
    | [x, y], _ => exact ⟨false, x, y, rfl⟩
  | _ => cases h1
theorem O.items_seq (b : Bool) (xs : List O) : (O.seq b xs).items = xs := by cases b <;> rfl
theorem inV_strs {s : Str} {zs : List Str} : inV (.str s) (zs.map V.str) = zs.contains s := by
  unfold inV
  induction zs with
  | nil => rfl
  | cons z zs ih =>
    rw [List.map_cons, List.any_cons, ih, List.contains_cons]
    congr 1
    show decide (z = s) = (s == z)
    by_cases h : z = s
    · subst h; simp
    · rw [decide_eq_false h, beq_eq_false_iff_ne.mpr (fun q => h q.symm)]
theorem flat_sVs (zs : List Str) : (zs.map V.str).all flatV = true := by
  induction zs with
  | nil => rfl
  | cons z zs ih => exact ih
section
variable {P : Program} {w : World} {K : PySem.W.Frag} {mg : Str → Option Value} {base : Heap}
theorem ok_is_nameN (T : T28 P w K mg base) : Ok P w K mg base CX0 "is_name" ["thing"] 2 spN := by
  obtain ⟨tl, mLe⟩ := T.letters
  obtain ⟨es, nn, D⟩ := T.kd
  obtain ⟨fS, dS, GS, bS, kS, mS⟩ := (ok_is_spelledN T).ex
  refine T.ok 5 rfl sc_name (fun vs H Q E h => spN_len h) (fun kV doc pm an cdv ct us hl => match us, hl with | [_], _ => rfl) (fun f cdv A outer s H vs Q E hr h => ?_)
  obtain ⟨v, o, rfl, hv, hs, k⟩ := h
  refine ⟨_, pss_one (ps_ret (pe_and (pe_call GS hr (by rfl) mS kS bS .nil pass0 (pa_cons (pv 0) pa_nil)) (pe_and (pe_m0 PySem.F.slot_str_islower PySem.F.type_str_islower mt_islower (pv 0))
    (pe_and (pe_cmpR op_in_sign (pe_ix ix_str (pv 0) pe_int (fun _ _ => rfl)) (pe_glob (v := .str "abcdefghijklmnopqrstuvwxyz") rfl mLe ⟨_, rfl⟩) (by rfl))
    (pe_one (pe_cmpR (op_notIn_kd D) (pv 0) (pe_glob (v := .ref (He.ga K "KEPT")) rfl T.kept rfl) (by rfl))))))), ?_⟩
  exact s_ret (ev_andV (a := false) (b := false) (ev_call (ea_cons (ev_var rfl) ea_nil) (spv_N hv hs)) fun z => nomatch z) k
theorem sc_weight : FnScope ["thing"] ["thing"] (defScope s_is_weight) := ⟨rfl, rfl, rfl, by decide +kernel, rfl, by decide +kernel, by decide +kernel⟩
theorem ok_is_weight (T : T28 P w K mg base) : Ok P w K mg base CX0 "is_weight" ["thing"] 2 (spB O.isWeight) := by
  obtain ⟨fL, dL, GL, bL, kL, mL⟩ := (ok_is_integer T).ex
  refine T.ok 25 rfl sc_weight (fun vs H Q E h => spB_len h) (fun kV doc pm an cdv ct us hl => match us, hl with | [_], _ => rfl) (fun f cdv A outer s H vs Q E hr h => ?_)
  obtain ⟨v, o, rfl, ho, k⟩ := h
  refine ⟨_, pss_one (ps_ret (pe_and (pe_call GL hr (by rfl) mL kL bL .nil pass0 (pa_cons (pv 0) pa_nil)) (pe_one (pe_cmpR op_ge (pv 0) pe_int (nomark _))))), ?_⟩
  cases o with
  | int i =>
    obtain rfl : v = .int i := ho
    exact s_ret (ev_is (ev_andV (a := true) (ev_call (ea_cons (ev_var rfl) ea_nil) (spv_B (o := .int i) rfl)) fun _ => ev_op (ev_var rfl) ev_c rv_I0) rfl) k
  | _ => exact s_ret (ev_is (ev_andV (a := false) (b := false) (ev_call (ea_cons (ev_var rfl) ea_nil) (spv_B ho)) fun z => nomatch z) rfl) k
theorem sc_pair : FnScope ["thing"] ["thing"] (defScope s_is_pair) := ⟨rfl, rfl, rfl, by decide +kernel, rfl, by decide +kernel, by decide +kernel⟩
theorem ok_is_pair (T : T28 P w K mg base) : Ok P w K mg base CX0 "is_pair" ["thing"] 2 (spB O.isPair) := by
  obtain ⟨fL, dL, GL, bL, kL, mL⟩ := (ok_is_list T).ex
  refine T.ok 3 rfl sc_pair (fun vs H Q E h => spB_len h) (fun kV doc pm an cdv ct us hl => match us, hl with | [_], _ => rfl) (fun f cdv A outer s H vs Q E hr h => ?_)
  obtain ⟨v, o, rfl, ho, k⟩ := h
  refine ⟨_, pss_one (ps_ret (pe_and (pe_call GL hr (by rfl) mL kL bL .nil pass0 (pa_cons (pv 0) pa_nil)) (pe_one (pe_cmpR op_eq (pe_callB call_len (by rfl) T.len PySem.boot_len (pa_cons (pv 0) pa_nil)) pe_int (nomark _))))), ?_⟩
  cases hq : o.isLst || o.isTup with
  | false =>
    refine s_ret (ev_is (ev_andV (a := false) (b := false) (ev_is (ev_call (ea_cons (ev_var rfl) ea_nil) (spv_B ho)) (by rw [hq])) fun z => nomatch z) ?_) k
    unfold O.isPair
    rw [hq]
    rfl
  | true =>
    obtain ⟨b, xs, rfl⟩ := O.seq_of hq
    obtain ⟨a, us, rfl, ha, hov⟩ := ho.seq
    have hsq : SqB H b a us := ha
    refine s_ret (ev_is (ev_andV (a := true) (ev_is (ev_call (ea_cons (ev_var rfl) ea_nil) (spv_B ho)) (by rw [hq])) fun _ => ev_op (ev_lenQ (ev_var rfl) hsq) ev_c (rv_eq rfl)) ?_) k
    unfold O.isPair
    rw [hq, Bool.true_and, Bool.true_and, O.items_seq, hov.length]
    congr 1
    by_cases h : xs.length = 2
    · rw [decide_eq_true h, h]
      rfl
    · rw [decide_eq_false h]
      exact decide_eq_false fun q => h (by have := V.int.inj q; omega)
def spBad (K : PySem.W.Frag) (mg : Str → Option Value) : Sp := fun vs H Q _ => ∃ (v : V) (o : O) (b fw : Addr), vs = [v, .ref b, .ref fw] ∧ OV H v o ∧ rowsS o = true ∧ o.items.length ≤ 100 ∧ mg "is_weight" = some (.ref fw) ∧ H b = some (.lst []) ∧ RetV (natV (badR o)) H Q
abbrev nBad : List Str := ["things", "barred", "is_right", "stood", "index", "thing"]
theorem sc_bad : FnScope nBad ["things", "barred", "is_right"] (defScope s_bad_pair) := ⟨rfl, rfl, rfl, by decide +kernel, rfl, by decide +kernel, by decide +kernel⟩
theorem ok_bad_pair (T : T28 P w K mg base) : Ok P w K mg base CX0 "bad_pair" ["things", "barred", "is_right"] 4 (spBad K mg) := by
  obtain ⟨fL, dL, GL, bL, kL, mL⟩ := (ok_is_list T).ex
  obtain ⟨fP, dP, GP, bP, kP, mP⟩ := (ok_is_pair T).ex
  obtain ⟨fN, dN, GN, bN, kN, mN⟩ := (ok_is_name T).ex
  obtain ⟨fM, dM, GM, bM, kM, mM⟩ := (ok_is_nameN T).ex
  obtain ⟨fW, dW, GW, bW, kW, mW⟩ := (ok_is_weight T).ex
  refine T.ok 7 rfl sc_bad (fun vs H Q E h => ?_) (fun kV doc pm an cdv ct us hl => match us, hl with | [_, _, _], _ => rfl) (fun f cdv A outer s H vs Q E hr h => ?_)
  · obtain ⟨v, o, b, fw, rfl, _⟩ := h
    rfl
  · obtain ⟨v, o, bb, fw, rfl, ho, hss, hlen, hm, hb, k⟩ := h
    obtain rfl : fw = fW := Value.ref.inj (Option.some.inj (hm.symm.trans mW))
    refine ⟨_, pss_cons (ps_if (pt_not (pt_val (pe_call GL (hr.mono (by decide)) (by rfl) mL kL bL .nil pass0 (pa_cons (pv 0) pa_nil)))) (pss_one (ps_ret pe_int)) pss_nil)
      (pss_cons (ps_set (i := 3) sc_bad.nd rfl (Or.inl rfl) (pe_callTy call_list_of (by rfl) T.list PyProof.Rows.boot_list (pa_cons (pv 1) pa_nil)))
      (pss_cons (ps_for PassesOwn.never rfl (pi_or (pi_enum (by rfl) T.enumerate (pa_cons (pv 0) pa_nil)) (pi_enumT (by rfl) T.enumerate (pa_cons (pv 0) pa_nil))) (pg_tup rfl (pgs_cons (pg_name (i := 4) sc_bad.nd rfl (Or.inl rfl)) (pgs_cons (pg_name (i := 5) sc_bad.nd rfl (Or.inl rfl)) pgs_nil)))
        (pss_cons (ps_if (PW.pt (pw_or (pt_not (pt_val (pe_call GP (hr.mono (by decide)) (by rfl) mP kP bP .nil pass0 (pa_cons (pv 5) pa_nil))))
          (pw_or (pt_not (pt_val (pe_or2 (pe_call GN (hr.mono (by decide)) (by rfl) mN kN bN .nil pass0 (pa_cons (pe_ix ix_seq (pv 5) pe_int (fun _ _ => rfl)) pa_nil)) (pe_call GM (hr.mono (by decide)) (by rfl) mM kM bM .nil pass0 (pa_cons (pe_ix ix_seq (pv 5) pe_int (fun _ _ => rfl)) pa_nil)))))
          (pw_or (pt_cmpR op_in_seq (pe_ix ix_seq (pv 5) pe_int (fun _ _ => rfl)) (pv 3) (by rfl))
          (pw_or1 (pt_not (pt_val (pe_callL (i := 2) GW (hr.mono (by decide)) rfl (Or.inl rfl) kW bW .nil pass0 (pa_cons (pe_ix ix_seq (pv 5) pe_int (fun _ _ => rfl)) pa_nil))))))))) (pss_one (ps_ret (pv 4))) pss_nil)
        (pss_one (ps_expr (pe_bm PySem.F.plainAttrs_list PySem.F.slot_list_append PySem.F.type_list_append mt_append (pv 3) (pa_cons (pe_ix ix_seq (pv 5) pe_int (fun _ _ => rfl)) pa_nil))))))
      (pss_one (ps_ret pe_non)))), ?_⟩
    cases hq : o.isLst || o.isTup with
    | false =>
      refine q_when (b := true) (et_is (et_not (et_B (ev_call (ea_cons (ev_var rfl) ea_nil) (spv_B ho)))) (by rw [hq]; rfl)) (fun _ H1 e1 => ?_) fun z => nomatch z
      refine s_ret (ev_is ev_c ?_) fun H2 e2 => k H2 (e1.trans e2)
      unfold badR
      rw [hq]
      rfl
    | true =>
      obtain ⟨b, xs, rfl⟩ := O.seq_of hq
      obtain ⟨a, us, rfl, ha, hov⟩ := ho.seq
      have hsq : SqB H b a us := ha
      have hbad : badR (O.seq b xs) = badRow [] 0 xs := by
        unfold badR
        rw [hq, if_pos rfl, O.items_seq]
      rw [hbad] at k
      have hss : O.sss xs = true := by
        unfold rowsS at hss
        rw [O.items_seq] at hss
        exact hss
      rw [O.items_seq] at hlen
      refine q_when (b := false) (et_is (et_not (et_B (ev_call (ea_cons (ev_var rfl) ea_nil) (spv_B ho)))) (by rw [hq]; rfl)) (fun z => nomatch z) fun _ H1 e1 => ?_
      refine q_asgL (el_list (ev_var rfl) (sq_of (e1 _ _ hb))) fun p H2 hp e2 h2 => ?_
      have hp0 : H p = none := fresh_back e1 hp
      refine q_forEnumQ (xs := us) (ev_var rfl) (hsq.ext (e1.trans e2)) (fun i σ' H' => ∃ (u v : Option V) (st : List Str), σ' = [some (.ref a), some (.ref bb), some (.ref fw), some (.ref p), u, v] ∧ Ex H H' ∧ H' p = some (.lst (st.map V.str)) ∧ st.length = i ∧ badRow st i (xs.drop i) = badRow [] 0 xs) ?_ ?_ ?_ ?_
      · intro H3 e3
        exact ⟨none, none, [], rfl, (e1.trans e2).trans e3, e3 _ _ h2, rfl, rfl⟩
      · rintro i σ' H' hi ⟨u, v, st, rfl, e, _⟩
        exact hsq.ext e
      · rintro i y σ' H' H3 hy ⟨u, v, st, rfl, e, hp3, hst, hbr⟩ e3
        obtain ⟨x, hx, hov⟩ := hov.get hy
        have hov := hov.ext (e.trans e3)
        have hil := (List.getElem?_eq_some_iff.mp hx).1
        have hdrop : xs.drop i = x :: xs.drop (i + 1) := by
          rw [List.drop_eq_getElem_cons hil]
          congr 1
          exact (List.getElem?_eq_some_iff.mp hx).2
        rw [hdrop, badRow_cons] at hbr
        have hxs : x.ss = true := by
          have key : ∀ (zs : List O), O.sss zs = true → ∀ z ∈ zs, z.ss = true := by
            intro zs
            induction zs with
            | nil => intro _ z hz; cases hz
            | cons a r ih =>
              intro h z hz
              obtain ⟨h1, h2⟩ := Bool.and_eq_true_iff.mp h
              rcases List.mem_cons.mp hz with rfl | hz
              · exact h1
              · exact ih h2 z hz
          exact key xs hss x (List.mem_of_getElem? hx)
        have hp4 := e3 _ _ hp3
        have parts : x.isPair = true → ∃ b2 a2 v1 v2, y = .ref a2 ∧ SqB H3 b2 a2 [v1, v2] ∧ OV H3 v1 x.h0 ∧ OV H3 v2 x.h1 ∧ x.h0.ss = true := fun hpr => by
          obtain ⟨b2, x1, x2, rfl⟩ := O.pair_of hpr
          obtain ⟨a2, ws, rfl, h2, v1, ws1, rfl, o1, v2, ws2, rfl, o2, h0⟩ := hov.seq
          obtain rfl : ws2 = [] := h0
          have e0 : (O.seq b2 [x1, x2]).h0 = x1 := by unfold O.h0; rw [O.items_seq]; rfl
          have e1 : (O.seq b2 [x1, x2]).h1 = x2 := by unfold O.h1; rw [O.items_seq]; rfl
          rw [e0, e1]
          rw [seq_ss] at hxs
          exact ⟨b2, a2, v1, v2, rfl, h2, o1, o2, (Bool.and_eq_true_iff.mp hxs).1⟩
        refine q_when (b := rowX st x) (et_or (et_not (et_B (ev_call (ea_cons (ev_var rfl) ea_nil) (spv_B hov)))) fun hpr => ?_) (fun hbx H4 e4 => ?_) fun hbx H4 e4 => ?_
        · obtain ⟨b2, a2, v1, v2, rfl, h2, o1, o2, s1⟩ := parts (by simpa using hpr)
          have ix0 : ∀ {G : Hp}, Ex H3 G → Ev (tOp (rIxQ K) (tVar 5) (tC (.int 0))) [some (.ref a), some (.ref bb), some (.ref fw), some (.ref p), some (.int (i : Nat)), some (.ref a2)] G v1 := fun e => ev_op (ev_var rfl) ev_c (rv_ixQ (h2.ext e) (atI_nat (j := 0) rfl))
          have ix1 : ∀ {G : Hp}, Ex H3 G → Ev (tOp (rIxQ K) (tVar 5) (tC (.int 1))) [some (.ref a), some (.ref bb), some (.ref fw), some (.ref p), some (.int (i : Nat)), some (.ref a2)] G v2 := fun e => ev_op (ev_var rfl) ev_c (rv_ixQ (h2.ext e) (atI_nat (j := 1) rfl))
          refine et_or (et_not (et_B (?_ : Ev _ _ _ (.bl x.h0.isName)))) fun hnm => ?_
          · cases h0 : x.h0 with
            | str s =>
              rw [h0] at o1 s1
              obtain rfl : v1 = .str s := o1
              exact fun H1 e Q q => .inl (ev_call (ea_cons (ix0 (Ex.refl _)) ea_nil) (spv_S (str_ss s1)) H1 e Q q)
            | _ =>
              rw [h0] at o1
              exact fun H1 e Q q => .inr (ev_call (ea_cons (ix0 (Ex.refl _)) ea_nil) (spv_N o1 rfl) H1 e Q q)
          · obtain ⟨s, h0⟩ : ∃ s, x.h0 = .str s := by
              cases h0 : x.h0 with
              | str s => exact ⟨s, rfl⟩
              | _ => rw [h0] at hnm; cases hnm
            rw [h0] at o1
            obtain rfl : v1 = .str s := o1
            refine et_or (et_is (et_test (ev_op (ix0 (Ex.refl _)) (ev_var rfl) (rv_isL (sq_of hp4) rfl (flat_sVs _)))) ?_) fun _ => et_not (et_B (ev_callL rfl (ea_cons (ix1 (Ex.refl _)) ea_nil) (spv_B o2)))
            rw [inV_strs, h0]
            rfl
        · rw [if_pos hbx] at hbr
          rw [← hbr] at k
          exact s_ret (ev_var rfl) fun H5 e5 => k H5 (((e.trans e3).trans e4).trans e5)
        · rw [if_neg (by rw [hbx]; decide)] at hbr
          have hpr : x.isPair = true := by
            unfold rowX at hbx
            cases h : x.isPair with
            | true => rfl
            | false => rw [h] at hbx; cases hbx
          have hnm : x.h0.isName = true := by
            unfold rowX at hbx
            rw [hpr] at hbx
            cases h : x.h0.isName with
            | true => rfl
            | false => rw [h] at hbx; cases hbx
          obtain ⟨b2, a2, v1, v2, rfl, h2, o1, o2, s1⟩ := parts hpr
          obtain ⟨s, h0⟩ : ∃ s, x.h0 = .str s := by
            cases h0 : x.h0 with
            | str s => exact ⟨s, rfl⟩
            | _ => rw [h0] at hnm; cases hnm
          rw [h0] at o1
          obtain rfl : v1 = .str s := o1
          refine s_app (e4 _ _ hp4) (ev_var rfl) (ev_op (ev_var rfl) ev_c (rv_ixQ (h2.ext e4) (atI_nat (j := 0) rfl))) (by rw [List.length_map]; omega) fun H5 e5 => ?_
          refine ⟨_, _, st ++ [s], rfl, Ex.mut (((e.trans e3).trans e4).trans e5) hp0, ?_, by rw [List.length_append, hst]; rfl, ?_⟩
          · rw [upd_same, List.map_append]
            rfl
          · rw [h0] at hbr
            exact hbr
      · rintro σ' H' ⟨u, v, st, rfl, e, _, _, hbr⟩
        rw [hov.length, List.drop_length] at hbr
        have hbr : badRow [] 0 xs = none := hbr.symm
        rw [hbr] at k
        exact s_ret ev_c fun H4 e4 => k H4 (e.trans e4)
end
end K28

set_option Elab.async false
set_option linter.all false
set_option maxRecDepth 100000
set_option maxHeartbeats 4000000
/-! An order is made. -/
namespace K28
open PySem PySem.Spec PyProof.Rows L2 Evl
def wOf : List (Str × Int) → Str → Int
  | [], _ => 0
  | r :: rs, x => if r.1 = x then r.2 else wOf rs x
def rk : List (Str × Int) → Str → Nat
  | [], _ => 0
  | r :: rs, x => if r.1 = x then 0 else rk rs x + 1
def wkv (rs : List (Str × Int)) : List (Key × V) := rs.map fun r => (Sum.inr r.1, V.int r.2)
def rkv : Nat → List (Str × Int) → List (Key × V)
  | _, [] => []
  | j, r :: rs => (Sum.inr r.1, V.int (j : Int)) :: rkv (j + 1) rs
theorem valV_cons {κ : Type} [DecidableEq κ] (k k' : κ) (v : V) (kvs : List (κ × V)) : valV ((k', v) :: kvs) k = if k' = k then some v else valV kvs k := by
  unfold valV
  rw [List.find?_cons]
  by_cases h : k' = k
  · simp [h]
  · simp [h]
theorem key_r {x y : Str} : ((Sum.inr x : Key) = Sum.inr y) = (x = y) := by simp
theorem val_w {x : Str} : ∀ {rs : List (Str × Int)}, x ∈ rs.map (·.1) → valV (wkv rs) (Sum.inr x : Key) = some (.int (wOf rs x))
  | [], h => by simp at h
  | r :: rs, h => by
    show valV ((Sum.inr r.1, V.int r.2) :: wkv rs) _ = _
    rw [valV_cons]
    simp only [key_r, wOf]
    by_cases e : r.1 = x
    · rw [if_pos e, if_pos e]
    · rw [if_neg e, if_neg e]
      refine val_w ?_
      rcases List.mem_cons.mp h with q | q
      · exact absurd q.symm e
      · exact q
theorem val_r {x : Str} : ∀ {rs : List (Str × Int)} {j : Nat}, x ∈ rs.map (·.1) → valV (rkv j rs) (Sum.inr x : Key) = some (.int ((rk rs x + j : Nat) : Int))
  | [], j, h => by simp at h
  | r :: rs, j, h => by
    show valV ((Sum.inr r.1, V.int (j : Int)) :: rkv (j + 1) rs) _ = _
    rw [valV_cons]
    simp only [key_r, rk]
    by_cases e : r.1 = x
    · rw [if_pos e, if_pos e, Nat.zero_add]
    · rw [if_neg e, if_neg e]
      rw [val_r (j := j + 1)]
      · congr 2
        omega
      rcases List.mem_cons.mp h with q | q
      · exact absurd q.symm e
      · exact q
theorem val_none {x : Str} : ∀ {rs : List (Str × Int)}, x ∉ rs.map (·.1) → valV (wkv rs) (Sum.inr x : Key) = none
  | [], h => rfl
  | r :: rs, h => by
    show valV ((Sum.inr r.1, V.int r.2) :: wkv rs) _ = _
    rw [valV_cons]
    simp only [key_r]
    rw [if_neg (fun e => h (by simp [e]))]
    exact val_none fun q => h (by simp only [List.map_cons, List.mem_cons]; exact .inr q)
theorem valr_none {x : Str} : ∀ {rs : List (Str × Int)} {j : Nat}, x ∉ rs.map (·.1) → valV (rkv j rs) (Sum.inr x : Key) = none
  | [], j, h => rfl
  | r :: rs, j, h => by
    show valV ((Sum.inr r.1, V.int (j : Int)) :: rkv (j + 1) rs) _ = _
    rw [valV_cons]
    simp only [key_r]
    rw [if_neg (fun e => h (by simp [e]))]
    exact valr_none fun q => h (by simp only [List.map_cons, List.mem_cons]; exact .inr q)
theorem rkv_snoc : ∀ (rs : List (Str × Int)) (j : Nat) (r : Str × Int), rkv j (rs ++ [r]) = rkv j rs ++ [(Sum.inr r.1, V.int ((j + rs.length : Nat) : Int))]
  | [], j, r => by simp [rkv]
  | s :: rs, j, r => by
    show _ :: rkv (j + 1) (rs ++ [r]) = _ :: (rkv (j + 1) rs ++ _)
    rw [rkv_snoc rs (j + 1) r]
    have e : j + 1 + rs.length = j + (s :: rs).length := by simp; omega
    rw [e]
theorem rkv_len : ∀ (rs : List (Str × Int)) (j : Nat), (rkv j rs).length = rs.length
  | [], _ => rfl
  | _ :: rs, j => congrArg (· + 1) (rkv_len rs (j + 1))
theorem nd_at {α : Type} {l : List α} (nd : l.Nodup) {i j : Nat} {x : α} (h1 : l[i]? = some x) (h2 : l[j]? = some x) : i = j := by
  obtain ⟨a, b⟩ := List.getElem?_eq_some_iff.mp h1
  exact (List.getElem?_inj a nd).mp (h1.trans h2.symm)
/-- the name at i is none of those ahead -/
theorem not_ahead {rs : List (Str × Int)} {i : Nat} {r : Str × Int} (nd : (rs.map (·.1)).Nodup) (h : rs[i]? = some r) : r.1 ∉ (rs.take i).map (·.1) := by
  intro z
  obtain ⟨s, hs, e⟩ := List.mem_map.mp z
  obtain ⟨j, hj⟩ := List.getElem?_of_mem hs
  have hji : j < i := by
    have h1 := (List.getElem?_eq_some_iff.mp hj).1
    rw [List.length_take] at h1
    omega
  rw [List.getElem?_take_of_lt hji] at hj
  have e1 : (rs.map (·.1))[j]? = some s.1 := by rw [List.getElem?_map, hj] <;> rfl
  have e2 : (rs.map (·.1))[i]? = some r.1 := by rw [List.getElem?_map, h] <;> rfl
  rw [← e] at e2
  have e3 := nd_at nd e1 e2
  omega
/-! ### rows as data -/
def rowO (r : Str × Int) : O := .tup [.str r.1, .int r.2]
def rowsO (rs : List (Str × Int)) : O := .tup (rs.map rowO)
/-- rows that an order may have -/
structure RowsOk (rs : List (Str × Int)) : Prop where
  n10 : ∀ r ∈ rs, r.1 ∈ N10
  nd : (rs.map (·.1)).Nodup
  one : ∀ r ∈ rs, 1 ≤ r.2 ∧ r.2 ≤ 1000
  len : rs.length ≤ 10
theorem rows_noL : ∀ rs : List (Str × Int), O.hasLs (rs.map rowO) = false
  | [] => rfl
  | r :: rs => by show (false || O.hasLs (rs.map rowO)) = false; rw [rows_noL rs]; rfl
theorem rows_nod : ∀ rs : List (Str × Int), O.nods (rs.map rowO) = true
  | [] => rfl
  | r :: rs => by show (true && O.nods (rs.map rowO)) = true; rw [rows_nod rs]; rfl
theorem n10_name : ∀ s ∈ N10, nameB s = true ∧ SS.contains s = true := by decide +kernel
/-- rows in the heap: lists and tuples of names and weights -/
structure RwV (H : Hp) (b : Bool) (a : Addr) (us : List V) (rs : List (Str × Int)) : Prop where
  sq : SqB H b a us
  len : us.length = rs.length
  at' : ∀ (i : Nat) (y : V), us[i]? = some y → ∃ r, rs[i]? = some r ∧ ∃ b2 a2, y = .ref a2 ∧ SqB H b2 a2 [.str r.1, .int r.2]
theorem RwV.ext {H G : Hp} {b : Bool} {a : Addr} {us : List V} {rs : List (Str × Int)} (h : RwV H b a us rs) (e : Ex H G) : RwV G b a us rs :=
  ⟨h.sq.ext e, h.len, fun i y hy => let ⟨r, h1, b2, a2, h2, h3⟩ := h.at' i y hy; ⟨r, h1, b2, a2, h2, h3.ext e⟩⟩
theorem sqb_ins {H : Hp} {b : Bool} {a p C : Addr} {dx : Addr} {fs : List (Str × V)} {us : List V} {o : HO} (h : SqB H b a us) (hp : H p = some (.ins C dx fs)) : SqB (upd H p o) b a us := by
  unfold SqB at h ⊢
  rw [upd_ne (ne_of h hp (by cases b <;> exact fun z => nomatch z))]
  exact h
theorem RwV.ins {H : Hp} {b : Bool} {a p C : Addr} {dx : Addr} {fs : List (Str × V)} {us : List V} {rs : List (Str × Int)} {o : HO} (h : RwV H b a us rs) (hp : H p = some (.ins C dx fs)) : RwV (upd H p o) b a us rs :=
  ⟨sqb_ins h.sq hp, h.len, fun i y hy => let ⟨r, h1, b2, a2, h2, h3⟩ := h.at' i y hy; ⟨r, h1, b2, a2, h2, sqb_ins h3 hp⟩⟩
theorem strip_strO {o : O} {s : Str} (h : o.strip = .str s) : o = .str s := by cases o <;> cases h; rfl
theorem strip_int {o : O} {s : Int} (h : o.strip = .int s) : o = .int s := by cases o <;> cases h; rfl
theorem strip_tup {o : O} {xs : List O} (h : o.strip = .tup xs) : ∃ b zs, o = O.seq b zs ∧ O.strips zs = xs := by
  cases o with
  | lst zs => exact ⟨true, zs, rfl, O.tup.inj h⟩
  | tup zs => exact ⟨false, zs, rfl, O.tup.inj h⟩
  | _ => cases h
theorem strip_row {o : O} {r : Str × Int} (h : o.strip = rowO r) : ∃ b, o = O.seq b [.str r.1, .int r.2] := by
  obtain ⟨b, zs, rfl, hz⟩ := strip_tup h
  match zs, hz with
  | [], hz => cases hz
  | [x], hz => exact nomatch (List.cons.inj hz).2
  | x :: y :: z :: q, hz => exact nomatch (List.cons.inj (List.cons.inj hz).2).2
  | [x, y], hz =>
    have h1 := List.cons.inj hz
    have h2 := List.cons.inj h1.2
    exact ⟨b, by rw [strip_strO h1.1, strip_int h2.1]⟩
theorem rwv_of {H : Hp} {v : V} {o : O} {rs : List (Str × Int)} (h : OV H v o) (e : o.strip = rowsO rs) : ∃ b a us, v = .ref a ∧ RwV H b a us rs := by
  obtain ⟨b, zs, rfl, hz⟩ := strip_tup e
  obtain ⟨a, us, rfl, ha, hov⟩ := h.seq
  rw [strips_eq] at hz
  refine ⟨b, a, us, rfl, ha, ?_, fun i y hy => ?_⟩
  · rw [hov.length]
    have := congrArg List.length hz
    simpa using this
  · obtain ⟨x, hx, ho⟩ := hov.get hy
    have hx2 : (zs.map O.strip)[i]? = some x.strip := by rw [List.getElem?_map, hx]; rfl
    rw [hz, List.getElem?_map] at hx2
    obtain ⟨r, hr, hrx⟩ := Option.map_eq_some_iff.mp hx2
    obtain ⟨b2, rfl⟩ := strip_row hrx.symm
    obtain ⟨a2, ws, rfl, h2, v1, ws1, rfl, o1, v2, ws2, rfl, o2, h0⟩ := ho.seq
    obtain rfl : ws2 = [] := h0
    obtain rfl : v1 = .str r.1 := o1
    obtain rfl : v2 = .int r.2 := o2
    exact ⟨r, hr, b2, a2, rfl, h2⟩
theorem row_good {st : List Str} {x : O} {r : Str × Int} (h : x.strip = rowO r) (h1 : nameB r.1 = true) (h2 : r.1 ∉ st) (h3 : 1 ≤ r.2) : rowX st x = false ∧ x.h0.txt = r.1 := by
  obtain ⟨b, rfl⟩ := strip_row h
  have e0 : (O.seq b [.str r.1, .int r.2]).h0 = .str r.1 := by unfold O.h0; rw [O.items_seq]; rfl
  have e1 : (O.seq b [.str r.1, .int r.2]).h1 = .int r.2 := by unfold O.h1; rw [O.items_seq]; rfl
  have ep : (O.seq b [.str r.1, .int r.2]).isPair = true := by unfold O.isPair; rw [O.items_seq]; cases b <;> rfl
  refine ⟨?_, by rw [e0]; rfl⟩
  unfold rowX
  rw [ep, e0, e1]
  show (!true || (!nameB r.1 || (st.contains r.1 || !decide (r.2 ≥ 1)))) = false
  rw [h1, decide_eq_true (show r.2 ≥ 1 from h3)]
  have : st.contains r.1 = false := by
    cases q : st.contains r.1 with
    | false => rfl
    | true => exact absurd (List.contains_iff_mem.mp q) h2
  rw [this]
  rfl
theorem rows_good {o : O} {rs : List (Str × Int)} (R : RowsOk rs) (e : o.strip = rowsO rs) : badR o = none := by
  obtain ⟨b, zs, rfl, hz⟩ := strip_tup e
  have hq : ((O.seq b zs).isLst || (O.seq b zs).isTup) = true := by cases b <;> rfl
  unfold badR
  rw [hq, if_pos rfl, O.items_seq]
  rw [strips_eq] at hz
  have key : ∀ (zs : List O) (rs : List (Str × Int)) (st : List Str) (i : Nat), zs.map O.strip = rs.map rowO → (∀ r ∈ rs, nameB r.1 = true ∧ 1 ≤ r.2 ∧ r.1 ∉ st) → (rs.map (·.1)).Nodup → badRow st i zs = none := by
    intro zs
    induction zs with
    | nil => intros; rfl
    | cons z zs ih =>
      intro rs st i hz hr nd
      cases rs with
      | nil => cases hz
      | cons r rs =>
        have hz := List.cons.inj hz
        obtain ⟨r1, r2, r3⟩ := hr r (by simp)
        obtain ⟨g1, g2⟩ := row_good hz.1 r1 r3 r2
        rw [badRow_cons, g1, if_neg (by decide), g2]
        have nd := List.nodup_cons.mp nd
        refine ih rs _ _ hz.2 (fun q hq => ?_) nd.2
        obtain ⟨q1, q2, q3⟩ := hr q (by simp [hq])
        refine ⟨q1, q2, fun m => ?_⟩
        rcases List.mem_append.mp m with m | m
        · exact q3 m
        · have : q.1 = r.1 := by simpa using m
          exact nd.1 (List.mem_map.mpr ⟨q, hq, this⟩)
  exact key zs rs [] 0 hz (fun r hr => ⟨(n10_name _ (R.n10 r hr)).1, (R.one r hr).1, by simp⟩) R.nd
theorem rows_ss {o : O} {rs : List (Str × Int)} (R : RowsOk rs) (e : o.strip = rowsO rs) : rowsS o = true ∧ o.items.length = rs.length := by
  obtain ⟨b, zs, rfl, hz⟩ := strip_tup e
  unfold rowsS
  rw [O.items_seq]
  constructor
  · rw [← strip_sss, hz]
    have key : ∀ rs : List (Str × Int), (∀ r ∈ rs, r.1 ∈ N10) → O.sss (rs.map rowO) = true := by
      intro rs
      induction rs with
      | nil => intro _; rfl
      | cons r rs ih =>
        intro h
        show ((SS.contains r.1 && (true && true)) && O.sss (rs.map rowO)) = true
        rw [(n10_name _ (h r (by simp))).2, ih fun q hq => h q (by simp [hq])]
        rfl
    exact key rs R.n10
  · rw [strips_eq] at hz
    have := congrArg List.length hz
    simpa using this
/-- an order at o, its rows at dr -/
structure OrdAt (C : Addr) (H : Hp) (o dr : Addr) (rs : List (Str × Int)) : Prop where
  ex : ∃ dx dw dk fs xs, H o = some (.ins C dx fs) ∧ (fs.lookup ("_rows" : Str) = some (.ref dr) ∧ fs.lookup ("rows" : Str) = none) ∧ fs.lookup ("weights" : Str) = some (.ref dw) ∧ fs.lookup ("ranks" : Str) = some (.ref dk) ∧ H dw = some (.dK (wkv rs)) ∧ H dk = some (.dK (rkv 0 rs)) ∧ H dr = some (.lst xs) ∧ OVs H xs (rs.map rowO)
theorem OrdAt.ext {C : Addr} {H G : Hp} {o dr : Addr} {rs : List (Str × Int)} (e : Ex H G) (h : OrdAt C H o dr rs) : OrdAt C G o dr rs := by
  obtain ⟨dx, dw, dk, fs, xs, h1, h0, h2, h3, h4, h5, h6, h7⟩ := h.ex
  exact ⟨dx, dw, dk, fs, xs, e _ _ h1, h0, h2, h3, e _ _ h4, e _ _ h5, e _ _ h6, h7.ext e⟩
/-- what is known of the class -/
structure TO (P : Program) (w : World) (K : PySem.W.Frag) (mg : Str → Option Value) (base : Heap) (C : Addr) : Prop extends T28 P w K mg base where
  clO : Cls K C
  nR : NoAttr K C "_rows"
  nW : NoAttr K C "weights"
  nK : NoAttr K C "ranks"
  mgO : mg "Order" = some (.ref C)
  mkI : ∃ fI fdI, Mk K C fI ∧ FunD K "__init__" "Order.__init__" (defArgs s_init) (defBody s_init) (defScope s_init) [] [] fI fdI
  mRows : ∃ f fd, Meth K C "rows" f ∧ FunD K "rows" "Order.rows" (defArgs s_rows) (defBody s_rows) (defScope s_rows) [] [] f fd
  mEq : ∃ f fd, Meth K C "__eq__" f ∧ FunD K "__eq__" "Order.__eq__" (defArgs s_eq) (defBody s_eq) (defScope s_eq) [] [] f fd
  ha : PySem.W.findIn K (.ref C) "__class__" = some (some (.builtin "object.__class__"))
  hn : PySem.W.specialIn K (.builtin "object.__class__") "__get__" = some (some (.builtin "getset_descriptor.__get__"))
  htk : PySem.W.takesIn K (.builtin "object.__class__") = some true
  hm : PySem.W.mroIn K C (.type "object") = some true
  tyO : PySem.W.typeIn K (.ref C) = some (.type "type")
section
variable {K : PySem.W.Frag} {σ : L2.St} {H : Hp} {te tl : TE}
theorem iq_it {b : Bool} {a : Addr} {xs : List V} {R : It → Hp → Prop} (h : Ev tl σ H (.ref a)) (hx : SqB H b a xs) (k : ∀ (J : It) H1, Ex H H1 → Walk J xs.length (fun G => SqB G b a xs) (YAt xs) → R J H1) : iQ K tl σ H R := by
  cases b with
  | true => exact .inl (h H (Ex.refl _) _ fun H1 e => ⟨a, rfl, ⟨xs, sq_of (hx.ext e)⟩, k _ H1 e ⟨fun i G hi g => (walk_list (K := K)).goes i G hi (sq_of g), fun G g => (walk_list (K := K)).stops G (sq_of g), fun i G x G' hi g y => (walk_list (K := K)).yields i G x G' hi (sq_of g) y⟩⟩)
  | false => exact .inr (h H (Ex.refl _) _ fun H1 e => ⟨a, rfl, ⟨xs, st_of (hx.ext e)⟩, k _ H1 e ⟨fun i G hi g => (walk_tup (K := K)).goes i G hi (st_of g), fun G g => (walk_tup (K := K)).stops G (st_of g), fun i G x G' hi g y => (walk_tup (K := K)).yields i G x G' hi (st_of g) y⟩⟩)
theorem ienq_it {b : Bool} {a : Addr} {xs : List V} {R : It → Hp → Prop} (h : Ev tl σ H (.ref a)) (hx : SqB H b a xs) (k : ∀ (J : It) H1, Ex H H1 → Walk J xs.length (fun G => SqB G b a xs) (YPair (fun i => some (.int (i : Nat))) (fun i => xs[i]?)) → R J H1) : iEnQ K (tCons tl tNil) σ H R := by
  cases b with
  | true => exact .inl (h H (Ex.refl _) _ fun H1 e => ⟨a, xs, rfl, sq_of (hx.ext e), k _ H1 e ⟨fun i G hi g => (walk_enum (K := K)).goes i G hi (sq_of g), fun G g => (walk_enum (K := K)).stops G (sq_of g), fun i G x G' hi g y => (walk_enum (K := K)).yields i G x G' hi (sq_of g) y⟩⟩)
  | false => exact .inr (h H (Ex.refl _) _ fun H1 e => ⟨a, xs, rfl, st_of (hx.ext e), k _ H1 e ⟨fun i G hi g => (walk_enumT (K := K)).goes i G hi (st_of g), fun G g => (walk_enumT (K := K)).stops G (st_of g), fun i G x G' hi g y => (walk_enumT (K := K)).yields i G x G' hi (st_of g) y⟩⟩)
/-- a pair taken apart, a list or a tuple -/
abbrev gPrQ (K : PySem.W.Frag) (j1 j2 : Nat) : TG := fun v σ H Q => gPair K j1 j2 v σ H Q ∨ gLst K 2 (gCons (gName j1) (gCons (gName j2) gNil)) v σ H Q
theorem pg_or {X : Cx} {tg : Expr} {t1 t2 : TG} (h1 : PG X tg t1) (h2 : PG X tg t2) : PG X tg (fun v σ H Q => t1 v σ H Q ∨ t2 v σ H Q) := ⟨fun pins s σ H v u Q I r hw => by
  rcases hw with hw | hw
  · exact h1.run pins s σ H v u Q I r hw
  · exact h2.run pins s σ H v u Q I r hw⟩
theorem g_prq {j1 j2 : Nat} {b : Bool} {a : Addr} {x y : V} {Q : L2.St → Hp → Prop} (h : SqB H b a [x, y]) (k : Q ((σ.set j1 (some x)).set j2 (some y)) H) : gPrQ K j1 j2 (.ref a) σ H Q := by
  cases b with
  | true => exact .inr ⟨a, [x, y], rfl, sq_of h, rfl, _, _, rfl, _, _, rfl, rfl, k⟩
  | false => exact .inl ⟨a, [x, y], rfl, st_of h, rfl, _, _, rfl, _, _, rfl, rfl, k⟩
end
section
variable {P : Program} {w : World} {K : PySem.W.Frag} {mg : Str → Option Value} {base : Heap} {C : Addr}
def spInit (K : PySem.W.Frag) (C : Addr) : Sp := fun vs H Q E => ∃ (p dx : Addr) (v : V) (o : O), vs = [.ref p, v] ∧ H p = some (.ins C dx []) ∧ OV H v o ∧ rowsS o = true ∧ o.items.length ≤ 100 ∧
  ((∃ i : Nat, badR o = some i ∧ BadZ K "BadRows" "index" (.int i) H E) ∨ ∃ rs, o.strip = rowsO rs ∧ RowsOk rs ∧
  ∀ (H' : Hp) (dr : Addr), OrdAt C H' p dr rs → H dr = none → (∀ b o, H b = some o → b ≠ p → H' b = some o) → Q .non H')
abbrev nI : List Str := ["self", "rows", "index", "name", "weight", "at", "row"]
theorem sc_init : FnScope nI ["self", "rows"] (defScope s_init) := ⟨rfl, rfl, rfl, by decide +kernel, rfl, by decide +kernel, by decide +kernel⟩
theorem ok_oinit {f : Addr} {fd : FuncData} (T : TO P w K mg base C) (F : FunD K "__init__" "Order.__init__" (defArgs s_init) (defBody s_init) (defScope s_init) [] [] f fd) : FnOk P w K mg base (L2.CX P w) 6 f fd ["self", "rows"] (spInit K C) := by
  obtain ⟨fB, dB, GB, bB, kB, mB⟩ := (ok_bad_pair T.toT28).ex
  obtain ⟨fW, dW, GW, bW, kW, mW⟩ := (ok_is_weight T.toT28).ex
  refine F.ok sc_init (fun vs H Q E h => ?_) (fun cdv A outer s H vs Q E hr h => ?_)
  · obtain ⟨p, dx, v, o, rfl, _⟩ := h
    rfl
  · obtain ⟨p, dx, v, o, rfl, hp, ho, hss, hlen, k⟩ := h
    refine ⟨_, pss_cons (ps_set (i := 2) sc_init.nd rfl (Or.inl rfl) (pe_call GB (hr.mono (by decide)) (by rfl) mB kB bB .nil pass0 (pa_cons (pv 1) (pa_cons (pe_lst pa_nil) (pa_cons (pe_glob (v := .ref fW) rfl mW rfl) pa_nil)))))
      (pss_cons (ps_if (pt_cmp (pc_notN (pv 2))) (pss_one (ps_raiseE rfl T.toT28.br (takes_of rfl rfl rfl rfl) (hr.mono (by decide)) (pv 2))) pss_nil)
      (pss_cons (ps_fld (pv 0) (pe_lc (own := [("name", 3), ("weight", 4)]) (g := gPrQ K 3 4) (tt := tYes) (te := tTup (tCons (tVar 3) (tCons (tVar 4) tNil))) rfl sc_init.nd (pi_seq (pv 1)) (blkOk_by (N := nI) (sc := defScope s_init) (by decide +kernel))
        (fun _ _ _ _ _ => pg_or (pg_tup rfl (pgs_cons (pg_name (i := 3) sc_init.nd rfl (Or.inl rfl)) (pgs_cons (pg_name (i := 4) sc_init.nd rfl (Or.inl rfl)) pgs_nil))) (pg_lst rfl (pgs_cons (pg_name (i := 3) sc_init.nd rfl (Or.inl rfl)) (pgs_cons (pg_name (i := 4) sc_init.nd rfl (Or.inl rfl)) pgs_nil)))) (fun _ _ _ _ _ => pts_nil) (fun _ _ _ _ _ => pe_tup (pa_cons (pv 3) (pa_cons (pv 4) pa_nil)))) rfl)
      (pss_cons (ps_fld (pv 0) (pe_dc (own := [("name", 3), ("weight", 4)]) (g := gPrQ K 3 4) (tt := tYes) (tk := tVar 3) (tv := tVar 4) rfl sc_init.nd (pi_seq (pv 1)) (blkOk_by (N := nI) (sc := defScope s_init) (by decide +kernel))
        (fun _ _ _ _ _ => pg_or (pg_tup rfl (pgs_cons (pg_name (i := 3) sc_init.nd rfl (Or.inl rfl)) (pgs_cons (pg_name (i := 4) sc_init.nd rfl (Or.inl rfl)) pgs_nil))) (pg_lst rfl (pgs_cons (pg_name (i := 3) sc_init.nd rfl (Or.inl rfl)) (pgs_cons (pg_name (i := 4) sc_init.nd rfl (Or.inl rfl)) pgs_nil)))) (fun _ _ _ _ _ => pts_nil) (fun _ _ _ _ _ => pv 3) (fun _ _ _ _ _ => pv 4)) rfl)
      (pss_one (ps_fld (pv 0) (pe_dc (own := [("at", 5), ("row", 6)]) (g := gPair K 5 6) (tt := tYes) (tk := tOp (rIxQ K) (tVar 6) (tC (.int 0))) (tv := tVar 5) rfl sc_init.nd (pi_or (pi_enum (by rfl) T.enumerate (pa_cons (pv 1) pa_nil)) (pi_enumT (by rfl) T.enumerate (pa_cons (pv 1) pa_nil))) (blkOk_by (N := nI) (sc := defScope s_init) (by decide +kernel))
        (fun _ _ _ _ _ => pg_tup rfl (pgs_cons (pg_name (i := 5) sc_init.nd rfl (Or.inl rfl)) (pgs_cons (pg_name (i := 6) sc_init.nd rfl (Or.inl rfl)) pgs_nil))) (fun _ _ _ _ _ => pts_nil) (fun _ _ _ _ _ => pe_ix ix_seq (pv 6) pe_int (fun _ _ => rfl)) (fun _ _ _ _ _ => pv 5)) rfl))))), ?_⟩
    refine q_asg (v := natV (badR o)) (fun H1 e Q q => ⟨_, rfl, Nat.zero_le _, fun b hb => ?_⟩) fun H1 e1 => ?_
    · have e2 : Ex H1 (upd H1 b (.lst [])) := Ex.new hb
      exact ⟨v, o, b, fW, rfl, ho.ext (e.trans e2), hss, hlen, mW, upd_same, fun H2 e3 => q H2 (e2.trans e3)⟩
    rcases k with ⟨i, hbad, kb⟩ | ⟨rs, hst, R, k⟩
    · rw [hbad]
      refine q_when (b := true) (et_B (ev_notN (ev_var rfl) rfl)) (fun _ H2 e2 => ?_) fun z => nomatch z
      exact s_raise T.toT28.br (ev_var rfl) fun d G e hd => kb d G ((e1.trans e2).trans e) hd
    rw [rows_good R hst]
    refine q_when (b := false) (et_B (ev_notN (ev_var rfl) rfl)) (fun z => nomatch z) fun _ H2 e2 => ?_
    have e12 := e1.trans e2
    obtain ⟨b, a, us, rfl, rw0⟩ := rwv_of ho hst
    have R2 := rw0.ext e12
    have hul : us.length ≤ 10 := by rw [rw0.len]; exact R.len
    -- self._rows = [..]
    refine iq_it (ev_var rfl) R2.sq fun J G0 e0 wk D hD => ?_
    have R0 := R2.ext e0
    refine lc_it wk (fun i G => Ex G0 G ∧ ∃ acc, G D = some (.lst acc) ∧ acc.length = i ∧ OVs G acc ((rs.take i).map rowO)) ⟨Ex.new hD, [], upd_same, rfl, rfl⟩ (fun i G _ q => R0.sq.ext q.1) ?_ ?_
    · rintro i x G G' hi ⟨q1, acc, q2, q3, q4⟩ ⟨rfl, hx⟩
      obtain ⟨r, hr1, b2, c, rfl, hc⟩ := (R0.ext q1).at' i x hx
      refine g_prq hc ⟨rfl, ?_⟩
      unfold tYes
      dsimp only
      rw [if_pos rfl]
      refine ⟨_, rfl, _, rfl, by show 2 ≤ sizeLine; decide, fun t ht => ⟨acc, ?_, sz_lt (by omega), Ex.mut (q1.trans (Ex.new ht)) hD, acc ++ [.ref t], upd_same, by simp; omega, ?_⟩⟩
      · rw [upd_ne (ne_of_none q2 ht)]
        exact q2
      · have hD2 : (upd G' t (.tup [.str r.1, .int r.2])) D = some (.lst acc) := by
          rw [upd_ne (ne_of_none q2 ht)]
          exact q2
        have tx := Tx.lst (o := .lst (acc ++ [.ref t])) hD2
        have e1 : rs.take (i + 1) = rs.take i ++ [r] := by rw [List.take_succ, hr1]; rfl
        rw [e1, List.map_append]
        refine OVs.append (OVs.tx ((Tx.of (Ex.new ht)).trans tx) (rows_noL _) (rows_nod _) q4) (.cons ⟨t, [.str r.1, .int r.2], rfl, tx _ _ upd_same, .cons rfl (.cons rfl .nil)⟩ .nil)
    rintro H3 ⟨e3, xs3, hD3, _, ho3⟩
    have hp3 : H3 p = some (.ins C dx []) := e3 _ _ (e0 _ _ (e12 _ _ hp))
    rw [rw0.len, List.take_length] at ho3
    refine ⟨_, rfl, p, C, dx, [], rfl, hp3, T.clO, T.nR, by show 0 < 1000; decide, ?_⟩
    have R4 : RwV (upd H3 p (.ins C dx (putF "_rows" (.ref D) []))) b a us rs := (R0.ext e3).ins hp3
    have hD4 : (upd H3 p (.ins C dx (putF "_rows" (.ref D) []))) D = some (.lst xs3) := by rw [upd_ne (ne_of hD3 hp3 (by intro z; cases z))]; exact hD3
    have ho4 : OVs (upd H3 p (.ins C dx (putF "_rows" (.ref D) []))) xs3 (rs.map rowO) := OVs.tx (fun c ys hc => by rw [upd_ne (ne_of hc hp3 (by intro z; cases z))]; exact hc) (rows_noL _) (rows_nod _) ho3
    have hp4 : (upd H3 p (.ins C dx (putF "_rows" (.ref D) []))) p = some (.ins C dx (putF "_rows" (.ref D) [])) := upd_same
    have far4 : ∀ c u, H c = some u → c ≠ p → (upd H3 p (.ins C dx (putF "_rows" (.ref D) []))) c = some u := fun c u hc n => by rw [upd_ne n]; exact e3 _ _ (e0 _ _ (e12 _ _ hc))
    have hDn : H D = none := fresh_back (e12.trans e0) hD
    generalize upd H3 p (.ins C dx (putF "_rows" (.ref D) [])) = H4 at R4 hD4 ho4 hp4 far4 ⊢
    -- self.weights = {..}
    refine iq_it (ev_var rfl) R4.sq fun J G5 e5 wk dw hdw => ?_
    have R5 := R4.ext e5
    refine dc_it wk (fun i G => Ex G5 G ∧ G dw = some (.dK (wkv (rs.take i)))) ⟨Ex.new hdw, upd_same⟩ (fun i G _ q => R5.sq.ext q.1) ?_ ?_
    · rintro i x G G' hi ⟨q1, q2⟩ ⟨rfl, hx⟩
      obtain ⟨r, hr1, b2, c, rfl, hc⟩ := (R5.ext q1).at' i x hx
      refine g_prq hc ⟨rfl, ?_⟩
      unfold tYes
      dsimp only
      rw [if_pos rfl]
      have el : (wkv (rs.take i)).length ≤ 10 := by
        have := R.len
        simp only [wkv, List.length_map, List.length_take]
        omega
      refine ⟨_, rfl, _, rfl, _, Sum.inr r.1, rfl, q2, sz_lt (by omega), Ex.mut q1 hdw, ?_⟩
      rw [upd_same, putK_new (val_none (not_ahead R.nd hr1)), List.take_succ, hr1]
      simp [wkv]
    rintro H5 ⟨e5', hdw5⟩
    have e45 := e5.trans e5'
    rw [rw0.len, List.take_length] at hdw5
    have hp5 := e45 _ _ hp4
    refine ⟨_, rfl, p, C, dx, _, rfl, hp5, T.clO, T.nW, by show 1 < 1000; decide, ?_⟩
    have other6 : ∀ c u, H5 c = some u → (∀ fs, u ≠ .ins C dx fs) → (upd H5 p (.ins C dx (putF "weights" (.ref dw) (putF "_rows" (.ref D) [])))) c = some u := fun c u hc n => by
      rw [upd_ne (ne_of hc hp5 (n _))]
      exact hc
    have R6 : RwV (upd H5 p (.ins C dx (putF "weights" (.ref dw) (putF "_rows" (.ref D) [])))) b a us rs := (R4.ext e45).ins hp5
    have hdw6 := other6 _ _ hdw5 fun _ z => nomatch z
    have hD6 := other6 _ _ (e45 _ _ hD4) fun _ z => nomatch z
    have ho6 : OVs (upd H5 p (.ins C dx (putF "weights" (.ref dw) (putF "_rows" (.ref D) [])))) xs3 (rs.map rowO) := OVs.tx (fun c ys hc => other6 _ _ hc fun _ z => nomatch z) (rows_noL _) (rows_nod _) (ho4.ext e45)
    have hp6 : (upd H5 p (.ins C dx (putF "weights" (.ref dw) (putF "_rows" (.ref D) [])))) p = some (.ins C dx (putF "weights" (.ref dw) (putF "_rows" (.ref D) []))) := upd_same
    have far6 : ∀ c u, H c = some u → c ≠ p → (upd H5 p (.ins C dx (putF "weights" (.ref dw) (putF "_rows" (.ref D) [])))) c = some u := fun c u hc n => by rw [upd_ne n]; exact e45 _ _ (far4 c u hc n)
    generalize upd H5 p (.ins C dx (putF "weights" (.ref dw) (putF "_rows" (.ref D) []))) = H6 at R6 hdw6 hD6 ho6 hp6 far6 ⊢
    -- self.ranks = {..}
    refine ienq_it (ev_var rfl) R6.sq fun J G7 e7 wk dk hdk => ?_
    have R7 := R6.ext e7
    refine dc_it wk (fun i G => Ex G7 G ∧ G dk = some (.dK (rkv 0 (rs.take i)))) ⟨Ex.new hdk, upd_same⟩ (fun i G _ q => R7.sq.ext q.1) ?_ ?_
    · rintro i v G G' hi ⟨q1, q2⟩ ⟨t, x, y, rfl, ht, rfl, ex, ey⟩
      cases ex
      obtain ⟨r, hr1, b2, c, rfl, hc⟩ := (R7.ext q1).at' i y ey
      have et : Ex G (upd G t (.tup [.int (i : Nat), .ref c])) := Ex.new ht
      refine ⟨t, _, rfl, st_of upd_same, rfl, _, _, rfl, _, _, rfl, rfl, rfl, ?_⟩
      unfold tYes
      dsimp only
      rw [if_pos rfl]
      have el : (rkv 0 (rs.take i)).length ≤ 10 := by
        have := R.len
        rw [rkv_len, List.length_take]
        omega
      refine ⟨_, rfl, rv_ixQ (hc.ext et) (atI_nat (j := 0) rfl) _ (Ex.refl _) _ fun H8 e8 => ⟨_, rfl, _, Sum.inr r.1, rfl, e8 _ _ (et _ _ q2), sz_lt (by omega), Ex.mut ((q1.trans et).trans e8) hdk, ?_⟩⟩
      rw [upd_same, putK_new (valr_none (not_ahead R.nd hr1)), List.take_succ, hr1]
      have hi2 : i < rs.length := (List.getElem?_eq_some_iff.mp hr1).1
      show some (HO.dK _) = some (HO.dK (rkv 0 (rs.take i ++ [r])))
      rw [rkv_snoc, Nat.zero_add, List.length_take, Nat.min_eq_left (by omega)]
    rintro H7 ⟨e7', hdk7⟩
    have e67 := e7.trans e7'
    rw [rw0.len, List.take_length] at hdk7
    have hp7 := e67 _ _ hp6
    refine ⟨_, rfl, p, C, dx, _, rfl, hp7, T.clO, T.nK, by show 2 < 1000; decide, ?_⟩
    have o8 : ∀ {c : Addr} {u : HO} {o : HO}, H7 c = some u → (∀ fs, u ≠ .ins C dx fs) → (upd H7 p o) c = some u := fun {c u o} hc n => by
      rw [upd_ne (ne_of hc hp7 (n _))]
      exact hc
    refine k _ D ⟨dx, dw, dk, _, xs3, upd_same, ?_, ?_, ?_, ?_, ?_, ?_, ?_⟩ hDn fun c u hc n => ?_
    · refine ⟨?_, ?_⟩
      · rw [lookup_putF, if_neg (by decide +kernel), lookup_putF, if_neg (by decide +kernel), lookup_putF, if_pos rfl]
      · rw [lookup_putF, if_neg (by decide +kernel), lookup_putF, if_neg (by decide +kernel), lookup_putF, if_neg (by decide +kernel)]
        rfl
    · rw [lookup_putF, if_neg (by decide +kernel), lookup_putF, if_pos rfl]
    · rw [lookup_putF, if_pos rfl]
    · exact o8 (e67 _ _ hdw6) fun _ z => nomatch z
    · exact o8 hdk7 fun _ z => nomatch z
    · exact o8 (e67 _ _ hD6) fun _ z => nomatch z
    · exact OVs.tx (fun c ys hc => o8 hc fun _ z => nomatch z) (rows_noL _) (rows_nod _) (ho6.ext e67)
    · rw [upd_ne n]
      exact e67 _ _ (far6 c u hc n)
end
end K28

set_option Elab.async false
set_option linter.all false
set_option maxRecDepth 100000
set_option maxHeartbeats 4000000
/-! An order asked: whether it is one; what it has no weight for. -/
namespace K28
open PySem PySem.Spec PyProof.Rows L2 Evl
mutual
/-- the first name that the order does not have -/
def fu (ns : List Str) : W → Option Str
  | .v _ => none
  | .n s as => if ns.contains s = true then fus ns as else some s
def fus (ns : List Str) : List W → Option Str
  | [] => none
  | x :: xs => match fu ns x with
    | some s => some s
    | none => fus ns xs
end
def optS : Option Str → V
  | some s => .str s
  | none => .non
abbrev nms (rs : List (Str × Int)) : List Str := rs.map (·.1)
theorem fus_drop {ns : List Str} {as : List W} {i : Nat} {x : W} (h : as[i]? = some x) (hx : fu ns x = none) : fus ns (as.drop i) = fus ns (as.drop (i + 1)) := by
  obtain ⟨l1, e1⟩ := List.getElem?_eq_some_iff.mp h
  rw [List.drop_eq_getElem_cons l1, e1]
  show (match fu ns x with | some s => some s | none => fus ns (as.drop (i + 1))) = _
  rw [hx]
theorem fus_at {ns : List Str} {as : List W} {i : Nat} {x : W} {s : Str} (h : as[i]? = some x) (hx : fu ns x = some s) : fus ns (as.drop i) = some s := by
  obtain ⟨l1, e1⟩ := List.getElem?_eq_some_iff.mp h
  rw [List.drop_eq_getElem_cons l1, e1]
  show (match fu ns x with | some s => some s | none => fus ns (as.drop (i + 1))) = _
  rw [hx]
section
variable {K : PySem.W.Frag} {σ : L2.St} {H G : Hp} {te ta tb tl tk tx : TE} {tt : TT} {v : V} {D : Ends} {tu tz : TS}
theorem ev_fld {o C dx : Addr} {fs : List (Str × V)} {f : Str} (h : Ev te σ H (.ref o)) (ho : H o = some (.ins C dx fs)) (cl : Cls K C) (nf : NoAttr K C f) (l : fs.lookup f = some v) : Ev (tFld K te f) σ H v := fun H1 e Q q =>
  h H1 e _ fun H2 e2 => ⟨o, C, dx, fs, v, rfl, (e.trans e2) _ _ ho, cl, nf, l, q H2 e2⟩
theorem ev_dget {d : Addr} {kvs : List (Key × V)} {k : Key} (h : Ev ta σ H (.ref d)) (hk : Ev tb σ H (kV k)) (hd : H d = some (.dK kvs)) (l : valV kvs k = some v) : Ev (tDGet ta tb) σ H v := fun H1 e Q q =>
  h H1 e _ fun H2 e2 => hk H2 (e.trans e2) _ fun H3 e3 => ⟨d, v, rfl, by rw [← l]; exact DGet.k (((e.trans e2).trans e3) _ _ hd), q H3 (e2.trans e3)⟩
theorem ev_dnin {d : Addr} {kvs : List (Key × V)} {k : Key} {b : Bool} (hk : Ev tb σ H (kV k)) (h : Ev ta σ H (.ref d)) (hd : H d = some (.dK kvs)) (l : (!(valV kvs k).isSome) = b) : Ev (tDNotIn tb ta) σ H (.bl b) := fun H1 e Q q =>
  hk H1 e _ fun H2 e2 => h H2 (e.trans e2) _ fun H3 e3 => ⟨d, _, rfl, DGet.k (((e.trans e2).trans e3) _ _ hd), by rw [l]; exact q H3 (e2.trans e3)⟩
end
section
variable {P : Program} {w : World} {K : PySem.W.Frag} {mg : Str → Option Value} {base : Heap} {C : Addr}
theorem kit_self {K : PySem.W.Frag} {C : Addr} : PySem.W.kitOne K (.ref C) (.ref C) = some true := by
  unfold PySem.W.kitOne
  rw [if_pos (by simp)]
theorem cls_some {K : PySem.W.Frag} {C : Addr} {t : Value} {b : Bool} (h : PySem.W.mroIn K C t = some b) : (PySem.W.clsIn K C).isSome = true := by
  unfold PySem.W.mroIn at h
  cases q : PySem.W.clsIn K C with
  | none => rw [q] at h; cases h
  | some x => rfl
theorem mro_no (o : O) (C : Addr) : ∃ l, PySem.fastBuiltinMro o.ty = some l ∧ l.contains (Value.ref C) = false := by
  cases o <;> refine ⟨_, rfl, ?_⟩ <;> rfl
theorem kit_no {K : PySem.W.Frag} {C : Addr} {o : O} (h : PySem.W.mroIn K C (.type "object") = some true) (ty : PySem.W.typeIn K (.ref C) = some (.type "type")) : PySem.W.kitOne K (.type o.ty) (.ref C) = some false := by
  unfold PySem.W.kitOne
  rw [if_neg (by simp)]
  unfold PySem.W.kitCls
  dsimp only
  rw [cls_some h, ty, if_pos (by simp)]
  obtain ⟨l, h1, h2⟩ := mro_no o C
  show (PySem.fastBuiltinMro o.ty).map (·.contains (Value.ref C)) = some false
  rw [h1]
  exact congrArg some h2
def spChk (K : PySem.W.Frag) (C : Addr) : Sp := fun vs H Q E => ∃ v, vs = [v] ∧ ((∃ o dr rs, v = .ref o ∧ OrdAt C H o dr rs ∧ RetV .non H Q) ∨ ∃ o, OV H v o ∧ BadZ K "BadOrder" "thing" v H E)
theorem sc_co : FnScope ["order"] ["order"] (defScope s_check_order) := ⟨rfl, rfl, rfl, by decide +kernel, rfl, by decide +kernel, by decide +kernel⟩
theorem ok_check_order (T : TO P w K mg base C) : Ok P w K mg base (L2.CX P w) "check_order" ["order"] 4 (spChk K C) := by
  refine T.toT28.okX 26 rfl sc_co (fun vs H Q E h => ?_) (fun kV doc pm an cdv ct us hl => match us, hl with | [_], _ => rfl) (fun f cdv A outer s H vs Q E hr h => ?_)
  · obtain ⟨v, rfl, _⟩ := h
    rfl
  · obtain ⟨v, rfl, h⟩ := h
    refine ⟨_, pss_one (ps_if (pt_not (pt_val (pe_callB call_isi (by rfl) T.isi PyProof.Rows.boot_isinstance (pa_cons (pv 0) (pa_cons (pe_glob (v := .ref C) rfl T.mgO rfl) pa_nil))))) (pss_one (ps_raiseE rfl T.toT28.bo (takes_of rfl rfl rfl rfl) (hr.mono (by decide)) (pv 0))) pss_nil), ?_⟩
    rcases h with ⟨o, dr, rs, rfl, ho, k⟩ | ⟨o, ho, k⟩
    · obtain ⟨dx, dw, dk, fs, xs, h1, _⟩ := ho.ex
      exact s_when (b := false) (et_not (a := true) (et_B (ev_cb (ea_cons (ev_var rfl) (ea_cons ev_c ea_nil)) fun H1 x Q q => ⟨.ref o, .ref C, .ref C, .ref C, true, rfl, .own C, .base (.ins (x _ _ h1) T.clO T.ha T.hn T.htk T.hm), kit_self, q H1 (Ex.refl H1)⟩))) (fun z => nomatch z) fun _ H1 e1 => k H1 e1
    · exact s_when (b := true) (et_not (a := false) (et_B (ev_cb (ea_cons (ev_var rfl) (ea_cons ev_c ea_nil)) fun H1 x Q q => ⟨v, .ref C, _, .ref C, false, rfl, .own C, (ho.ext x).tyx, kit_no T.hm T.tyO, q H1 (Ex.refl H1)⟩))) (fun _ H1 e1 => s_raise T.toT28.bo (ev_var rfl) fun d G e hd => k d G (e1.trans e) hd) (fun z => nomatch z)
def spFU (C : Addr) (m : Nat) : Sp := fun vs H Q _ => ∃ o dr rs v z, vs = [.ref o, v] ∧ OrdAt C H o dr rs ∧ WV H v z ∧ z.dp < m ∧ RetV (optS (fu (nms rs) z)) H Q
abbrev nFu : List Str := ["order", "word", "part", "name"]
theorem sc_fu : FnScope nFu ["order", "word"] (defScope s_first_unordered) := ⟨rfl, rfl, rfl, by decide +kernel, rfl, by decide +kernel, by decide +kernel⟩
theorem valr_is {rs : List (Str × Int)} {s : Str} : (valV (rkv 0 rs) (Sum.inr s : Key)).isSome = (nms rs).contains s := by
  cases h : (nms rs).contains s with
  | true => rw [val_r (List.contains_iff_mem.mp h)]; rfl
  | false => rw [valr_none fun q => by rw [List.contains_iff_mem.mpr q] at h; cases h]; rfl
theorem ok_first_unordered (T : TO P w K mg base C) : ∀ m, Ok P w K mg base CX0 "first_unordered" ["order", "word"] (m + 1) (spFU C m)
  | 0 => T.toT28.ok 27 rfl sc_fu (fun vs H Q E h => by obtain ⟨o, dr, rs, v, z, rfl, _⟩ := h; rfl) (fun kV doc pm an cdv ct us hl => match us, hl with | [_, _], _ => rfl) (fun f cdv A outer s H vs Q E hr h => by obtain ⟨o, dr, rs, v, z, _, _, _, h0, _⟩ := h; exact absurd h0 (Nat.not_lt_zero _))
  | m + 1 => by
    obtain ⟨fR, dR, GR, bR, kR, mR⟩ := (ok_first_unordered T m).ex
    refine T.toT28.ok 27 rfl sc_fu (fun vs H Q E h => ?_) (fun kV doc pm an cdv ct us hl => match us, hl with | [_, _], _ => rfl) (fun f cdv A outer s H vs Q E hr h => ?_)
    · obtain ⟨o, dr, rs, v, z, rfl, _⟩ := h
      rfl
    · obtain ⟨o, dr, rs, v, z, rfl, ho, hw, hz, k⟩ := h
      obtain ⟨dx, dw, dk, fs, xs, h1, l0, l1, l2, h2, h3, _⟩ := ho.ex
      refine ⟨_, pss_cons (ps_if (pt_val (pe_isiB T.isi T.str PyProof.Rows.boot_str (pv 1))) (pss_one (ps_ret pe_non)) pss_nil)
        (pss_cons (ps_if (pt_cmp (pc_dnotin (hu_of hr) (pe_ix ix_tup (pv 1) pe_int (fun _ _ => rfl)) (pe_fld (pv 0) rfl))) (pss_one (ps_ret (pe_ix ix_tup (pv 1) pe_int (fun _ _ => rfl)))) pss_nil)
        (pss_cons (ps_for PassesOwn.never rfl (pi_tup (pe_slice sl_tup (pv 1) (po_some pe_int) po_none)) (pg_name (i := 2) sc_fu.nd rfl (Or.inl rfl))
          (pss_cons (ps_set (i := 3) sc_fu.nd rfl (Or.inl rfl) (pe_call GR hr (by rfl) mR kR bR .nil pass0 (pa_cons (pv 0) (pa_cons (pv 2) pa_nil))))
          (pss_one (ps_if (pt_cmp (pc_notN (pv 3))) (pss_one (ps_ret (pv 3))) pss_nil))))
        (pss_one (ps_ret pe_non)))), ?_⟩
      cases z with
      | v s =>
        refine q_when (b := true) (et_is (et_B (ev_isStr (ev_var rfl) hw)) rfl) (fun _ H1 e1 => ?_) fun z => nomatch z
        exact s_ret ev_c fun H2 e2 => k H2 (e1.trans e2)
      | n s as =>
        obtain ⟨r, us, rfl, hr1, hu⟩ := hw.tup
        refine q_when (b := false) (et_is (et_B (ev_isStr (ev_var rfl) hw)) rfl) (fun z => nomatch z) fun _ H1 e1 => ?_
        have ix : ∀ {G : Hp} {σ : L2.St}, Ex H G → σ[1]? = some (some (.ref r)) → Ev (tOp (rIxT K) (tVar 1) (tC (.int 0))) σ G (.str s) := fun e h => ev_op (ev_var h) ev_c (rv_ixT (st_of (e _ _ hr1)) (atI_nat (j := 0) rfl))
        refine q_when (et_B (ev_dnin (k := Sum.inr s) (ix e1 rfl) (ev_fld (ev_var rfl) (e1 _ _ h1) T.clO T.nK l2) (e1 _ _ h3) (by rw [valr_is]))) (fun hb H2 e2 => ?_) fun hb H2 e2 => ?_
        · have e12 := e1.trans e2
          have hc : (nms rs).contains s = false := by simpa using hb
          refine s_ret (ix e12 rfl) fun H3 e3 => ?_
          have := k H3 (e12.trans e3)
          unfold fu at this
          rw [hc, if_neg (by decide)] at this
          exact this
        have e12 := e1.trans e2
        have hc : (nms rs).contains s = true := by
          cases q : (nms rs).contains s with
          | true => rfl
          | false => rw [q] at hb; cases hb
        have k' : RetV (optS (fus (nms rs) as)) H Q := fun H3 e3 => by
          have := k H3 e3
          unfold fu at this
          rw [hc, if_pos rfl] at this
          exact this
        have hda : ∀ x ∈ as, x.dp < m := fun x hx => by
          obtain ⟨i, hi⟩ := List.getElem?_of_mem hx
          have := W.lt_dp hi
          have : W.dps as + 1 < m + 1 := hz
          omega
        refine q_forNT (eu_tail (ev_var rfl) (st_of (e12 _ _ hr1))) (fun p i σ' H' => Ex H H' ∧ H' p = some (.tup us) ∧ fus (nms rs) (as.drop i) = fus (nms rs) as ∧ ∃ a b : Option V, σ' = [some (.ref o), some (.ref r), a, b]) ?_ ?_ ?_ ?_
        · exact fun p H3 hp e3 h3 => ⟨e12.trans e3, h3, rfl, none, none, rfl⟩
        · exact fun p i σ' H' hi z => st_of z.2.1
        · rintro p i x σ' H' hx ⟨e, hp, hf, a, b, rfl⟩
          obtain ⟨y, hy, hwy⟩ := (hu.ext e).getv hx
          refine q_asg (ev_call (ea_cons (ev_var rfl) (ea_cons (ev_var rfl) ea_nil)) fun H4 e4 Q q E => ⟨o, dr, rs, x, y, rfl, ho.ext (e.trans e4), hwy.ext e4, hda y (List.mem_of_getElem? hy), q⟩) fun H4 e4 => ?_
          cases hfy : fu (nms rs) y with
          | none =>
            refine s_when (b := false) (et_B (ev_notN (ev_var rfl) rfl)) (fun z => nomatch z) fun _ H5 e5 => ⟨(e.trans e4).trans e5, e5 _ _ (e4 _ _ hp), ?_, _, _, rfl⟩
            rw [← fus_drop hy hfy]
            exact hf
          | some t =>
            refine s_when (b := true) (et_B (ev_notN (ev_var rfl) rfl)) (fun _ H5 e5 => ?_) fun z => nomatch z
            rw [← hf, fus_at hy hfy] at k'
            exact s_ret (ev_var rfl) fun H6 e6 => k' H6 (((e.trans e4).trans e5).trans e6)
        · rintro p σ' H' ⟨e, _, hf, a, b, rfl⟩
          rw [hu.length, List.drop_length] at hf
          rw [← hf] at k'
          exact s_ret ev_c fun H4 e4 => k' H4 (e.trans e4)
def spCO (K : PySem.W.Frag) (C : Addr) : Sp := fun vs H Q E => ∃ o dr rs v, vs = [.ref o, v] ∧ OrdAt C H o dr rs ∧ ((NoW H v ∧ Bad K "BadWord" v H E) ∨ ∃ z, Lw H v z ∧ ((∃ s, fu (nms rs) z = some s ∧ BadZ K "NotOrdered" "name" (.str s) H E) ∨ (fu (nms rs) z = none ∧ ∀ r G, Ex H G → WV G r z → Q r G)))
abbrev nCo : List Str := ["order", "word", "told", "name"]
theorem sc_cho : FnScope nCo ["order", "word"] (defScope s_checked_ordered) := ⟨rfl, rfl, rfl, by decide +kernel, rfl, by decide +kernel, by decide +kernel⟩
theorem ok_checked_ordered (T : TO P w K mg base C) : Ok P w K mg base (L2.CX P w) "checked_ordered" ["order", "word"] 14 (spCO K C) := by
  obtain ⟨fW, dW, GW, bW, kW, mW⟩ := (ok_checked_word T.toT28).ex
  obtain ⟨fU, dU, GU, bU, kU, mU⟩ := (ok_first_unordered T 12).ex
  refine T.toT28.okX 28 rfl sc_cho (fun vs H Q E h => ?_) (fun kV doc pm an cdv ct us hl => match us, hl with | [_, _], _ => rfl) (fun f cdv A outer s H vs Q E hr h => ?_)
  · obtain ⟨o, dr, rs, v, rfl, _⟩ := h
    rfl
  · obtain ⟨o, dr, rs, v, rfl, ho, h⟩ := h
    refine ⟨_, pss_cons (ps_set (i := 2) sc_cho.nd rfl (Or.inl rfl) (pe_callS GW (hr.mono (by decide)) (by rfl) mW kW bW (fun σ => passAt (takes_of rfl rfl rfl rfl) σ) (pa_cons (pv 1) pa_nil)))
      (pss_cons (ps_set (i := 3) sc_cho.nd rfl (Or.inl rfl) (pe_call GU hr (by rfl) mU kU bU .nil pass0 (pa_cons (pv 0) (pa_cons (pv 2) pa_nil))))
      (pss_cons (ps_if (pt_cmp (pc_notN (pv 3))) (pss_one (ps_raiseE rfl T.toT28.no (takes_of rfl rfl rfl rfl) (hr.mono (by decide)) (pv 3))) pss_nil) (pss_one (ps_ret (pv 2))))), ?_⟩
    rcases h with ⟨hn, k⟩ | ⟨z, hz, h⟩
    · exact cw_bad (ev_var rfl) hn k
    refine cw_go (ev_var rfl) hz fun u G e hu => ?_
    refine q_asg (ev_call (ea_cons (ev_var rfl) (ea_cons (ev_var rfl) ea_nil)) fun H2 e2 Q q E => ⟨o, dr, rs, u, z, rfl, ho.ext (e.trans e2), hu.ext e2, hz.dp, q⟩) fun H2 e2 => ?_
    rcases h with ⟨s, hs, k⟩ | ⟨hs, k⟩
    · rw [hs]
      refine q_when (b := true) (et_B (ev_notN (ev_var rfl) rfl)) (fun _ H3 e3 => ?_) fun z => nomatch z
      exact s_raise T.toT28.no (ev_var rfl) fun d G e4 hd => k d G (((e.trans e2).trans e3).trans e4) hd
    · rw [hs]
      refine q_when (b := false) (et_B (ev_notN (ev_var rfl) rfl)) (fun z => nomatch z) fun _ H3 e3 => ?_
      exact s_ret (ev_var rfl) fun H4 e4 => k u H4 (((e.trans e2).trans e3).trans e4) (hu.ext ((e2.trans e3).trans e4))
end
end K28

set_option Elab.async false
set_option linter.all false
set_option maxRecDepth 100000
set_option maxHeartbeats 4000000
/-! The order of words, by weights: what holds of it. -/
namespace K28
open PySem PySem.Spec PyProof.Rows L2 Evl
instance : DecidableEq W := fun a b => if h : a.beq b = true then isTrue (W.beq_eq h) else isFalse fun e => h (by rw [e]; exact W.beq_self b)
theorem beq_dec {a b : W} : a.beq b = decide (a = b) := by
  by_cases h : a = b
  · rw [decide_eq_true h, h, W.beq_self]
  · rw [decide_eq_false h]
    cases q : a.beq b with
    | false => rfl
    | true => exact absurd (W.beq_eq q) h
mutual
def W.vs : W → List Str
  | .v s => [s]
  | .n _ as => W.vss as
def W.vss : List W → List Str
  | [] => []
  | x :: xs => x.vs ++ W.vss xs
end
mutual
def wt (rs : List (Str × Int)) : W → Int
  | .v _ => 1
  | .n s as => wOf rs s + wts rs as
def wts (rs : List (Str × Int)) : List W → Int
  | [] => 0
  | x :: xs => wt rs x + wts rs xs
end
/-- each as often there -/
def occ (l m : List Str) : Bool := l.all fun s => decide (l.count s ≤ m.count s)
theorem occ_iff {l m : List Str} : occ l m = true ↔ ∀ s, l.count s ≤ m.count s := by
  unfold occ
  rw [List.all_eq_true]
  constructor
  · intro h s
    by_cases hs : s ∈ l
    · exact of_decide_eq_true (h s hs)
    · rw [List.count_eq_zero_of_not_mem hs]
      exact Nat.zero_le _
  · exact fun h s _ => decide_eq_true (h s)
mutual
def abv (rs : List (Str × Int)) : W → W → Bool
  | .v _, _ => false
  | .n s as, z => if occ z.vs (W.n s as).vs = true then (if wt rs (.n s as) ≠ wt rs z then decide (wt rs z < wt rs (.n s as)) else match z with
    | .v _ => false
    | .n t bs => if s ≠ t then decide (rk rs t < rk rs s) else lexd rs as bs) else false
def lexd (rs : List (Str × Int)) : List W → List W → Bool
  | a :: as, b :: bs => if a = b then lexd rs as bs else abv rs a b
  | _, _ => false
end
theorem abv_iff {rs : List (Str × Int)} {s : Str} {as : List W} {z : W} : abv rs (.n s as) z = true ↔ (∀ x, z.vs.count x ≤ (W.n s as).vs.count x) ∧ (wt rs z < wt rs (.n s as) ∨ (wt rs (.n s as) = wt rs z ∧ ∃ t bs, z = .n t bs ∧ ((s ≠ t ∧ rk rs t < rk rs s) ∨ (s = t ∧ lexd rs as bs = true)))) := by
  rw [← occ_iff]
  unfold abv
  by_cases h1 : occ z.vs (W.n s as).vs = true
  · rw [if_pos h1]
    by_cases h2 : wt rs (.n s as) = wt rs z
    · rw [if_neg (fun q => q h2)]
      cases z with
      | v t =>
        constructor
        · intro h; cases h
        · rintro ⟨_, h | ⟨_, t, bs, h, _⟩⟩
          · omega
          · cases h
      | n t bs =>
        dsimp only
        by_cases h3 : s = t
        · rw [if_neg (fun q => q h3)]
          constructor
          · exact fun h => ⟨h1, .inr ⟨h2, t, bs, rfl, .inr ⟨h3, h⟩⟩⟩
          · rintro ⟨_, h | ⟨_, t', bs', h, (⟨a, _⟩ | ⟨_, b⟩)⟩⟩
            · omega
            · cases h; exact absurd h3 a
            · cases h; exact b
        · rw [if_pos h3]
          constructor
          · exact fun h => ⟨h1, .inr ⟨h2, t, bs, rfl, .inl ⟨h3, of_decide_eq_true h⟩⟩⟩
          · rintro ⟨_, h | ⟨_, t', bs', h, (⟨_, b⟩ | ⟨a, _⟩)⟩⟩
            · omega
            · cases h; exact decide_eq_true b
            · cases h; exact absurd a h3
    · rw [if_pos h2]
      constructor
      · exact fun h => ⟨h1, .inl (of_decide_eq_true h)⟩
      · rintro ⟨_, h | ⟨h, _⟩⟩
        · exact decide_eq_true h
        · exact absurd h h2
  · rw [if_neg h1]
    constructor
    · intro h; cases h
    · exact fun h => absurd h.1 h1
theorem lexd_cons {rs : List (Str × Int)} {a b : W} {as bs : List W} : lexd rs (a :: as) (b :: bs) = if a = b then lexd rs as bs else abv rs a b := by
  rw [lexd]
theorem lexd_nil {rs : List (Str × Int)} {bs : List W} : lexd rs [] bs = false := by
  rw [lexd]
  intro a as b bs h
  cases h
mutual
theorem abv_self (rs : List (Str × Int)) : ∀ z : W, abv rs z z = false
  | .v _ => by rw [abv]
  | .n s as => by
    cases q : abv rs (.n s as) (.n s as) with
    | false => rfl
    | true =>
      rw [abv_iff] at q
      obtain ⟨_, h | ⟨_, t, bs, h, (⟨a, _⟩ | ⟨_, b⟩)⟩⟩ := q
      · omega
      · cases h; exact absurd rfl a
      · cases h
        rw [lexd_self rs as] at b
        cases b
theorem lexd_self (rs : List (Str × Int)) : ∀ as : List W, lexd rs as as = false
  | [] => lexd_nil
  | a :: as => by rw [lexd_cons, if_pos rfl, lexd_self rs as]
end
/-! ### so many parts as the name asks -/
theorem W.ars_mem {x : W} : ∀ {as : List W}, W.ars as = true → x ∈ as → x.ar = true
  | [], _, h => by cases h
  | a :: as, h, hx => by
    obtain ⟨h1, h2⟩ := Bool.and_eq_true_iff.mp h
    rcases List.mem_cons.mp hx with rfl | hx
    · exact h1
    · exact W.ars_mem h2 hx
theorem W.ar_n {s : Str} {as : List W} (h : (W.n s as).ar = true) : as.length = arS s ∧ W.ars as = true := by
  obtain ⟨h1, h2⟩ := Bool.and_eq_true_iff.mp h
  exact ⟨of_decide_eq_true (Bool.and_eq_true_iff.mp h1).1, h2⟩
/-! ### it is an order -/
section
variable {rs : List (Str × Int)}
theorem rk_at {x : Str} : ∀ {rs : List (Str × Int)}, x ∈ rs.map (·.1) → (rs.map (·.1))[rk rs x]? = some x ∧ ∀ j, j < rk rs x → (rs.map (·.1))[j]? ≠ some x
  | [], h => by simp at h
  | r :: rs, h => by
    simp only [rk]
    by_cases e : r.1 = x
    · rw [if_pos e]
      exact ⟨by simp [e], fun j hj => absurd hj (Nat.not_lt_zero _)⟩
    · rw [if_neg e]
      have h1 : x ∈ rs.map (·.1) := by
        rcases List.mem_cons.mp h with q | q
        · exact absurd q.symm e
        · exact q
      obtain ⟨a, b⟩ := rk_at h1
      refine ⟨by simpa using a, fun j hj => ?_⟩
      cases j with
      | zero => simpa using e
      | succ j => simpa using b j (by omega)
theorem rk_inj {x y : Str} (hx : x ∈ nms rs) (hy : y ∈ nms rs) (h : rk rs x = rk rs y) : x = y := by
  have h1 := (rk_at hx).1
  have h2 := (rk_at hy).1
  rw [h] at h1
  rw [h1] at h2
  exact Option.some.inj h2
theorem lexd_trans : ∀ {as bs cs : List W}, as.length = bs.length → bs.length = cs.length → W.ars as = true → W.ars bs = true → W.ars cs = true → (∀ a ∈ as, ∀ b c, a.ar = true → b.ar = true → c.ar = true → abv rs a b = true → abv rs b c = true → abv rs a c = true) → lexd rs as bs = true → lexd rs bs cs = true → lexd rs as cs = true
  | [], _, _, _, _, _, _, _, _, h, _ => by rw [lexd_nil] at h; cases h
  | a :: as, [], _, hl, _, _, _, _, _, _, _ => by simp at hl
  | a :: as, b :: bs, [], _, hl, _, _, _, _, _, _ => by simp at hl
  | a :: as, b :: bs, c :: cs, l1, l2, r1, r2, r3, ht, h1, h2 => by
    obtain ⟨r1, q1⟩ := Bool.and_eq_true_iff.mp r1
    obtain ⟨r2, q2⟩ := Bool.and_eq_true_iff.mp r2
    obtain ⟨r3, q3⟩ := Bool.and_eq_true_iff.mp r3
    rw [lexd_cons] at h1 h2 ⊢
    by_cases e1 : a = b
    · subst e1
      rw [if_pos rfl] at h1
      by_cases e2 : a = c
      · subst e2
        rw [if_pos rfl] at h2 ⊢
        exact lexd_trans (by simpa using l1) (by simpa using l2) q1 q2 q3 (fun x hx => ht x (List.mem_cons_of_mem _ hx)) h1 h2
      · rw [if_neg e2] at h2 ⊢
        exact h2
    · rw [if_neg e1] at h1
      by_cases e2 : b = c
      · subst e2
        rw [if_neg e1]
        exact h1
      · rw [if_neg e2] at h2
        have h3 := ht a (by simp) b c r1 r2 r3 h1 h2
        have e3 : a ≠ c := by
          intro q
          subst q
          rw [abv_self] at h3
          cases h3
        rw [if_neg e3]
        exact h3
theorem abv_trans : ∀ (n : Nat) (x y z : W), x.dp < n → x.ar = true → y.ar = true → z.ar = true → abv rs x y = true → abv rs y z = true → abv rs x z = true
  | 0, _, _, _, h, _, _, _, _, _ => absurd h (Nat.not_lt_zero _)
  | n + 1, .v _, _, _, _, _, _, _, h1, _ => by rw [abv] at h1; cases h1
  | n + 1, .n s as, .v _, _, _, _, _, _, _, h2 => by rw [abv] at h2; cases h2
  | n + 1, .n s as, .n t bs, z, h, rx, ry, rz, h1, h2 => by
    rw [abv_iff] at h1 h2 ⊢
    obtain ⟨o1, h1⟩ := h1
    obtain ⟨o2, h2⟩ := h2
    refine ⟨fun x => Nat.le_trans (o2 x) (o1 x), ?_⟩
    rcases h1 with h1 | ⟨w1, t', bs', e1, h1⟩
    · rcases h2 with h2 | ⟨w2, _⟩
      · exact .inl (by omega)
      · exact .inl (by omega)
    · cases e1
      rcases h2 with h2 | ⟨w2, u, cs, rfl, h2⟩
      · exact .inl (by omega)
      refine .inr ⟨by omega, u, cs, rfl, ?_⟩
      rcases h1 with ⟨n1, r1⟩ | ⟨rfl, l1⟩
      · rcases h2 with ⟨n2, r2⟩ | ⟨rfl, l2⟩
        · exact .inl ⟨fun q => by rw [q] at r1; omega, by omega⟩
        · exact .inl ⟨n1, r1⟩
      · rcases h2 with ⟨n2, r2⟩ | ⟨rfl, l2⟩
        · exact .inl ⟨n2, r2⟩
        · have ax := W.ar_n rx
          have ay := W.ar_n ry
          have az := W.ar_n rz
          exact .inr ⟨rfl, lexd_trans (ax.1.trans ay.1.symm) (ay.1.trans az.1.symm) ax.2 ay.2 az.2 (fun a ha b c ra rb rc k1 k2 => abv_trans n a b c (by
            obtain ⟨i, hi⟩ := List.getElem?_of_mem ha
            have := W.lt_dp hi
            have : W.dps as + 1 < n + 1 := h
            omega) ra rb rc k1 k2) l1 l2⟩
theorem abv_asym {x y : W} (rx : x.ar = true) (ry : y.ar = true) (h : abv rs x y = true) : abv rs y x = false := by
  cases q : abv rs y x with
  | false => rfl
  | true =>
    have h1 := abv_trans (x.dp + 1) x y x (Nat.lt_succ_self _) rx ry rx h q
    rw [abv_self] at h1
    cases h1
/-! ### words without variables are above or below -/
theorem lexd_total : ∀ {as bs : List W}, as.length = bs.length → as ≠ bs → (∀ a ∈ as, ∀ b ∈ bs, a ≠ b → abv rs a b = true ∨ abv rs b a = true) → lexd rs as bs = true ∨ lexd rs bs as = true
  | [], [], _, h, _ => absurd rfl h
  | [], _ :: _, h, _, _ => by simp at h
  | _ :: _, [], h, _, _ => by simp at h
  | a :: as, b :: bs, hl, hn, ht => by
    rw [lexd_cons, lexd_cons]
    by_cases e : a = b
    · subst e
      rw [if_pos rfl, if_pos rfl]
      exact lexd_total (by simpa using hl) (fun q => hn (by rw [q])) fun x hx y hy => ht x (List.mem_cons_of_mem _ hx) y (List.mem_cons_of_mem _ hy)
    · rw [if_neg e, if_neg fun q => e q.symm]
      exact ht a (by simp) b (by simp) e
theorem vss_nil {x : W} : ∀ {as : List W}, W.vss as = [] → x ∈ as → x.vs = []
  | [], _, h => by cases h
  | a :: as, h, hx => by
    have h : a.vs ++ W.vss as = [] := h
    obtain ⟨h1, h2⟩ := List.append_eq_nil_iff.mp h
    rcases List.mem_cons.mp hx with rfl | hx
    · exact h1
    · exact vss_nil h2 hx
theorem fus_mem {ns : List Str} {x : W} : ∀ {as : List W}, fus ns as = none → x ∈ as → fu ns x = none
  | [], _, h => by cases h
  | a :: as, h, hx => by
    have h : (match fu ns a with | some s => some s | none => fus ns as) = none := h
    cases q : fu ns a with
    | some s => rw [q] at h; cases h
    | none =>
      rw [q] at h
      rcases List.mem_cons.mp hx with rfl | hx
      · exact q
      · exact fus_mem h hx
theorem fu_n {ns : List Str} {s : Str} {as : List W} (h : fu ns (.n s as) = none) : s ∈ ns ∧ fus ns as = none := by
  unfold fu at h
  cases q : ns.contains s with
  | true => rw [q, if_pos rfl] at h; exact ⟨List.contains_iff_mem.mp q, h⟩
  | false => rw [q, if_neg (by decide)] at h; cases h
theorem abv_total : ∀ (n : Nat) (x y : W), x.dp < n → x.ar = true → y.ar = true → x.vs = [] → y.vs = [] → fu (nms rs) x = none → fu (nms rs) y = none → x ≠ y → abv rs x y = true ∨ abv rs y x = true
  | 0, _, _, h, _, _, _, _, _, _, _ => absurd h (Nat.not_lt_zero _)
  | n + 1, .v _, _, _, _, _, h, _, _, _, _ => by cases h
  | n + 1, .n s as, .v _, _, _, _, _, h, _, _, _ => by cases h
  | n + 1, .n s as, .n t bs, h, rx, ry, gx, gy, nx, ny, hne => by
    have z1 : ∀ a, (W.n t bs).vs.count a ≤ (W.n s as).vs.count a := fun a => by rw [gx, gy]; exact Nat.le_refl _
    have z2 : ∀ a, (W.n s as).vs.count a ≤ (W.n t bs).vs.count a := fun a => by rw [gx, gy]; exact Nat.le_refl _
    rw [abv_iff, abv_iff]
    by_cases w1 : wt rs (.n s as) < wt rs (.n t bs)
    · exact .inr ⟨z2, .inl w1⟩
    by_cases w2 : wt rs (.n t bs) < wt rs (.n s as)
    · exact .inl ⟨z1, .inl w2⟩
    have we : wt rs (.n s as) = wt rs (.n t bs) := by omega
    have ns := fu_n nx
    have nt := fu_n ny
    by_cases e : s = t
    · subst e
      have ax := W.ar_n rx
      have ay := W.ar_n ry
      rcases lexd_total (rs := rs) (ax.1.trans ay.1.symm) (fun q => hne (by rw [q])) (fun a ha b hb hab => abv_total n a b (by
          obtain ⟨i, hi⟩ := List.getElem?_of_mem ha
          have := W.lt_dp hi
          have : W.dps as + 1 < n + 1 := h
          omega) (W.ars_mem ax.2 ha) (W.ars_mem ay.2 hb) (vss_nil gx ha) (vss_nil gy hb) (fus_mem ns.2 ha) (fus_mem nt.2 hb) hab) with q | q
      · exact .inl ⟨z1, .inr ⟨we, _, _, rfl, .inr ⟨rfl, q⟩⟩⟩
      · exact .inr ⟨z2, .inr ⟨we.symm, _, _, rfl, .inr ⟨rfl, q⟩⟩⟩
    · have hr : rk rs s ≠ rk rs t := fun q => e (rk_inj ns.1 nt.1 q)
      by_cases r1 : rk rs s < rk rs t
      · exact .inr ⟨z2, .inr ⟨we.symm, _, _, rfl, .inl ⟨fun q => e q.symm, r1⟩⟩⟩
      · exact .inl ⟨z1, .inr ⟨we, _, _, rfl, .inl ⟨e, by omega⟩⟩⟩
/-! ### weights are at least one -/
theorem wOf_one (R : RowsOk rs) {s : Str} (h : s ∈ nms rs) : 1 ≤ wOf rs s := by
  have key : ∀ rs : List (Str × Int), (∀ r ∈ rs, 1 ≤ r.2) → s ∈ rs.map (·.1) → 1 ≤ wOf rs s := by
    intro rs
    induction rs with
    | nil => intro _ h; cases h
    | cons r rs ih =>
      intro h1 h2
      unfold wOf
      by_cases e : r.1 = s
      · rw [if_pos e]
        exact h1 r (by simp)
      · rw [if_neg e]
        refine ih (fun q hq => h1 q (by simp [hq])) ?_
        rcases List.mem_cons.mp h2 with q | q
        · exact absurd q.symm e
        · exact q
  exact key rs (fun r hr => (R.one r hr).1) h
mutual
theorem wt_one (R : RowsOk rs) : ∀ z : W, fu (nms rs) z = none → 1 ≤ wt rs z
  | .v _, _ => Int.le_refl _
  | .n s as, h => by
    have h := fu_n h
    have h1 := wOf_one R h.1
    have h2 := wts_zero R as h.2
    show 1 ≤ wOf rs s + wts rs as
    omega
theorem wts_zero (R : RowsOk rs) : ∀ as : List W, fus (nms rs) as = none → 0 ≤ wts rs as
  | [], _ => Int.le_refl _
  | a :: as, h => by
    have h1 := wt_one R a (fus_mem h (by simp))
    have h2 := wts_zero R as (by
      have h : (match fu (nms rs) a with | some s => some s | none => fus (nms rs) as) = none := h
      rw [fus_mem (as := a :: as) h (by simp)] at h
      exact h)
    show 0 ≤ wt rs a + wts rs as
    omega
end
theorem fus_tail {ns : List Str} {a : W} {as : List W} (h : fus ns (a :: as) = none) : fu ns a = none ∧ fus ns as = none := by
  have h1 := fus_mem h (x := a) (by simp)
  have h : (match fu ns a with | some s => some s | none => fus ns as) = none := h
  rw [h1] at h
  exact ⟨h1, h⟩
/-! ### parts are below -/
mutual
theorem parts_le (R : RowsOk rs) : ∀ (z : W), fu (nms rs) z = none → ∀ q ∈ z.parts, wt rs q.2 ≤ wt rs z ∧ ∀ s, q.2.vs.count s ≤ z.vs.count s
  | .v s, _, q, hq => by
    obtain rfl : q = ([], .v s) := by simpa [W.parts] using hq
    exact ⟨Int.le_refl _, fun _ => Nat.le_refl _⟩
  | .n s as, h, q, hq => by
    have hq : q ∈ ([], W.n s as) :: W.partsL 0 as := hq
    have hn := fu_n h
    rcases List.mem_cons.mp hq with rfl | hq
    · exact ⟨Int.le_refl _, fun _ => Nat.le_refl _⟩
    · obtain ⟨h1, h2⟩ := partsL_le R 0 as hn.2 q hq
      have := wOf_one R hn.1
      exact ⟨by show wt rs q.2 ≤ wOf rs s + wts rs as; omega, h2⟩
theorem partsL_le (R : RowsOk rs) : ∀ (i : Nat) (as : List W), fus (nms rs) as = none → ∀ q ∈ W.partsL i as, wt rs q.2 ≤ wts rs as ∧ ∀ s, q.2.vs.count s ≤ (W.vss as).count s
  | _, [], _, q, hq => by cases hq
  | i, a :: as, h, q, hq => by
    have h := fus_tail h
    have hq : q ∈ (a.parts.map fun q => (i :: q.1, q.2)) ++ W.partsL (i + 1) as := hq
    have e : ∀ s, (W.vss (a :: as)).count s = a.vs.count s + (W.vss as).count s := fun s => List.count_append
    have w1 := wt_one R a h.1
    have w2 := wts_zero R as h.2
    rcases List.mem_append.mp hq with hq | hq
    · obtain ⟨p, hp, rfl⟩ := List.mem_map.mp hq
      obtain ⟨h1, h2⟩ := parts_le R a h.1 p hp
      exact ⟨by show wt rs p.2 ≤ wt rs a + wts rs as; omega, fun s => by rw [e]; have := h2 s; show p.2.vs.count s ≤ _; omega⟩
    · obtain ⟨h1, h2⟩ := partsL_le R (i + 1) as h.2 q hq
      exact ⟨by show wt rs q.2 ≤ wt rs a + wts rs as; omega, fun s => by rw [e]; have := h2 s; omega⟩
end
theorem abv_part (R : RowsOk rs) {z : W} (h : fu (nms rs) z = none) {q : List Nat × W} (hq : q ∈ z.parts.drop 1) : abv rs z q.2 = true := by
  cases z with
  | v s => cases hq
  | n s as =>
    have hq : q ∈ W.partsL 0 as := hq
    have hn := fu_n h
    obtain ⟨h1, h2⟩ := partsL_le R 0 as hn.2 q hq
    have := wOf_one R hn.1
    rw [abv_iff]
    exact ⟨h2, .inl (by show wt rs q.2 < wOf rs s + wts rs as; omega)⟩
/-! ### a context -/
theorem abv_ctx {x y : W} {g : Str} {t : W} (h : abv rs x y = true) : abv rs (.n g [x, t]) (.n g [y, t]) = true := by
  have hne : x ≠ y := fun q => by rw [q, abv_self] at h; cases h
  cases x with
  | v s => rw [abv] at h; cases h
  | n s as =>
    have h0 := h
    rw [abv_iff] at h0
    obtain ⟨o, hw⟩ := h0
    rw [abv_iff]
    refine ⟨fun a => ?_, ?_⟩
    · show (y.vs ++ (t.vs ++ [])).count a ≤ ((W.n s as).vs ++ (t.vs ++ [])).count a
      simp only [List.count_append]
      have := o a
      omega
    · have e1 : ∀ z : W, wt rs (.n g [z, t]) = wOf rs g + (wt rs z + (wt rs t + 0)) := fun z => rfl
      rw [e1, e1]
      rcases hw with hw | ⟨hw, _⟩
      · exact .inl (by omega)
      · refine .inr ⟨by omega, g, [y, t], rfl, .inr ⟨rfl, ?_⟩⟩
        rw [lexd_cons, if_neg hne]
        exact h
/-! ### words put for variables -/
def smI (g : Str → Int) : List Str → Int
  | [] => 0
  | s :: l => g s + smI g l
theorem smI_app {g : Str → Int} : ∀ (l m : List Str), smI g (l ++ m) = smI g l + smI g m
  | [], m => by show smI g m = 0 + smI g m; omega
  | s :: l, m => by show g s + smI g (l ++ m) = g s + smI g l + smI g m; rw [smI_app l m]; omega
theorem smI_perm {g : Str → Int} {l m : List Str} (h : l.Perm m) : smI g l = smI g m := by
  induction h with
  | nil => rfl
  | cons x _ ih => show g x + _ = g x + _; rw [ih]
  | swap x y l => show g y + (g x + smI g l) = g x + (g y + smI g l); omega
  | trans _ _ a b => exact a.trans b
theorem smI_nn {g : Str → Int} (h : ∀ s, 0 ≤ g s) : ∀ l : List Str, 0 ≤ smI g l
  | [] => Int.le_refl _
  | s :: l => by have := smI_nn h l; have := h s; show 0 ≤ g s + smI g l; omega
theorem perm_of_occ : ∀ {l m : List Str}, (∀ s, l.count s ≤ m.count s) → ∃ r, m.Perm (l ++ r)
  | [], m, _ => ⟨m, List.Perm.refl _⟩
  | a :: l, m, h => by
    have ha : a ∈ m := by
      have := h a
      rw [List.count_cons_self] at this
      exact List.count_pos_iff.mp (by omega)
    obtain ⟨r, hr⟩ := perm_of_occ (l := l) (m := m.erase a) fun s => by
      have := h s
      rw [List.count_erase]
      rw [List.count_cons] at this
      by_cases e : a = s
      · subst e
        simp at this ⊢
        omega
      · have e2 : (a == s) = false := beq_eq_false_iff_ne.mpr e
        have e3 : (s == a) = false := beq_eq_false_iff_ne.mpr fun q => e q.symm
        simp [e2, e3] at this ⊢
        omega
    exact ⟨r, (List.perm_cons_erase ha).trans (hr.cons a)⟩
def put1 (f : Str → Option W) (s : Str) : W := (f s).getD (.v s)
mutual
theorem vs_sub (f : Str → Option W) : ∀ z : W, (z.sub f).vs = z.vs.flatMap fun s => (put1 f s).vs
  | .v s => by
    show (W.sub f (.v s)).vs = [s].flatMap _
    rw [List.flatMap_cons, List.flatMap_nil, List.append_nil]
    rfl
  | .n s as => vss_subs f as
theorem vss_subs (f : Str → Option W) : ∀ as : List W, W.vss (W.subs f as) = (W.vss as).flatMap fun s => (put1 f s).vs
  | [] => rfl
  | a :: as => by
    show (a.sub f).vs ++ W.vss (W.subs f as) = (a.vs ++ W.vss as).flatMap _
    rw [List.flatMap_append, vs_sub f a, vss_subs f as]
end
mutual
theorem wt_sub (f : Str → Option W) : ∀ z : W, wt rs (z.sub f) = wt rs z + smI (fun s => wt rs (put1 f s) - 1) z.vs
  | .v s => by
    show wt rs (put1 f s) = 1 + (wt rs (put1 f s) - 1 + 0)
    omega
  | .n s as => by
    show wOf rs s + wts rs (W.subs f as) = wOf rs s + wts rs as + smI _ (W.vss as)
    rw [wts_subs f as]
    omega
theorem wts_subs (f : Str → Option W) : ∀ as : List W, wts rs (W.subs f as) = wts rs as + smI (fun s => wt rs (put1 f s) - 1) (W.vss as)
  | [] => rfl
  | a :: as => by
    show wt rs (a.sub f) + wts rs (W.subs f as) = wt rs a + wts rs as + smI _ (a.vs ++ W.vss as)
    rw [wt_sub f a, wts_subs f as, smI_app]
    omega
end
theorem lexd_sub {f : Str → Option W} : ∀ {as bs : List W}, (∀ a ∈ as, ∀ b, abv rs a b = true → abv rs (a.sub f) (b.sub f) = true) → lexd rs as bs = true → lexd rs (W.subs f as) (W.subs f bs) = true
  | [], _, _, h => by rw [lexd_nil] at h; cases h
  | a :: as, [], _, h => by rw [lexd] at h; cases h; intro x xs y ys _ z; cases z
  | a :: as, b :: bs, ih, h => by
    rw [lexd_cons] at h
    show lexd rs (a.sub f :: W.subs f as) (b.sub f :: W.subs f bs) = true
    rw [lexd_cons]
    by_cases e : a = b
    · subst e
      rw [if_pos rfl] at h ⊢
      exact lexd_sub (fun x hx => ih x (List.mem_cons_of_mem _ hx)) h
    · rw [if_neg e] at h
      have h2 := ih a (by simp) b h
      rw [if_neg fun q => by rw [q, abv_self] at h2; cases h2]
      exact h2
theorem abv_sub {f : Str → Option W} (hf : ∀ s, 1 ≤ wt rs (put1 f s)) : ∀ (n : Nat) (x y : W), x.dp < n → abv rs x y = true → abv rs (x.sub f) (y.sub f) = true
  | 0, _, _, h, _ => absurd h (Nat.not_lt_zero _)
  | n + 1, .v _, _, _, h => by rw [abv] at h; cases h
  | n + 1, .n s as, y, hd, h => by
    rw [abv_iff] at h
    obtain ⟨o, h⟩ := h
    show abv rs (.n s (W.subs f as)) (y.sub f) = true
    rw [abv_iff]
    obtain ⟨r, hr⟩ := perm_of_occ o
    have hw1 := wt_sub (rs := rs) f (.n s as)
    have hw2 := wt_sub (rs := rs) f y
    have hw1 : wt rs (.n s (W.subs f as)) = wt rs (.n s as) + smI (fun s => wt rs (put1 f s) - 1) (W.n s as).vs := hw1
    rw [smI_perm hr, smI_app] at hw1
    have hnn := smI_nn (g := fun s => wt rs (put1 f s) - 1) (fun s => by have := hf s; show 0 ≤ wt rs (put1 f s) - 1; omega) r
    refine ⟨fun a => ?_, ?_⟩
    · have hp : ((W.n s as).sub f).vs.Perm ((y.vs ++ r).flatMap fun s => (put1 f s).vs) := by
        rw [vs_sub]
        exact hr.flatMap_right _
      have e1 : (W.n s (W.subs f as)).vs.count a = ((y.vs ++ r).flatMap fun s => (put1 f s).vs).count a := hp.count_eq a
      rw [e1, vs_sub, List.flatMap_append, List.count_append]
      omega
    · rcases h with h | ⟨hwe, t, bs, rfl, hc⟩
      · exact .inl (by omega)
      · by_cases hz : smI (fun s => wt rs (put1 f s) - 1) r = 0
        · refine .inr ⟨by omega, t, W.subs f bs, rfl, ?_⟩
          rcases hc with hc | ⟨rfl, hc⟩
          · exact .inl hc
          · exact .inr ⟨rfl, lexd_sub (fun a ha b => abv_sub hf n a b (by
              obtain ⟨i, hi⟩ := List.getElem?_of_mem ha
              have := W.lt_dp hi
              have : W.dps as + 1 < n + 1 := hd
              omega)) hc⟩
        · exact .inl (by omega)
end
/-- what compare tells -/
def cmpS (rs : List (Str × Int)) (y z : W) : Str := if y = z then "same" else if abv rs y z = true then "above" else if abv rs z y = true then "below" else "none"
end K28

set_option Elab.async false
set_option linter.all false
set_option maxRecDepth 100000
set_option maxHeartbeats 4000000
/-! Words weighed. -/
namespace K28
open PySem PySem.Spec PyProof.Rows L2 Evl
/-- variables counted -/
structure Cn (kvs : List (Key × V)) (l : List Str) : Prop where
  val : ∀ s, valV kvs (Sum.inr s : Key) = if l.count s = 0 then none else some (.int (l.count s : Nat))
  keys : ∀ p ∈ kvs, ∃ s, p.1 = Sum.inr s
  len : kvs.length ≤ l.length
theorem Cn.nil : Cn [] [] := ⟨fun s => rfl, (fun p hp => nomatch hp), Nat.le_refl _⟩
theorem putK_keys {kvs : List (Key × V)} {k : Key} {v : V} {p : Key × V} (h : p ∈ putK kvs k v) : p.1 = k ∨ ∃ q ∈ kvs, q.1 = p.1 := by
  unfold putK at h
  split at h
  · obtain ⟨q, hq, e⟩ := List.mem_map.mp h
    refine .inr ⟨q, hq, ?_⟩
    rw [← e]
    split <;> rfl
  · rcases List.mem_append.mp h with h | h
    · exact .inr ⟨p, h, rfl⟩
    · obtain rfl : p = (k, v) := by simpa using h
      exact .inl rfl
theorem putK_len {kvs : List (Key × V)} {k : Key} {v : V} : (putK kvs k v).length ≤ kvs.length + 1 := by
  unfold putK
  split
  · rw [List.length_map]; omega
  · rw [List.length_append]; exact Nat.le_refl _
theorem Cn.put {kvs : List (Key × V)} {l : List Str} (h : Cn kvs l) (s : Str) : Cn (putK kvs (Sum.inr s) (.int ((l.count s : Nat) + 1))) (l ++ [s]) := by
  refine ⟨fun x => ?_, fun p hp => ?_, ?_⟩
  · rw [valV_put, h.val, List.count_append]
    by_cases e : x = s
    · subst e
      rw [if_pos rfl]
      have h1 : List.count x [x] = 1 := by simp
      rw [h1, if_neg (by omega)]
      congr 1
    · have e1 : (Sum.inr x : Key) ≠ Sum.inr s := fun q => e (Sum.inr.inj q)
      rw [if_neg e1]
      have h1 : List.count x [s] = 0 := by
        rw [List.count_eq_zero]
        intro q
        exact e (by simpa using q)
      rw [h1, Nat.add_zero]
  · rcases putK_keys hp with q | ⟨z, hz, e⟩
    · exact ⟨s, q⟩
    · obtain ⟨t, ht⟩ := h.keys z hz
      exact ⟨t, by rw [← e]; exact ht⟩
  · have := putK_len (kvs := kvs) (k := Sum.inr s) (v := .int ((l.count s : Nat) + 1))
    have := h.len
    rw [List.length_append, List.length_singleton]
    omega
theorem Cn.get {kvs : List (Key × V)} {l : List Str} (h : Cn kvs l) (s : Str) : (valV kvs (Sum.inr s : Key)).getD (.int 0) = .int (l.count s : Nat) := by
  rw [h.val]
  by_cases e : l.count s = 0
  · rw [if_pos e, e]; rfl
  · rw [if_neg e]; rfl
theorem valV_of_mem {kvs : List (Key × V)} {k : Key} {v : V} (h : (k, v) ∈ kvs) : (valV kvs k).isSome = true := by
  unfold valV
  cases q : kvs.find? fun kv => decide (kv.1 = k) with
  | some p => rfl
  | none => exact absurd (decide_eq_true (rfl : k = k)) (List.find?_eq_none.mp q _ h)
theorem Cn.at {kvs : List (Key × V)} {l : List Str} (h : Cn kvs l) {s : Str} {v : V} (hm : (Sum.inr s, v) ∈ kvs) : valV kvs (Sum.inr s : Key) = some (.int (l.count s : Nat)) := by
  have h1 := valV_of_mem hm
  rw [h.val] at h1 ⊢
  by_cases e : l.count s = 0
  · rw [if_pos e] at h1; cases h1
  · rw [if_neg e]
theorem Cn.mem {kvs : List (Key × V)} {l : List Str} (h : Cn kvs l) {s : Str} (hs : l.count s ≠ 0) : ∃ v, (Sum.inr s, v) ∈ kvs := valV_mem (by rw [h.val, if_neg hs]; rfl)
theorem wts_app (rs : List (Str × Int)) : ∀ xs ys : List W, wts rs (xs ++ ys) = wts rs xs + wts rs ys
  | [], ys => by show wts rs ys = 0 + wts rs ys; omega
  | x :: xs, ys => by show wt rs x + wts rs (xs ++ ys) = wt rs x + wts rs xs + wts rs ys; rw [wts_app rs xs ys]; omega
theorem vss_app : ∀ xs ys : List W, W.vss (xs ++ ys) = W.vss xs ++ W.vss ys
  | [], ys => rfl
  | x :: xs, ys => by show x.vs ++ W.vss (xs ++ ys) = x.vs ++ W.vss xs ++ W.vss ys; rw [vss_app xs ys, List.append_assoc]
theorem take1 {α : Type} {as : List α} {i : Nat} {x : α} (h : as[i]? = some x) : as.take (i + 1) = as.take i ++ [x] := by rw [List.take_succ, h]; rfl
theorem vss_len {as : List W} {i : Nat} {x : W} (h : as[i]? = some x) : (W.vss (as.take i)).length + x.vs.length ≤ (W.vss as).length := by
  have e : W.vss as = W.vss (as.take (i + 1)) ++ W.vss (as.drop (i + 1)) := by rw [← vss_app, List.take_append_drop]
  rw [e, take1 h, vss_app]
  show _ ≤ ((W.vss (as.take i) ++ (x.vs ++ [])) ++ W.vss (as.drop (i + 1))).length
  simp only [List.length_append, List.length_nil]
  omega
/-- what stands beside c stays -/
def Bt (c : Addr) (H G : Hp) : Prop := ∀ a u, a ≠ c → H a = some u → G a = some u
theorem Bt.refl {c : Addr} {H : Hp} : Bt c H H := fun _ _ _ h => h
theorem Bt.trans {c : Addr} {H G J : Hp} (a : Bt c H G) (b : Bt c G J) : Bt c H J := fun x u n h => b x u n (a x u n h)
theorem Bt.of {c : Addr} {H G : Hp} (e : Ex H G) : Bt c H G := fun a u _ h => e a u h
theorem Bt.upd {c : Addr} {H : Hp} {o : HO} : Bt c H (L2.upd H c o) := fun a u n h => by rw [upd_ne n]; exact h
theorem ex_bt {c : Addr} {H0 H G : Hp} (e : Ex H0 H) (b : Bt c H G) (n : H0 c = none) : Ex H0 G := fun a u h => b a u (ne_of_none h n) (e a u h)
section
variable {P : Program} {w : World} {K : PySem.W.Frag} {mg : Str → Option Value} {base : Heap} {C : Addr}
def spWe (C : Addr) (m : Nat) : Sp := fun vs H Q _ => ∃ (H0 : Hp) (o dr c : Addr) (rs : List (Str × Int)) (v : V) (z : W) (kvs : List (Key × V)) (l : List Str), vs = [.ref o, v, .ref c] ∧ H0 c = none ∧ Ex H0 H ∧ OrdAt C H0 o dr rs ∧ WV H0 v z ∧ z.dp < m ∧ fu (nms rs) z = none ∧ H c = some (.dK kvs) ∧ Cn kvs l ∧ l.length + z.vs.length ≤ 20000 ∧
  ∀ (G : Hp) (kvs' : List (Key × V)), Bt c H G → G c = some (.dK kvs') → Cn kvs' (l ++ z.vs) → Q (.int (wt rs z)) G
abbrev nWe : List Str := ["order", "word", "counts", "total", "part"]
theorem sc_we : FnScope nWe ["order", "word", "counts"] (defScope s_weigh) := ⟨rfl, rfl, rfl, by decide +kernel, rfl, by decide +kernel, by decide +kernel⟩
theorem ok_weigh (T : TO P w K mg base C) : ∀ m, Ok P w K mg base CX0 "weigh" ["order", "word", "counts"] (m + 1) (spWe C m)
  | 0 => T.toT28.ok 29 rfl sc_we (fun vs H Q E h => by obtain ⟨H0, o, dr, c, rs, v, z, kvs, l, rfl, _⟩ := h; rfl) (fun kV doc pm an cdv ct us hl => match us, hl with | [_, _, _], _ => rfl) (fun f cdv A outer s H vs Q E hr h => by obtain ⟨H0, o, dr, c, rs, v, z, kvs, l, _, _, _, _, _, h0, _⟩ := h; exact absurd h0 (Nat.not_lt_zero _))
  | m + 1 => by
    obtain ⟨fR, dR, GR, bR, kR, mR⟩ := (ok_weigh T m).ex
    refine T.toT28.ok 29 rfl sc_we (fun vs H Q E h => ?_) (fun kV doc pm an cdv ct us hl => match us, hl with | [_, _, _], _ => rfl) (fun f cdv A outer s H vs Q E hr h => ?_)
    · obtain ⟨H0, o, dr, c, rs, v, z, kvs, l, rfl, _⟩ := h
      rfl
    · obtain ⟨H0, o, dr, c, rs, v, z, kvs, l, rfl, n0, e0, ho, hw, hz, hN, hc, hcn, hlen, k⟩ := h
      refine ⟨_, pss_cons (ps_if (pt_val (pe_isiB T.isi T.str PyProof.Rows.boot_str (pv 1))) (pss_cons (ps_dput (hu_of hr) (pv 2) (pv 1) (pe_op op_add (pe_dget2 (hu_of hr) (pv 2) (pv 1) pe_int ⟨rfl, rfl, rfl, rfl⟩) pe_int) rfl) (pss_one (ps_ret pe_int))) pss_nil)
        (pss_cons (ps_set (i := 3) sc_we.nd rfl (Or.inl rfl) (pe_dget (hu_of hr) (pe_fld (pv 0) rfl) (pe_ix ix_tup (pv 1) pe_int (fun _ _ => rfl)) (fun _ _ => rfl)))
        (pss_cons (ps_for PassesOwn.never rfl (pi_tup (pe_slice sl_tup (pv 1) (po_some pe_int) po_none)) (pg_name (i := 4) sc_we.nd rfl (Or.inl rfl))
          (pss_one (ps_set (i := 3) sc_we.nd rfl (Or.inl rfl) (pe_op op_add (pv 3) (pe_call GR hr (by rfl) mR kR bR .nil pass0 (pa_cons (pv 0) (pa_cons (pv 4) (pa_cons (pv 2) pa_nil))))))))
        (pss_one (ps_ret (pv 3))))), ?_⟩
      cases z with
      | v s =>
        obtain rfl : v = .str s := hw
        refine q_when (b := true) (et_B (ev_isStr (o := .str s) (ev_var rfl) rfl)) (fun _ H1 e1 => ?_) fun z => nomatch z
        have hc1 := e1 _ _ hc
        refine ⟨.ref c, rfl, c, rfl, .inl ⟨kvs, .inl hc1⟩, .str s, rfl, valV kvs (Sum.inr s : Key), .inl ⟨kvs, Sum.inr s, .inl hc1, rfl, rfl⟩, ?_⟩
        rw [hcn.get]
        refine ⟨_, _, rfl, rfl, .ref c, rfl, .str s, rfl, c, _, rfl, DPut.k (k := Sum.inr s) hc1 (sz_lt (by have := hcn.len; omega)), ?_⟩
        refine k _ _ ((Bt.of e1).trans Bt.upd) upd_same (hcn.put s)
      | n s as =>
        obtain ⟨r, us, rfl, hr1, hu⟩ := hw.tup
        obtain ⟨dx, dw, dk, fs, xs, h1, l0, l1, l2, h2, h3, _⟩ := ho.ex
        have hn := fu_n hN
        refine q_when (b := false) (et_is (et_B (ev_isStr (ev_var rfl) (OV.ext e0 hw))) rfl) (fun z => nomatch z) fun _ H1 e1 => ?_
        have e01 := e0.trans e1
        refine q_asg (ev_dget (k := Sum.inr s) (ev_fld (ev_var rfl) (e01 _ _ h1) T.clO T.nW l1) (ev_op (ev_var rfl) ev_c (rv_ixT (st_of (e01 _ _ hr1)) (atI_nat (j := 0) rfl))) (e01 _ _ h2) (val_w hn.1)) fun H2 e2 => ?_
        have e02 := e01.trans e2
        have hda : ∀ x ∈ as, x.dp < m := fun x hx => by
          obtain ⟨i, hi⟩ := List.getElem?_of_mem hx
          have := W.lt_dp hi
          have : W.dps as + 1 < m + 1 := hz
          omega
        have hlen : l.length + (W.vss as).length ≤ 20000 := hlen
        refine q_forNT (eu_tail (ev_var rfl) (st_of (e02 _ _ hr1))) (fun p i σ' H' => Bt c H H' ∧ H' p = some (.tup us) ∧ (∃ a : Option V, σ' = [some (.ref o), some (.ref r), some (.ref c), some (.int (wOf rs s + wts rs (as.take i))), a]) ∧ ∃ kvs', H' c = some (.dK kvs') ∧ Cn kvs' (l ++ W.vss (as.take i))) ?_ ?_ ?_ ?_
        · intro p H3 hp e3 h3
          refine ⟨Bt.of ((e1.trans e2).trans e3), h3, ⟨none, ?_⟩, kvs, e3 _ _ (e2 _ _ (e1 _ _ hc)), ?_⟩
          · have e9 : wOf rs s + wts rs (as.take 0) = wOf rs s := by show wOf rs s + 0 = wOf rs s; omega
            rw [e9]
            rfl
          · show Cn kvs (l ++ [])
            rw [List.append_nil]
            exact hcn
        · exact fun p i σ' H' hi z => st_of z.2.1
        · rintro p i x σ' H' hx ⟨B, hp, ⟨a, rfl⟩, kvs', hc', hcn'⟩
          have e0' := ex_bt e0 B n0
          obtain ⟨y, hy, hwy⟩ := hu.getv hx
          have hvl := vss_len hy
          refine ⟨_, rfl, .ref o, rfl, x, rfl, .ref c, rfl, H0, o, dr, c, rs, x, y, kvs', l ++ W.vss (as.take i), rfl, n0, e0', ho, hwy, hda y (List.mem_of_getElem? hy), fus_mem hn.2 (List.mem_of_getElem? hy), hc', hcn', by rw [List.length_append]; omega, fun G kvs2 B2 hc2 hcn2 => ?_⟩
          refine ⟨_, _, rfl, rfl, B.trans B2, B2 _ _ (ne_of hp hc' (by intro z; cases z)) hp, ⟨some x, ?_⟩, kvs2, hc2, ?_⟩
          · have ee : wOf rs s + wts rs (as.take (i + 1)) = wOf rs s + wts rs (as.take i) + wt rs y := by
              rw [take1 hy, wts_app]
              show _ + (_ + (wt rs y + 0)) = _
              omega
            rw [ee]
            rfl
          · rw [take1 hy, vss_app]
            show Cn kvs2 (l ++ (W.vss (as.take i) ++ (y.vs ++ [])))
            rw [List.append_nil, ← List.append_assoc]
            exact hcn2
        · rintro p σ' H' ⟨B, hp, ⟨a, rfl⟩, kvs', hc', hcn'⟩
          rw [hu.length, List.take_length] at hcn' ⊢
          exact ⟨_, rfl, k H' kvs' B hc' hcn'⟩
end
end K28

set_option Elab.async false
set_option linter.all false
set_option maxRecDepth 100000
set_option maxHeartbeats 4000000
/-! Words compared. -/
namespace K28
open PySem PySem.Spec PyProof.Rows L2 Evl
def W.isV : W → Bool
  | .v _ => true
  | .n _ _ => false
section
variable {rs : List (Str × Int)}
theorem abv_no {y z : W} (h : occ z.vs y.vs = false) : abv rs y z = false := by
  cases y with
  | v s => rw [abv]
  | n s as => unfold abv; rw [h, if_neg (by decide)]
theorem abv_top {y z : W} (h : occ z.vs y.vs = true) (c : (decide (wt rs y ≠ wt rs z) || (y.isV || z.isV)) = true) (hz : 1 ≤ wt rs z) : abv rs y z = decide (wt rs z < wt rs y) := by
  cases y with
  | v s =>
    rw [abv]
    exact (decide_eq_false (by show ¬ wt rs z < 1; omega)).symm
  | n s as =>
    unfold abv
    rw [h, if_pos rfl]
    by_cases e : wt rs (.n s as) = wt rs z
    · rw [if_neg (fun q => q e)]
      cases z with
      | v t => exact (decide_eq_false (by omega)).symm
      | n t bs => rw [decide_eq_false (fun q => q e)] at c; cases c
    · rw [if_pos e]
theorem abv_head {s t : Str} {as bs : List W} (h : occ (W.n t bs).vs (W.n s as).vs = true) (e : wt rs (.n s as) = wt rs (.n t bs)) : abv rs (.n s as) (.n t bs) = if s ≠ t then decide (rk rs t < rk rs s) else lexd rs as bs := by
  rw [abv, h, if_pos rfl, if_neg (fun q => q e)]
theorem lexd_step {as bs : List W} {i : Nat} {a : W} (h1 : as[i]? = some a) (h2 : bs[i]? = some a) : lexd rs (as.drop i) (bs.drop i) = lexd rs (as.drop (i + 1)) (bs.drop (i + 1)) := by
  obtain ⟨l1, e1⟩ := List.getElem?_eq_some_iff.mp h1
  obtain ⟨l2, e2⟩ := List.getElem?_eq_some_iff.mp h2
  rw [List.drop_eq_getElem_cons l1, List.drop_eq_getElem_cons l2, e1, e2, lexd_cons, if_pos rfl]
theorem lexd_ne {as bs : List W} {i : Nat} {a b : W} (h1 : as[i]? = some a) (h2 : bs[i]? = some b) (n : a ≠ b) : lexd rs (as.drop i) (bs.drop i) = abv rs a b := by
  obtain ⟨l1, e1⟩ := List.getElem?_eq_some_iff.mp h1
  obtain ⟨l2, e2⟩ := List.getElem?_eq_some_iff.mp h2
  rw [List.drop_eq_getElem_cons l1, List.drop_eq_getElem_cons l2, e1, e2, lexd_cons, if_neg n]
theorem lexd_nilR {as : List W} : lexd rs as [] = false := by
  cases as with
  | nil => exact lexd_nil
  | cons a as =>
    rw [lexd]
    intro x xs y ys _ z
    cases z
theorem lexd_end {as bs : List W} {i : Nat} (h : as.length ≤ i ∨ bs.length ≤ i) : lexd rs (as.drop i) (bs.drop i) = false := by
  rcases h with h | h
  · rw [List.drop_eq_nil_of_le h]
    exact lexd_nil
  · rw [List.drop_eq_nil_of_le h]
    exact lexd_nilR
end
mutual
theorem W.vs_sz : ∀ z : W, z.vs.length ≤ z.sz
  | .v _ => Nat.le_refl _
  | .n _ as => by have := W.vss_sz as; show (W.vss as).length ≤ W.szs as + 2; omega
theorem W.vss_sz : ∀ as : List W, (W.vss as).length ≤ W.szs as
  | [] => Nat.le_refl _
  | a :: as => by have := W.vs_sz a; have := W.vss_sz as; show (a.vs ++ W.vss as).length ≤ a.sz + W.szs as; rw [List.length_append]; omega
end
theorem Lw.ss {H : Hp} {v : V} {z : W} (h : Lw H v z) : z.o.ss = true := by
  obtain ⟨⟨o, rd, hf, e⟩, hd⟩ := h
  rw [← e, strip_ss]
  exact rd.ss
theorem W.ss_arg {s : Str} {as : List W} (h : (W.n s as).o.ss = true) {x : W} (hx : x ∈ as) : x.o.ss = true := by
  have h : (SS.contains s && O.sss (W.os as)) = true := h
  have h2 := (Bool.and_eq_true_iff.mp h).2
  have key : ∀ as : List W, O.sss (W.os as) = true → x ∈ as → x.o.ss = true := by
    intro as
    induction as with
    | nil => intro _ h; cases h
    | cons a as ih =>
      intro h hx
      have h : (a.o.ss && O.sss (W.os as)) = true := h
      obtain ⟨h1, h2⟩ := Bool.and_eq_true_iff.mp h
      rcases List.mem_cons.mp hx with rfl | hx
      · exact h1
      · exact ih h2 hx
  exact key as h2 hx
theorem isV_str (z : W) : z.o.isStr = z.isV := by cases z <;> rfl
section
variable {K : PySem.W.Frag} {H : Hp}
theorem rv_eqW {u v : V} {z y : W} (h1 : WV H u z) (h2 : WV H v y) (s1 : z.o.ss = true) (s2 : y.o.ss = true) (d1 : z.dp ≤ 60) (d2 : y.dp ≤ 60) : RV (rEqD K) u v H (.bl (z.beq y)) := fun H1 e Q q =>
  ⟨z.o.py, y.o.py, WV.dpd (h1.ext e), WV.dpd (h2.ext e), by unfold SeqAt.shaped; rw [W.lay z s1, W.pdp z, decide_eq_true (by omega)]; rfl, by unfold SeqAt.shaped; rw [W.lay y s2, W.pdp y, decide_eq_true (by omega)]; rfl, by
    rw [eqv_w]
    exact q H1 (Ex.refl _)⟩
end
section
variable {P : Program} {w : World} {K : PySem.W.Frag} {mg : Str → Option Value} {base : Heap} {C : Addr}
def spAb (C : Addr) (m : Nat) : Sp := fun vs H Q _ => ∃ o dr rs v u y z, vs = [.ref o, v, u] ∧ OrdAt C H o dr rs ∧ RowsOk rs ∧ WV H v y ∧ WV H u z ∧ y.dp < m ∧ y.dp < 12 ∧ z.dp < 12 ∧ fu (nms rs) y = none ∧ fu (nms rs) z = none ∧ y.vs.length ≤ 9000 ∧ z.vs.length ≤ 9000 ∧ y.o.ss = true ∧ z.o.ss = true ∧ RetV (.bl (abv rs y z)) H Q
abbrev nAb : List Str := ["order", "one", "other", "mine", "others", "weight", "other_weight", "variable", "left", "right"]
theorem sc_ab : FnScope nAb ["order", "one", "other"] (defScope s_is_above) := ⟨rfl, rfl, rfl, by decide +kernel, rfl, by decide +kernel, by decide +kernel⟩
theorem vs_arg {x : W} : ∀ {as : List W}, x ∈ as → x.vs.length ≤ (W.vss as).length
  | [], h => by cases h
  | a :: as, h => by
    show _ ≤ (a.vs ++ W.vss as).length
    rw [List.length_append]
    rcases List.mem_cons.mp h with rfl | h
    · omega
    · have := vs_arg h; omega
theorem ok_is_above (T : TO P w K mg base C) : ∀ m, Ok P w K mg base CX0 "is_above" ["order", "one", "other"] (m + 14) (spAb C m)
  | 0 => (T.toT28.ok 30 rfl sc_ab (k := 13) (fun vs H Q E h => by obtain ⟨o, dr, rs, v, u, y, z, rfl, _⟩ := h; rfl) (fun kV doc pm an cdv ct us hl => match us, hl with | [_, _, _], _ => rfl) (fun f cdv A outer s H vs Q E hr h => by obtain ⟨o, dr, rs, v, u, y, z, _, _, _, _, _, h0, _⟩ := h; exact absurd h0 (Nat.not_lt_zero _)))
  | m + 1 => by
    obtain ⟨fR, dR, GR, bR, kR, mR⟩ := (ok_is_above T m).ex
    obtain ⟨fW, dW, GW, bW, kW, mW⟩ := (ok_weigh T 12).ex
    refine T.toT28.ok 30 rfl sc_ab (fun vs H Q E h => ?_) (fun kV doc pm an cdv ct us hl => match us, hl with | [_, _, _], _ => rfl) (fun f cdv A outer s H vs Q E hr h => ?_)
    · obtain ⟨o, dr, rs, v, u, y, z, rfl, _⟩ := h
      rfl
    · obtain ⟨o, dr, rs, v, u, y, z, rfl, ho, R, hy, hz, hm, hy12, hz12, ny, nz, vy, vz, sy, sz, k⟩ := h
      obtain ⟨dx, dw, dk, fs, xs, h1, l0, l1, l2, h2, h3, _⟩ := ho.ex
      refine ⟨_, pss_cons (ps_par (i := 3) (j := 4) rfl sc_ab.nd rfl rfl (by decide) rfl rfl (pa_cons pe_dnewK (pa_cons pe_dnewK pa_nil)) (by rfl))
        (pss_cons (ps_par (i := 5) (j := 6) rfl sc_ab.nd rfl rfl (by decide) rfl rfl (pa_cons (pe_call GW (hr.mono (by omega)) (by rfl) mW kW bW .nil pass0 (pa_cons (pv 0) (pa_cons (pv 1) (pa_cons (pv 3) pa_nil)))) (pa_cons (pe_call GW (hr.mono (by omega)) (by rfl) mW kW bW .nil pass0 (pa_cons (pv 0) (pa_cons (pv 2) (pa_cons (pv 4) pa_nil)))) pa_nil)) (by rfl))
        (pss_cons (ps_lock (ps_for PassesOwn.never rfl (pi_keys (pv 4)) (pg_name (i := 7) sc_ab.nd rfl (Or.inl rfl))
          (pss_one (ps_if (pt_cmpR op_lt (pe_dget2 (hu_of hr) (pv 3) (pv 7) pe_int ⟨rfl, rfl, rfl, rfl⟩) (pe_dget (hu_of hr) (pv 4) (pv 7) (fun _ _ => rfl)) (nomark _)) (pss_one (ps_ret pe_bl)) pss_nil))))
        (pss_cons (ps_if (PW.pt (pw_or (pt_cmpR op_ne (pv 5) (pv 6) (nomark _)) (pw_or (pt_val (pe_isiB T.isi T.str PyProof.Rows.boot_str (pv 1))) (pw_or1 (pt_val (pe_isiB T.isi T.str PyProof.Rows.boot_str (pv 2))))))) (pss_one (ps_ret (pe_cmpR op_gt (pv 5) (pv 6) (nomark _)))) pss_nil)
        (pss_cons (ps_if (pt_cmpR op_ne (pe_ix ix_tup (pv 1) pe_int (fun _ _ => rfl)) (pe_ix ix_tup (pv 2) pe_int (fun _ _ => rfl)) (nomark _)) (pss_one (ps_ret (pe_cmpR op_gt (pe_dget (hu_of hr) (pe_fld (pv 0) rfl) (pe_ix ix_tup (pv 1) pe_int (fun _ _ => rfl)) (fun _ _ => rfl)) (pe_dget (hu_of hr) (pe_fld (pv 0) rfl) (pe_ix ix_tup (pv 2) pe_int (fun _ _ => rfl)) (fun _ _ => rfl)) (nomark _)))) pss_nil)
        (pss_cons (ps_for PassesOwn.never rfl (RZ.pi_zipA (by rfl) T.zip (pa_cons (pe_slice sl_tup (pv 1) (po_some pe_int) po_none) (pa_cons (pe_slice sl_tup (pv 2) (po_some pe_int) po_none) pa_nil))) (pg_tup rfl (pgs_cons (pg_name (i := 8) sc_ab.nd rfl (Or.inl rfl)) (pgs_cons (pg_name (i := 9) sc_ab.nd rfl (Or.inl rfl)) pgs_nil)))
          (pss_one (ps_if (pt_cmpR (op_neD hr.units) (pv 8) (pv 9) (nomark _)) (pss_one (ps_ret (pe_call GR hr (by rfl) mR kR bR .nil pass0 (pa_cons (pv 0) (pa_cons (pv 8) (pa_cons (pv 9) pa_nil)))))) pss_nil)))
        (pss_one (ps_ret pe_bl))))))), ?_⟩
      intro d1 hd1 d2 hd2
      have e1 : Ex H (upd H d1 (.dK [])) := Ex.new hd1
      have g1 : (upd (upd H d1 (.dK [])) d2 (.dK [])) d1 = some (.dK []) := Ex.new hd2 _ _ upd_same
      have g2 : (upd (upd H d1 (.dK [])) d2 (.dK [])) d2 = some (.dK []) := upd_same
      have e2 : Ex H (upd (upd H d1 (.dK [])) d2 (.dK [])) := e1.trans (Ex.new hd2)
      have nd : d1 ≠ d2 := fun q => by rw [q] at hd2; rw [← q, upd_same] at hd2; cases hd2
      have hd2H : H d2 = none := fresh_back e1 hd2
      generalize upd (upd H d1 (.dK [])) d2 (.dK []) = H2 at e2 g1 g2 ⊢
      refine ⟨_, _, rfl, ?_⟩
      refine ⟨.ref o, rfl, v, rfl, .ref d1, rfl, H, o, dr, d1, rs, v, y, [], [], rfl, hd1, e2, ho, hy, hy12, ny, g1, Cn.nil, by simp; omega, fun G1 k1 B1 q1 c1 => ?_⟩
      have e3 := ex_bt e2 B1 hd1
      have g2' := B1 _ _ (Ne.symm nd) g2
      refine ⟨.ref o, rfl, u, rfl, .ref d2, rfl, H, o, dr, d2, rs, u, z, [], [], rfl, hd2H, e3, ho, hz, hz12, nz, g2', Cn.nil, by simp; omega, fun G2 k2 B2 q2 c2 => ?_⟩
      have e4 := ex_bt e3 B2 hd2H
      have q1' := B2 _ _ nd q1
      refine ⟨_, _, rfl, ?_⟩
      rw [List.nil_append] at c1 c2
      clear B1 B2 g1 g2 g2' e3 q1
      refine ⟨d2, .dK k2, q2, trivial, fun od => ⟨.ref d2, rfl, d2, od, rfl, .inl ⟨k2, upd_same, ?_⟩⟩⟩
      have back : ∀ {J : Hp}, Ex (upd G2 d2 (.frz od (.dK k2))) J → Ex H (upd J d2 (.dK k2)) := fun {J} eJ a x ha => by
        have na : a ≠ d2 := ne_of_none ha hd2H
        rw [upd_ne na]
        refine eJ _ _ ?_
        rw [upd_ne na]
        exact e4 _ _ ha
      have q1f : (upd G2 d2 (.frz od (.dK k2))) d1 = some (.dK k1) := by rw [upd_ne nd]; exact q1'
      refine for_it walk_keys (fun i σ' G => (∃ b : Option V, σ' = [some (.ref o), some v, some u, some (.ref d1), some (.ref d2), some (.int (wt rs y)), some (.int (wt rs z)), b, none, none]) ∧ Ex (upd G2 d2 (.frz od (.dK k2))) G ∧ ∀ j, j < i → ∀ t b, k2[j]? = some (Sum.inr t, b) → z.vs.count t ≤ y.vs.count t) ⟨⟨_, rfl⟩, Ex.refl _, fun j hj => absurd hj (Nat.not_lt_zero _)⟩ (fun i σ' G _ c => c.2.1 _ _ upd_same) ?_ ?_
      · rintro i x σ' G G' hi ⟨⟨b, rfl⟩, eG, hall⟩ ⟨rfl, kk, yv, hk, rfl⟩
        obtain ⟨t, ht⟩ := c2.keys _ (List.mem_of_getElem? hk)
        obtain rfl : kk = Sum.inr t := ht
        have hval := c2.at (List.mem_of_getElem? hk)
        refine s_when (b := decide (y.vs.count t < z.vs.count t)) (et_is (et_test (ev_op (x := .int (y.vs.count t : Nat)) (y := .int (z.vs.count t : Nat)) (fun J eJ Q q => ⟨.ref d1, rfl, d1, rfl, .inl ⟨k1, .inl (eJ _ _ (eG _ _ q1f))⟩, .str t, rfl, valV k1 (Sum.inr t : Key), .inl ⟨k1, Sum.inr t, .inl (eJ _ _ (eG _ _ q1f)), rfl, rfl⟩, by
            rw [c1.get]
            exact q J (Ex.refl _)⟩) (fun J eJ Q q => ⟨.ref d2, rfl, .str t, rfl, d2, _, rfl, .inl ⟨k2, Sum.inr t, .inr ⟨od, eJ _ _ (eG _ _ upd_same)⟩, rfl, hval.symm⟩, q J (Ex.refl _)⟩) rv_I0)) (decide_eq_decide.mpr (by omega))) (fun hb J eJ => ?_) fun hb J eJ => ?_
        · refine s_ret ev_c fun J2 e5 => ?_
          have eA := (eG.trans eJ).trans e5
          refine ⟨eA _ _ upd_same, ?_⟩
          have hlt := of_decide_eq_true hb
          have hno : occ z.vs y.vs = false := by
            cases q : occ z.vs y.vs with
            | false => rfl
            | true => have := occ_iff.mp q t; omega
          rw [abv_no hno] at k
          exact k _ (back eA)
        · refine ⟨⟨_, rfl⟩, eG.trans eJ, fun j hj t' b' hjt => ?_⟩
          rcases Nat.lt_or_ge j i with q | q
          · exact hall j q t' b' hjt
          · obtain rfl : j = i := by omega
            rw [hk] at hjt
            obtain rfl : t = t' := Sum.inr.inj (Prod.mk.inj (Option.some.inj hjt)).1
            have := of_decide_eq_false hb
            omega
      rintro σ' G ⟨⟨b, rfl⟩, eG, hall⟩
      refine ⟨eG _ _ upd_same, ?_⟩
      have hocc : occ z.vs y.vs = true := occ_iff.mpr fun t => by
        by_cases h0 : z.vs.count t = 0
        · omega
        · obtain ⟨v', hv'⟩ := c2.mem h0
          obtain ⟨j, hj⟩ := List.getElem?_of_mem hv'
          exact hall j (List.getElem?_eq_some_iff.mp hj).1 t v' hj
      have e04 := back eG
      generalize upd G d2 (.dK k2) = H4 at e04 ⊢
      clear eG back q1f q1' q2 e4 e2
      -- by weight
      refine q_when (b := decide (wt rs y ≠ wt rs z) || (y.isV || z.isV)) (et_or (et_is (et_test (ev_op (ev_var rfl) (ev_var rfl) (rv_ne rfl))) (by
          by_cases q : wt rs y = wt rs z
          · rw [q, decide_eq_true rfl, decide_eq_false (fun w => w rfl)]; rfl
          · rw [decide_eq_true q, decide_eq_false (fun w => q (V.int.inj w))]; rfl)) fun _ => et_or (et_is (et_B (ev_isStr (ev_var rfl) (OV.ext e04 hy))) (isV_str y)) fun _ => et_is (et_B (ev_isStr (ev_var rfl) (OV.ext e04 hz))) (isV_str z)) (fun hb H5 e5 => ?_) fun hb H5 e5 => ?_
      · rw [abv_top hocc hb (wt_one R z nz)] at k
        exact s_ret (ev_op (ev_var rfl) (ev_var rfl) rv_I0) fun H6 e6 => k H6 ((e04.trans e5).trans e6)
      have hwt : wt rs y = wt rs z := by
        by_cases q : wt rs y = wt rs z
        · exact q
        · rw [decide_eq_true q] at hb; cases hb
      rw [decide_eq_false (fun w => w hwt), Bool.false_or] at hb
      cases y with
      | v s => cases hb
      | n s as =>
      cases z with
      | v t => cases hb
      | n t bs =>
      obtain ⟨r1, us1, rfl, hr1, hu1⟩ := hy.tup
      obtain ⟨r2, us2, rfl, hr2, hu2⟩ := hz.tup
      have e05 := e04.trans e5
      have hny := fu_n ny
      have hnz := fu_n nz
      rw [abv_head hocc hwt] at k
      have ix : ∀ {σ : L2.St} {G : Hp} {i : Nat} {r : Addr} {us : List V} {s : Str}, Ex H G → H r = some (.tup (.str s :: us)) → σ[i]? = some (some (.ref r)) → Ev (tOp (rIxT K) (tVar i) (tC (.int 0))) σ G (.str s) := fun e h a => ev_op (ev_var a) ev_c (rv_ixT (st_of (e _ _ h)) (atI_nat (j := 0) rfl))
      by_cases hst : s = t
      · subst hst
        rw [if_neg (fun q => q rfl)] at k
        refine q_when (b := false) (et_is (et_test (ev_op (ix e05 hr1 rfl) (ix e05 hr2 rfl) (rv_ne rfl))) (by simp)) (fun z => nomatch z) fun _ H6 e6 => ?_
        have e06 := e05.trans e6
        have hda : ∀ x ∈ as, x.dp < m := fun x hx => by
          obtain ⟨i, hi⟩ := List.getElem?_of_mem hx
          have := W.lt_dp hi
          have : W.dps as + 1 < m + 1 := hm
          omega
        have hda2 : ∀ x ∈ as, x.dp < 12 := fun x hx => by
          obtain ⟨i, hi⟩ := List.getElem?_of_mem hx
          have := W.lt_dp hi
          have : W.dps as + 1 < 12 := hy12
          omega
        have hdb : ∀ x ∈ bs, x.dp < 12 := fun x hx => by
          obtain ⟨i, hi⟩ := List.getElem?_of_mem hx
          have := W.lt_dp hi
          have : W.dps bs + 1 < 12 := hz12
          omega
        refine q_forZipNT (eu_tail (ev_var rfl) (st_of (e06 _ _ hr1))) (eu_tail (ev_var rfl) (st_of (e06 _ _ hr2))) (fun i σ' H' => Ex H6 H' ∧ lexd rs (as.drop i) (bs.drop i) = lexd rs as bs ∧ ∃ a c0 : Option V, σ' = [some (.ref o), some (.ref r1), some (.ref r2), some (.ref d1), some (.ref d2), some (.int (wt rs (.n s as))), some (.int (wt rs (.n s bs))), b, a, c0]) ?_ ?_ ?_ ?_ ?_
        · exact fun H7 e7 => ⟨e7, rfl, none, none, rfl⟩
        · exact fun i σ' H' z => z.1
        · exact fun i σ' H' G z e => ⟨z.1.trans e, z.2⟩
        · rintro i x1 x2 σ' H' hx1 hx2 ⟨e7, hlex, a, c0, rfl⟩ N hN2
          obtain ⟨w1, hw1, hv1⟩ := (hu1.ext (e06.trans e7)).getv hx1
          obtain ⟨w2, hw2, hv2⟩ := (hu2.ext (e06.trans e7)).getv hx2
          have m1 := List.mem_of_getElem? hw1
          have m2 := List.mem_of_getElem? hw2
          have dw1 := hda2 _ m1
          have dw2 := hdb _ m2
          have va1 := vs_arg m1
          have va2 := vs_arg m2
          have vy : (W.vss as).length ≤ 9000 := vy
          have vz : (W.vss bs).length ≤ 9000 := vz
          refine s_when (et_test (ev_op (ev_var rfl) (ev_var rfl) (rv_neW hv1 hv2 (W.ss_arg sy m1) (W.ss_arg sz m2) (by omega) (by omega)))) (fun hb H8 e8 => ?_) fun hb H8 e8 => ?_
          · have hne : w1 ≠ w2 := by rw [beq_dec] at hb; simpa using hb
            rw [← hlex, lexd_ne hw1 hw2 hne] at k
            exact s_ret (ev_call (ea_cons (ev_var rfl) (ea_cons (ev_var rfl) (ea_cons (ev_var rfl) ea_nil))) fun H9 e9 Q q E => ⟨o, dr, rs, x1, x2, w1, w2, rfl, ho.ext (((e06.trans e7).trans e8).trans e9), R, hv1.ext (e8.trans e9), hv2.ext (e8.trans e9), hda _ m1, dw1, dw2, fus_mem hny.2 m1, fus_mem hnz.2 m2, by omega, by omega, W.ss_arg sy m1, W.ss_arg sz m2, q⟩) fun H9 e9 => k H9 (((e06.trans e7).trans e8).trans e9)
          · have heq : w1 = w2 := by rw [beq_dec] at hb; simpa using hb
            subst heq
            exact hN2 _ _ ⟨e7.trans e8, by rw [← hlex]; exact (lexd_step hw1 hw2).symm, _, _, rfl⟩ e8
        · rintro σ' H' ⟨e7, hlex, a, c0, rfl⟩
          have hl1 := hu1.length
          have hl2 := hu2.length
          rw [← hlex, lexd_end (by omega)] at k
          exact s_ret ev_c fun H8 e8 => k H8 ((e06.trans e7).trans e8)
      · rw [if_pos hst] at k
        refine q_when (b := true) (et_is (et_test (ev_op (ix e05 hr1 rfl) (ix e05 hr2 rfl) (rv_ne rfl))) (by rw [decide_eq_false (fun q => hst (V.str.inj q))]; rfl)) (fun _ H6 e6 => ?_) (fun z => nomatch z)
        have e06 := e05.trans e6
        have dg : ∀ {σ : L2.St} {G : Hp} {i : Nat} {r : Addr} {us : List V} {s : Str}, Ex H G → H r = some (.tup (.str s :: us)) → s ∈ nms rs → σ[0]? = some (some (.ref o)) → σ[i]? = some (some (.ref r)) → Ev (tDGet (tFld K (tVar 0) "ranks") (tOp (rIxT K) (tVar i) (tC (.int 0)))) σ G (.int ((rk rs s + 0 : Nat) : Int)) := fun {_ _ _ _ _ s} e h hs a b =>
          ev_dget (k := Sum.inr s) (ev_fld (ev_var a) (e _ _ h1) T.clO T.nK l2) (ix e h b) (e _ _ h3) (val_r hs)
        refine s_ret (ev_is (ev_op (dg e06 hr1 hny.1 rfl rfl) (dg e06 hr2 hnz.1 rfl rfl) rv_I0) ?_) fun H7 e7 => k H7 (e06.trans e7)
        congr 1
        exact decide_eq_decide.mpr (by omega)
def spCmp (K : PySem.W.Frag) (C : Addr) : Sp := fun vs H Q E => ∃ x v u, vs = [x, v, u] ∧ ((∃ o, OV H x o ∧ BadZ K "BadOrder" "thing" x H E) ∨ ∃ o dr rs, x = .ref o ∧ OrdAt C H o dr rs ∧ RowsOk rs ∧
  ((NoW H v ∧ Bad K "BadWord" v H E) ∨ ∃ y, Lw H v y ∧ ((∃ s, fu (nms rs) y = some s ∧ BadZ K "NotOrdered" "name" (.str s) H E) ∨ (fu (nms rs) y = none ∧
  ((NoW H u ∧ Bad K "BadWord" u H E) ∨ ∃ z, Lw H u z ∧ ((∃ s, fu (nms rs) z = some s ∧ BadZ K "NotOrdered" "name" (.str s) H E) ∨ (fu (nms rs) z = none ∧ RetV (.str (cmpS rs y z)) H Q)))))))
abbrev nCm : List Str := ["order", "one", "other", "left", "right"]
theorem sc_cmp : FnScope nCm ["order", "one", "other"] (defScope s_compare) := ⟨rfl, rfl, rfl, by decide +kernel, rfl, by decide +kernel, by decide +kernel⟩
theorem ok_compare (T : TO P w K mg base C) : Ok P w K mg base (L2.CX P w) "compare" ["order", "one", "other"] 27 (spCmp K C) := by
  obtain ⟨fC, dC, GC, bC, kC, mC⟩ := (ok_check_order T).ex
  obtain ⟨fO, dO, GO, bO, kO, mO⟩ := (ok_checked_ordered T).ex
  obtain ⟨fA, dA, GA, bA, kA, mA⟩ := (ok_is_above T 12).ex
  refine T.toT28.okX 31 rfl sc_cmp (fun vs H Q E h => ?_) (fun kV doc pm an cdv ct us hl => match us, hl with | [_, _, _], _ => rfl) (fun f cdv A outer s H vs Q E hr h => ?_)
  · obtain ⟨x, v, u, rfl, _⟩ := h
    rfl
  · obtain ⟨x, v, u, rfl, h⟩ := h
    refine ⟨_, pss_cons (ps_expr (pe_callS GC (hr.mono (by decide)) (by rfl) mC kC bC (fun σ => passAt (takes_of rfl rfl rfl rfl) σ) (pa_cons (pv 0) pa_nil)))
      (pss_cons (ps_set (i := 3) sc_cmp.nd rfl (Or.inl rfl) (pe_callS GO (hr.mono (by decide)) (by rfl) mO kO bO (fun σ => passAt (takes_of rfl rfl rfl rfl) σ) (pa_cons (pv 0) (pa_cons (pv 1) pa_nil))))
      (pss_cons (ps_set (i := 4) sc_cmp.nd rfl (Or.inl rfl) (pe_callS GO (hr.mono (by decide)) (by rfl) mO kO bO (fun σ => passAt (takes_of rfl rfl rfl rfl) σ) (pa_cons (pv 0) (pa_cons (pv 2) pa_nil))))
      (pss_cons (ps_if (pt_cmpR (op_eqD hr.units) (pv 3) (pv 4) (nomark _)) (pss_one (ps_ret pe_str)) pss_nil)
      (pss_cons (ps_if (pt_val (pe_call GA hr (by rfl) mA kA bA .nil pass0 (pa_cons (pv 0) (pa_cons (pv 3) (pa_cons (pv 4) pa_nil))))) (pss_one (ps_ret pe_str)) pss_nil)
      (pss_one (ps_ret (pe_ifExp (pt_val (pe_call GA hr (by rfl) mA kA bA .nil pass0 (pa_cons (pv 0) (pa_cons (pv 4) (pa_cons (pv 3) pa_nil))))) pe_str pe_str))))))), ?_⟩
    rcases h with ⟨o, ho, k⟩ | ⟨o, dr, rs, rfl, ho, R, h⟩
    · exact ⟨x, rfl, x, rfl, .inr ⟨o, ho, k⟩⟩
    refine ⟨.ref o, rfl, .ref o, rfl, .inl ⟨o, dr, rs, rfl, ho, fun H1 e1 => ?_⟩⟩
    refine ⟨.ref o, rfl, v, rfl, o, dr, rs, v, rfl, ho.ext e1, ?_⟩
    rcases h with ⟨hn, k⟩ | ⟨y, hy, h⟩
    · exact .inl ⟨hn.ext e1, k.mono e1⟩
    refine .inr ⟨y, hy.ext e1, ?_⟩
    rcases h with ⟨t, ht, k⟩ | ⟨ny, h⟩
    · exact .inl ⟨t, ht, k.mono e1⟩
    refine .inr ⟨ny, fun v2 H2 e2 hv2 => ?_⟩
    have e02 := e1.trans e2
    refine ⟨.ref o, rfl, u, rfl, o, dr, rs, u, rfl, ho.ext e02, ?_⟩
    rcases h with ⟨hn, k⟩ | ⟨z, hz, h⟩
    · exact .inl ⟨hn.ext e02, k.mono e02⟩
    refine .inr ⟨z, hz.ext e02, ?_⟩
    rcases h with ⟨t, ht, k⟩ | ⟨nz, k⟩
    · exact .inl ⟨t, ht, k.mono e02⟩
    refine .inr ⟨nz, fun u2 H3 e3 hu2 => ?_⟩
    have e03 := e02.trans e3
    have hv3 := hv2.ext e3
    have sy := hy.ss
    have sz := hz.ss
    have dy := hy.dp
    have dz := hz.dp
    have vy : y.vs.length ≤ 9000 := by have := W.vs_sz y; have := hy.sz; omega
    have vz : z.vs.length ≤ 9000 := by have := W.vs_sz z; have := hz.sz; omega
    have ab : ∀ {σ : L2.St} {G : Hp} {i j : Nat} {v u : V} {y z : W}, Ex H3 G → WV H3 v y → WV H3 u z → y.dp < 12 → z.dp < 12 → fu (nms rs) y = none → fu (nms rs) z = none → y.vs.length ≤ 9000 → z.vs.length ≤ 9000 → y.o.ss = true → z.o.ss = true → σ[0]? = some (some (.ref o)) → σ[i]? = some (some v) → σ[j]? = some (some u) → Ev (tCall (spAb C 12) [] E0 (tCons (tVar 0) (tCons (tVar i) (tCons (tVar j) tNil)))) σ G (.bl (abv rs y z)) := fun e hy hz dy dz ny nz vy vz sy sz a b c =>
      ev_call (ea_cons (ev_var a) (ea_cons (ev_var b) (ea_cons (ev_var c) ea_nil))) fun H4 e4 Q q E => ⟨o, dr, rs, _, _, _, _, rfl, ho.ext (e03.trans (e.trans e4)), R, hy.ext (e.trans e4), hz.ext (e.trans e4), dy, dy, dz, ny, nz, vy, vz, sy, sz, q⟩
    unfold cmpS at k
    refine q_when (et_test (ev_op (x := v2) (y := u2) (ev_var (i := 3) rfl) (ev_var (i := 4) rfl) (rv_eqW hv3 hu2 sy sz (by omega) (by omega)))) (fun hb H4 e4 => ?_) fun hb H4 e4 => ?_
    · rw [beq_dec] at hb
      rw [if_pos (of_decide_eq_true hb)] at k
      exact s_ret ev_c fun H5 e5 => k H5 ((e03.trans e4).trans e5)
    · rw [beq_dec] at hb
      rw [if_neg (of_decide_eq_false hb)] at k
      refine q_when (et_B (ab e4 hv3 hu2 dy dz ny nz vy vz sy sz rfl rfl rfl)) (fun hb H5 e5 => ?_) fun hb H5 e5 => ?_
      · rw [if_pos hb] at k
        exact s_ret ev_c fun H6 e6 => k H6 (((e03.trans e4).trans e5).trans e6)
      · rw [if_neg (by rw [hb]; decide)] at k
        have e45 := e4.trans e5
        refine s_ret (ev_if (et_B (ab e45 hu2 hv3 dz dy nz ny vz vy sz sy rfl rfl rfl)) (fun hb => ?_) (fun hb => ?_)) fun H6 e6 => k H6 ((e03.trans e45).trans e6)
        · rw [if_pos hb]
          exact ev_c
        · rw [if_neg (by rw [hb]; decide)]
          exact ev_c
end
end K28

set_option Elab.async false
set_option linter.all false
set_option maxRecDepth 100000
set_option maxHeartbeats 4000000
/-! list.count of texts; what a word's parts are; _law_d_weight. -/
namespace L2
open PySem PySem.Spec PyProof.Rows
def eqs (k : Str) (v : Value) : Bool := match v with
  | .str x _ => x == k
  | _ => false
section
variable {X : Cx}
def rCntS (K : PySem.W.Frag) : V → List V → Hp → VK → Prop := fun x xs H Q => ∃ (p : Addr) (ss : List Str) (k : Str), x = .ref p ∧ xs = [.str k] ∧ SqL K H p (ss.map V.str) ∧ Q (.int (ss.count k : Nat)) H
theorem cnt_strs {k : Str} {t : Tok} {A : Around} {s : Shared} : ∀ {ss : List Str} {us : List Value}, Vals (ss.map V.str) us → (∀ y ∈ us, SeqAt.EqAt A s y (.str k t) (eqs k y)) ∧ us.countP (eqs k) = ss.count k
  | [], us, h => by
    cases h
    exact ⟨fun y hy => (nomatch hy), rfl⟩
  | x :: ss, us, h => by
    cases h with
    | cons h1 h2 =>
      obtain ⟨t1, rfl⟩ := h1
      obtain ⟨a, b⟩ := cnt_strs (k := k) (t := t) (A := A) (s := s) h2
      refine ⟨fun y hy => ?_, ?_⟩
      · rcases List.mem_cons.mp hy with rfl | hy
        · exact SeqAt.EqAt.str_str x t1 k t
        · exact a y hy
      · rw [List.countP_cons, List.count_cons, b]
        rfl
theorem mt_lcountS : MtR X "list.count" (rCntS X.K) := by
  intro pins s σ H x xs v us Q I rx rxs h
  obtain ⟨p, ss, k, rfl, rfl, hs, q⟩ := h
  cases rx
  obtain ⟨u, rfl, ru⟩ := rxs.one
  obtain ⟨t, rfl⟩ := ru
  obtain ⟨its, rv, ⟨⟨cls, dd, data, sl⟩, n, ho, hc, hdn, hd⟩, hlen⟩ := I.list hs
  simp only at hc hd
  subst hc hd
  refine call_meets PySem.F.slot_list_count ⟨_, ho, rfl⟩ PySem.F.entry_list_count (PySem.F.args_list_count_2 _ _)
    (SeqAt.list_countAt p its.toArray n dd sl (.str k t) (eqs k)) ⟨ho, fun y hy => (cnt_strs rv).1 y (by simpa using hy), ?_⟩
  have ec : its.toArray.toList.countP (eqs k) = ss.count k := (cnt_strs (k := k) (t := t) (A := X.A) (s := s) rv).2
  refine ⟨.int (ss.count k : Nat), H, I.tok _, ⟨s.toks, ?_⟩, q⟩
  show Value.int ((its.toArray.toList.countP (eqs k) : Nat) : Int) s.toks = Value.int ((ss.count k : Nat) : Int) s.toks
  rw [ec]
end
end L2
namespace K28
open PySem PySem.Spec PyProof.Rows L2 Evl
mutual
theorem vs_allv : ∀ z : W, z.vs = z.allv
  | .v _ => rfl
  | .n _ as => vss_allvs as
theorem vss_allvs : ∀ as : List W, W.vss as = W.allvs as
  | [] => rfl
  | a :: as => by
    show a.vs ++ W.vss as = a.allv ++ W.allvs as
    rw [vs_allv a, vss_allvs as]
end
theorem parts_vs (z : W) : z.parts.filterMap (fun q => vOf q.2) = z.vs := by rw [W.parts_allv, vs_allv]
section
variable {K : PySem.W.Frag} {σ : L2.St} {H G : Hp} {te ta tb tl tk tx : TE} {tt : TT} {v : V} {D : Ends} {tu tz : TS}
/-- [f(x) for x in t], t a new tuple -/
theorem el_lcNTa {xs : List V} {j : Nat} {vs : List Nat} (f : Nat → V) (h : EvU tl σ H xs) (hz : xs.length ≤ 40000) (hw : ∀ x, wipe ((wipe σ vs).set j (some x)) vs = wipe σ vs)
    (he : ∀ (i : Nat) (x : V) H1, Ex H H1 → xs[i]? = some x → Ev te ((wipe σ vs).set j (some x)) H1 (f i)) :
    EvL (tLc (iTup K tl) (gName j) tYes te vs) σ H (given xs.length (fun _ => true) f) := fun H0 e Q q => h H0 e _ fun a H1 ha e1 hx => ⟨a, rfl, ⟨xs, st_of hx⟩, fun Dl hD =>
  lc_tup (xs := xs) (Cw H1 (fun _ => true) f Dl) ⟨hD, Ex.new hD, upd_same⟩ (fun i H' _ p => st_of (p.2.1 a _ hx)) (fun i x H' hi p => ⟨hw x, cw_turn p (by have := (List.getElem?_eq_some_iff.mp hi).1; omega) et_yes (fun _ => he i x H1 (e.trans e1) hi)⟩)
    (fun H' p => q Dl H' (fresh_back e1 p.1) (e1.trans p.2.1) p.2.2)⟩
theorem filter_true2 {n : Nat} : (List.range n).filter (fun _ => true) = List.range n := List.filter_eq_self.mpr fun _ _ => rfl
theorem given_all (n : Nat) (f : Nat → V) : given n (fun _ => true) f = (List.range n).map f := by
  unfold given
  rw [filter_true2]
theorem ev_sumL {ns : List Int} (h : EvL te σ H (ns.map V.int)) : Ev (tCB (rSum K) (tCons te tNil)) σ H (.int ns.sum) := fun H1 e Q q => h H1 e _ fun p H2 _ e2 h2 => ⟨p, ns, rfl, sq_of h2, q H2 e2⟩
theorem ev_anyL {bs : List Bool} (h : EvL te σ H (bs.map V.bl)) : Ev (tCB (rAny K) (tCons te tNil)) σ H (.bl (bs.any id)) := fun H1 e Q q => h H1 e _ fun p H2 _ e2 h2 => ⟨p, bs, rfl, sq_of h2, q H2 e2⟩
end
theorem wts_sum (rs : List (Str × Int)) : ∀ as : List W, wts rs as = (as.map (wt rs)).sum
  | [] => rfl
  | a :: as => by
    show wt rs a + wts rs as = _
    rw [List.map_cons, List.sum_cons, wts_sum rs as]
theorem wts_range (rs : List (Str × Int)) (ws : List W) : ((List.range ws.length).map fun i => V.int (wt rs (ws.getD i (.v "")))) = (ws.map (wt rs)).map V.int := by
  refine List.ext_getElem? fun i => ?_
  rw [List.getElem?_map, List.getElem?_map, List.getElem?_map]
  by_cases h : i < ws.length
  · simp [h, List.getD]
  · simp [h]
section
variable {P : Program} {w : World} {K : PySem.W.Frag} {mg : Str → Option Value} {base : Heap} {C : Addr}
def spDW (m : Nat) : Sp := fun vs H Q _ => ∃ d rs v z, vs = [.ref d, v] ∧ H d = some (.dK (wkv rs)) ∧ WV H v z ∧ z.dp < m ∧ fu (nms rs) z = none ∧ z.sz ≤ 9000 ∧ RetV (.int (wt rs z)) H Q
abbrev nDW : List Str := ["_law_weights", "_law_word", "_law_part"]
theorem sc_dwt : FnScope nDW ["_law_weights", "_law_word"] (defScope s__law_d_weight) := ⟨rfl, rfl, rfl, by decide +kernel, rfl, by decide +kernel, by decide +kernel⟩
theorem ok_d_weight (T : T28 P w K mg base) : ∀ m, Ok P w K mg base CX0 "_law_d_weight" ["_law_weights", "_law_word"] (m + 1) (spDW m)
  | 0 => T.ok 40 rfl sc_dwt (fun vs H Q E h => by obtain ⟨d, rs, v, z, rfl, _⟩ := h; rfl) (fun kV doc pm an cdv ct us hl => match us, hl with | [_, _], _ => rfl) (fun f cdv A outer s H vs Q E hr h => by obtain ⟨d, rs, v, z, _, _, _, h0, _⟩ := h; exact absurd h0 (Nat.not_lt_zero _))
  | m + 1 => by
    obtain ⟨fR, dR, GR, bR, kR, mR⟩ := (ok_d_weight T m).ex
    refine T.ok 40 rfl sc_dwt (fun vs H Q E h => ?_) (fun kV doc pm an cdv ct us hl => match us, hl with | [_, _], _ => rfl) (fun f cdv A outer s H vs Q E hr h => ?_)
    · obtain ⟨d, rs, v, z, rfl, _⟩ := h
      rfl
    · obtain ⟨d, rs, v, z, rfl, hd, hw, hz, hN, hs, k⟩ := h
      refine ⟨_, pss_cons (ps_if (pt_val (pe_isiB T.isi T.str PyProof.Rows.boot_str (pv 1))) (pss_one (ps_ret pe_int)) pss_nil)
        (pss_one (ps_ret (pe_op op_add (pe_dget (hu_of hr) (pv 0) (pe_ix ix_tup (pv 1) pe_int (fun _ _ => rfl)) (fun _ _ => rfl)) (pe_callB (cr_sum rfl) (by rfl) T.sum (by decide +kernel) (pa_cons
          (pe_lc (own := [("_law_part", 2)]) (g := gName 2) (tt := tYes) (te := tCall (spDW m) [] E0 (tCons (tVar 0) (tCons (tVar 2) tNil))) rfl sc_dwt.nd (pi_tup (pe_slice sl_tup (pv 1) (po_some pe_int) po_none)) (blkOk_by (N := nDW) (sc := defScope s__law_d_weight) (by decide +kernel))
            (fun _ _ _ _ _ => pg_name (i := 2) sc_dwt.nd rfl (Or.inl rfl)) (fun _ _ _ _ _ => pts_nil) (fun _ _ _ _ _ => pe_call GR hr (by rfl) mR kR bR .nil pass0 (pa_cons (pv 0) (pa_cons (pv 2) pa_nil)))) pa_nil))))), ?_⟩
      cases z with
      | v s =>
        refine q_when (b := true) (et_is (et_B (ev_isStr (ev_var rfl) hw)) rfl) (fun _ H1 e1 => ?_) fun z => nomatch z
        exact s_ret ev_c fun H2 e2 => k H2 (e1.trans e2)
      | n s as =>
        obtain ⟨r, us, rfl, hr1, hu⟩ := hw.tup
        have hn := fu_n hN
        have hsz : W.szs as + 2 ≤ 9000 := hs
        have hasl := W.len_szs as
        have hul := hu.length
        refine q_when (b := false) (et_is (et_B (ev_isStr (ev_var rfl) hw)) rfl) (fun z => nomatch z) fun _ H1 e1 => ?_
        refine s_ret (v := .int (wt rs (.n s as))) (ev_is (ev_op (ev_dget (k := Sum.inr s) (ev_var rfl) (ev_op (ev_var rfl) ev_c (rv_ixT (st_of (e1 _ _ hr1)) (atI_nat (j := 0) rfl))) (e1 _ _ hd) (val_w hn.1))
          (ev_sumL (ns := as.map (wt rs)) ?_) rv_I0) ?_) fun H2 e2 => k H2 (e1.trans e2)
        · have g := el_lcNTa (K := K) (te := tCall (spDW m) [] E0 (tCons (tVar 0) (tCons (tVar 2) tNil))) (vs := [2]) (j := 2) (fun i => V.int (wt rs (as.getD i (.v "")))) (eu_tail (K := K) (ev_var (i := 1) (σ := [some (.ref d), some (.ref r), none]) rfl) (st_of (e1 _ _ hr1))) (by omega) (fun _ => rfl) fun i x H2 e2 hx => ?_
          · rw [given_all, hul, wts_range] at g
            exact g
          · obtain ⟨y, hy, hwy⟩ := (hu.ext (e1.trans e2)).getv hx
            have hyd := W.lt_dp hy
            have hys := W.lt_sz hy
            have : W.dps as + 1 < m + 1 := hz
            have eg : as.getD i (.v "") = y := by rw [List.getD, hy]; rfl
            rw [eg]
            exact ev_call (ea_cons (ev_var rfl) (ea_cons (ev_var rfl) ea_nil)) fun H3 e3 Q q E => ⟨d, rs, x, y, rfl, ((e1.trans e2).trans e3) _ _ hd, hwy.ext e3, by omega, fus_mem hn.2 (List.mem_of_getElem? hy), by omega, q⟩
        · show V.int (wOf rs s + (as.map (wt rs)).sum) = V.int (wOf rs s + wts rs as)
          rw [wts_sum]
end
end K28

set_option Elab.async false
set_option linter.all false
set_option maxRecDepth 100000
set_option maxHeartbeats 4000000
/-! _law_d_above. -/
namespace K28
open PySem PySem.Spec PyProof.Rows L2 Evl
theorem rows_at {H : Hp} {xs : List V} {rs : List (Str × Int)} (h : OVs H xs (rs.map rowO)) {i : Nat} {x : V} (hx : xs[i]? = some x) : ∃ r, rs[i]? = some r ∧ ∃ c, x = .ref c ∧ H c = some (.tup [.str r.1, .int r.2]) := by
  obtain ⟨o, ho, hv⟩ := h.get hx
  rw [List.getElem?_map] at ho
  obtain ⟨r, hr, rfl⟩ := Option.map_eq_some_iff.mp ho
  obtain ⟨c, ws, rfl, hc, v1, ws1, rfl, o1, v2, ws2, rfl, o2, h0⟩ := hv
  obtain rfl : ws2 = [] := h0
  obtain rfl : v1 = .str r.1 := o1
  obtain rfl : v2 = .int r.2 := o2
  exact ⟨r, hr, c, rfl, hc⟩
theorem rows_len {H : Hp} {xs : List V} {rs : List (Str × Int)} (h : OVs H xs (rs.map rowO)) : xs.length = rs.length := by rw [h.length, List.length_map]
theorem merge_w : ∀ (rs qs : List (Str × Int)), ((qs ++ rs).map (·.1)).Nodup → mergeK (wkv qs) (wkv rs) = wkv (qs ++ rs)
  | [], qs, _ => by simp [wkv, mergeK]
  | r :: rs, qs, nd => by
    show mergeK (putK (wkv qs) (Sum.inr r.1) (V.int r.2)) (wkv rs) = _
    have h1 : r.1 ∉ qs.map (·.1) := by
      intro z
      rw [List.map_append] at nd
      exact (List.nodup_append.mp nd).2.2 _ z _ (by simp) rfl
    rw [putK_new (val_none h1)]
    have e1 : wkv qs ++ [((Sum.inr r.1 : Key), V.int r.2)] = wkv (qs ++ [r]) := by simp [wkv]
    rw [e1, merge_w rs (qs ++ [r]) (by rw [List.append_assoc]; exact nd), List.append_assoc] <;> rfl
/-- a new dict of the rows -/
abbrev tDict (K : PySem.W.Frag) (te : TE) : TE := tCB (fun xs H Q => ∃ (a : Addr) (ps : List Addr) (kvs : List (Key × V)), xs = [.ref a] ∧ SqL K H a (ps.map V.ref) ∧ Paired (fun p kv => SqT K H p [kV kv.1, kv.2]) ps kvs ∧ ∀ p, H p = none → Q (.ref p) (upd H p (.dK (mergeK [] kvs)))) (tCons te tNil)
theorem rows_paired {K : PySem.W.Frag} {H : Hp} : ∀ {rs : List (Str × Int)} {xs : List V}, OVs H xs (rs.map rowO) → ∃ ps : List Addr, xs = ps.map V.ref ∧ Paired (fun p (kv : Key × V) => SqT K H p [kV kv.1, kv.2]) ps (wkv rs)
  | [], xs, h => by
    obtain rfl : xs = [] := h
    exact ⟨[], rfl, .nil⟩
  | r :: rs, xs, ⟨v, us, e, h1, h2⟩ => by
    subst e
    obtain ⟨ps, rfl, hp⟩ := rows_paired (K := K) h2
    obtain ⟨r', e1, c, rfl, hc⟩ := rows_at (H := H) (xs := [v]) (rs := [r]) (.cons h1 .nil) (i := 0) rfl
    obtain rfl : r = r' := Option.some.inj e1
    exact ⟨c :: ps, rfl, .cons (st_of hc) hp⟩
theorem ev_dictR {K : PySem.W.Frag} {σ : L2.St} {H : Hp} {te : TE} {a : Addr} {xs : List V} {rs : List (Str × Int)} {P : V → Hp → Prop} (h : Ev te σ H (.ref a)) (ha : SqL K H a xs) (hR : OVs H xs (rs.map rowO)) (nd : (rs.map (·.1)).Nodup) (p : ∀ d G, Ex H G → G d = some (.dK (wkv rs)) → P (.ref d) G) : EvP (tDict K te) σ H P := fun H1 e Q q => h H1 e _ fun H2 e2 => by
  obtain ⟨ps, rfl, hp⟩ := rows_paired (K := K) (hR.ext (e.trans e2))
  refine ⟨a, ps, wkv rs, rfl, ex_l (e.trans e2) ha, hp, fun d hd => ?_⟩
  have e0 : mergeK [] (wkv rs) = wkv rs := merge_w rs [] nd
  rw [e0]
  exact q _ _ (e2.trans (Ex.new hd)) (p d _ ((e.trans e2).trans (Ex.new hd)) upd_same)
/-! ### the names of an order, one asked for its place -/
theorem n10_ok : ∀ x ∈ N10, PyData.strOk x = true := by decide +kernel
theorem dp_strs (K : PySem.W.Frag) (H : Hp) : ∀ xs : List Str, DpAll K H (xs.map V.str) (xs.map PyData.str)
  | [] => .nil
  | x :: xs => .cons (.str x) (dp_strs K H xs)
theorem shaped_names {xs : List Str} (h : ∀ x ∈ xs, x ∈ N10) : SeqAt.shaped (.list (xs.map PyData.str)) = true := by
  show (PyData.canLay0 (.list (xs.map PyData.str)) && decide (PyData.depth (.list (xs.map PyData.str)) ≤ 64)) = true
  have h1 : PyData.canLayAll0 (xs.map PyData.str) = true := by
    induction xs with
    | nil => simp [PyData.canLayAll0]
    | cons x xs ih => simp [PyData.canLayAll0, PyData.canLay0, n10_ok x (h x (by simp)), ih fun y hy => h y (by simp [hy])]
  have h2 : PyData.depthAll (xs.map PyData.str) ≤ 1 := by
    clear h h1
    induction xs with
    | nil => simp [PyData.depthAll]
    | cons x xs ih => simp only [List.map_cons, PyData.depthAll, PyData.depth]; omega
  rw [Bool.and_eq_true]
  refine ⟨by simp only [PyData.canLay0]; exact h1, decide_eq_true ?_⟩
  simp only [PyData.depth]
  omega
theorem shaped_name : ∀ x ∈ N10, SeqAt.shaped (.str x) = true := by decide +kernel
theorem filter_first (f : Nat → Bool) : ∀ n : Nat, (((List.range n).filter f) = [] ∧ ∀ j, j < n → f j = false) ∨ ∃ i rest, (List.range n).filter f = i :: rest ∧ i < n ∧ f i = true ∧ ∀ j, j < i → f j = false
  | 0 => .inl ⟨rfl, fun j h => absurd h (Nat.not_lt_zero _)⟩
  | n + 1 => by
    rw [List.range_succ, List.filter_append]
    rcases filter_first f n with ⟨h1, h2⟩ | ⟨i, rest, h1, h2, h3, h4⟩
    · rw [h1, List.nil_append]
      cases hf : f n with
      | true => exact .inr ⟨n, [], by simp [hf], Nat.lt_succ_self n, hf, h2⟩
      | false => exact .inl ⟨by simp [hf], fun j hj => by
          by_cases e : j = n
          · subst e; exact hf
          · exact h2 j (by omega)⟩
    · exact .inr ⟨i, rest ++ [n].filter f, by rw [h1]; rfl, by omega, h3, h4⟩
theorem lexd_at {rs : List (Str × Int)} {as bs : List W} : ∀ {i : Nat} {a b : W}, as[i]? = some a → bs[i]? = some b → a ≠ b → (∀ j, j < i → as[j]? = bs[j]?) → lexd rs as bs = abv rs a b := by
  intro i a b h1 h2 n hj
  have key : ∀ k, k ≤ i → lexd rs as bs = lexd rs (as.drop k) (bs.drop k) := by
    intro k
    induction k with
    | zero => intro _; rfl
    | succ k ih =>
      intro hk
      rw [ih (by omega)]
      have l1 := (List.getElem?_eq_some_iff.mp h1).1
      have q : as[k]? = some as[k] := by simp
      exact lexd_step q (by rw [← hj k (by omega)]; exact q)
  rw [key i (Nat.le_refl _)]
  exact lexd_ne h1 h2 n
section
variable {K : PySem.W.Frag} {σ : L2.St} {H G : Hp} {te ta tb tl tk tx : TE} {tt : TT} {v : V} {D : Ends} {tu tz : TS}
theorem ev_index {l : Addr} {rs : List (Str × Int)} {x : Str} (h5 : ∀ r ∈ rs, r.1 ∈ N10) (ha : Ev ta σ H (.ref l)) (hb : Ev tb σ H (.str x)) (hl : SqL K H l ((rs.map (·.1)).map V.str)) (hx : x ∈ rs.map (·.1)) : Ev (tBM K "list" (rIndexD K) ta (tCons tb tNil)) σ H (.int (rk rs x : Nat)) := fun H1 e Q q =>
  ha H1 e _ fun H2 e2 => ⟨.inl ⟨rfl, _, ex_l (e.trans e2) hl⟩, hb H2 (e.trans e2) _ fun H3 e3 => by
    obtain ⟨r1, r2⟩ := rk_at hx
    refine ⟨l, .str x, .str x, _, rk rs x, .str x, rfl, rfl, .lst (ex_l ((e.trans e2).trans e3) hl) (dp_strs K H3 _), .str x, shaped_names fun y hy => ?_, shaped_name _ ?_, ?_, by simp [PyData.eqv], fun m z' hm hz => ?_, q H3 (e2.trans e3)⟩
    · obtain ⟨r, hr, rfl⟩ := List.mem_map.mp hy
      exact h5 r hr
    · obtain ⟨r, hr, rfl⟩ := List.mem_map.mp hx
      exact h5 r hr
    · rw [List.getElem?_map, r1] <;> rfl
    · rw [List.getElem?_map] at hz
      obtain ⟨y, hy, rfl⟩ := Option.map_eq_some_iff.mp hz
      have h1 := r2 m hm
      rw [hy] at h1
      simp only [PyData.eqv]
      exact beq_eq_false_iff_ne.mpr fun e => h1 (by rw [e])⟩
theorem q_par {i j : Nat} {x y : V} (ha : Ev ta σ H x) (hb : Ev tb σ H y) (k : ∀ H1, Ex H H1 → tz D ((σ.set i (some x)).set j (some y)) H1) : tSeq (tPar i j (tCons ta (tCons tb tNil))) tz D σ H :=
  ha H (Ex.refl H) _ fun H1 e1 => hb H1 e1 _ fun H2 e2 => ⟨x, y, rfl, k H2 (e1.trans e2)⟩
theorem q_par1 {i j : Nat} {P : V → Hp → Prop} (ha : EvP ta σ H P) (k : ∀ v H1, Ex H H1 → P v H1 → tb σ H1 fun y H2 => tz D ((σ.set i (some v)).set j (some y)) H2) : tSeq (tPar i j (tCons ta (tCons tb tNil))) tz D σ H :=
  ha H (Ex.refl H) _ fun v H1 e1 p => by
    have q := k v H1 e1 p
    have e : (fun (y : V) (H2 : Hp) => ∃ v' w, [v, y] = [v', w] ∧ tz D ((σ.set i (some v')).set j (some w)) H2) = fun y H2 => tz D ((σ.set i (some v)).set j (some y)) H2 := by
      funext y H2
      refine propext ⟨fun ⟨v', w, h, g⟩ => ?_, fun g => ⟨v, y, rfl, g⟩⟩
      injection h with h1 h2
      injection h2 with h2 _
      rw [h1, h2]
      exact g
    show tb σ H1 (fun y H2 => ∃ v' w, [v, y] = [v', w] ∧ tz D ((σ.set i (some v')).set j (some w)) H2)
    rw [e]
    exact q
theorem q_asgLP {i : Nat} {P : List V → Hp → Prop} (h : EvLP te σ H P) (k : ∀ p xs H1, H p = none → Ex H H1 → H1 p = some (.lst xs) → P xs H1 → tz D (σ.set i (some (.ref p))) H1) : tSeq (tAsg te (gName i)) tz D σ H := h H (Ex.refl H) _ fun p xs H1 hp e h1 q => k p xs H1 hp e h1 q
/-- the variables of a word, each time that they stand in it -/
theorem el_vars {i : Nat} {v : V} {z : W} (hs : σ[i]? = some (some v)) (hw : WV H v z) (hd : z.dp < 12) (hz : z.sz ≤ 9000) (w1 : ∀ x y, wipe (((wipe σ [12, 13]).set 12 (some x)).set 13 (some y)) [12, 13] = wipe σ [12, 13]) (w2 : ∀ x y, (((wipe σ [12, 13]).set 12 (some x)).set 13 (some y))[13]? = some (some y)) :
    EvL (tLc (iList K (tCall (spDp 12) [] E0 (tCons (tVar i) tNil))) (gPair K 12 13) (tB (tIsi K "str" (tVar 13))) (tVar 13) [12, 13]) σ H (sVs z.vs) := fun H1 e Q q => by
  refine ⟨v, hs, v, z, rfl, hw.ext e, hd, by decide, hz, fun pq ps H2 hpq e2 h2 hA => ⟨pq, rfl, ⟨ps, sq_of h2⟩, fun Dl hD => ?_⟩⟩
  have hpl := hA.length
  refine lc_it walk_list (fun i G => Ex H2 G ∧ G Dl = some (.lst (sVs ((z.parts.take i).filterMap fun q => vOf q.2)))) ⟨Ex.new hD, upd_same⟩ (fun i G _ c => sq_of (c.1 _ _ h2)) ?_ fun G c => ?_
  · rintro j x G G' hj ⟨c1, c2⟩ ⟨rfl, hx⟩
    obtain ⟨pt, hpt, t5, l5, u5, rfl, k1, k2, k3, k4⟩ := hA.get hx
    refine ⟨t5, _, rfl, st_of (c1 _ _ k1), rfl, _, _, rfl, _, _, rfl, rfl, w1 _ _, ?_⟩
    have hpl2 := W.parts_len z
    have hfl : ((z.parts.take j).filterMap fun q => vOf q.2).length ≤ 9000 := by
      have h1 := List.length_filterMap_le (fun q : List Nat × W => vOf q.2) (z.parts.take j)
      rw [List.length_take] at h1
      omega
    refine (et_is (et_B (ev_isStr (ev_var (w2 _ _)) (OV.ext c1 k4))) (isV_str pt.2)) _ (Ex.refl _) _ fun H3 e3 => ?_
    rw [take_snoc hpt, List.filterMap_append]
    cases hp2 : pt.2 with
    | v s =>
      rw [hp2] at k4
      obtain rfl : u5 = .str s := k4
      show if true = true then _ else _
      rw [if_pos rfl]
      refine ⟨_, w2 _ _, _, e3 _ _ c2, by unfold sVs; rw [List.length_map]; exact sz_lt (by omega), Ex.mut (c1.trans e3) hD, ?_⟩
      rw [upd_same]
      have : ([pt].filterMap fun q => vOf q.2) = [s] := by
        rw [List.filterMap_cons, hp2]
        rfl
      rw [this]
      unfold sVs
      rw [List.map_append]
      rfl
    | n s as =>
      show if false = true then _ else _
      rw [if_neg (by decide)]
      refine ⟨c1.trans e3, ?_⟩
      have : ([pt].filterMap fun q => vOf q.2) = [] := by
        rw [List.filterMap_cons, hp2]
        rfl
      rw [this, List.append_nil]
      exact e3 _ _ c2
  · have h := c.2
    rw [hpl, List.take_length, parts_vs] at h
    exact q Dl G (fresh_back e2 hD) (e2.trans c.1) h
/-- a pair of parts that are unlike -/
def UnP (as bs : List W) (i : Nat) (v : V) (G : Hp) : Prop := ∃ t n1 n2 w1 w2, v = .ref t ∧ G t = some (.tup [n1, n2]) ∧ as[i]? = some w1 ∧ bs[i]? = some w2 ∧ WV G n1 w1 ∧ WV G n2 w2
def unF (as bs : List W) (i : Nat) : Bool := !decide (as[i]? = bs[i]?)
theorem elp_unlike {r1 r2 : Addr} {x1 x2 : V} {us1 us2 : List V} {as bs : List W} (s1 : σ[1]? = some (some (.ref r1))) (s2 : σ[2]? = some (some (.ref r2))) (hr1 : H r1 = some (.tup (x1 :: us1))) (hr2 : H r2 = some (.tup (x2 :: us2))) (hu1 : WVs H us1 as) (hu2 : WVs H us2 bs) (hl : as.length ≤ 9000) (dy : ∀ x ∈ as, x.dp < 12 ∧ x.o.ss = true) (dz : ∀ x ∈ bs, x.dp < 12 ∧ x.o.ss = true)
    (w1 : ∀ x y, wipe (((wipe σ [15, 16]).set 15 (some x)).set 16 (some y)) [15, 16] = wipe σ [15, 16]) (w2 : ∀ x y, (((wipe σ [15, 16]).set 15 (some x)).set 16 (some y))[15]? = some (some x)) (w3 : ∀ x y, (((wipe σ [15, 16]).set 15 (some x)).set 16 (some y))[16]? = some (some y)) :
    EvLP (tLc (RZ.iZipA K (tCons (tSl (rSlT K) (tVar 1) (tPart (tC (.int 1))) tNoPart) (tCons (tSl (rSlT K) (tVar 2) (tPart (tC (.int 1))) tNoPart) tNil))) (gPair K 15 16) (tTest (tOp (rNeD K) (tVar 15) (tVar 16))) (tTup (tCons (tVar 15) (tCons (tVar 16) tNil))) [15, 16]) σ H
      (fun xs G => A2 (fun i v => UnP as bs i v G) ((List.range (min us1.length us2.length)).filter (unF as bs)) xs) := fun H1 e Q q =>
  (eu_tail (K := K) (ev_var s1) (st_of hr1)) H1 e _ fun p1 G1 hp1 g1 h1 => (eu_tail (K := K) (ev_var s2) (st_of hr2)) G1 (e.trans g1) _ fun p2 G2 hp2 g2 h2 => ⟨p1, p2, us1, us2, rfl, .inr ⟨st_of (g2 _ _ h1), st_of h2, fun Dl hD =>
    lc_it (walk_zipT (K := K) (a := p1) (b := p2) (xs := us1) (ys := us2) rfl) (Cwp G2 (unF as bs) (UnP as bs) Dl) (cwp0 hD) (fun i G _ c => ⟨st_of (c.2.1 _ _ (g2 _ _ h1)), st_of (c.2.1 _ _ h2)⟩) (fun i x G G' hi c ⟨t, x1, x2, hx, ht, hG', hx1, hx2⟩ => by
      subst hx hG'
      have eT : Ex G (upd G t (.tup [x1, x2])) := Ex.new ht
      have eA : Ex H (upd G t (.tup [x1, x2])) := (((e.trans g1).trans g2).trans c.2.1).trans eT
      obtain ⟨v1, hv1, k1⟩ := (hu1.ext eA).getv hx1
      obtain ⟨v2, hv2, k2⟩ := (hu2.ext eA).getv hx2
      obtain ⟨d1, t1⟩ := dy _ (List.mem_of_getElem? hv1)
      obtain ⟨d2, t2⟩ := dz _ (List.mem_of_getElem? hv2)
      refine ⟨t, _, rfl, st_of upd_same, rfl, _, _, rfl, _, _, rfl, rfl, w1 _ _, cwp_turn (fun i v => ?_) c eT (by have := hu1.length; omega) ?_ fun _ G3 g3 => ?_⟩
      · intro J1 J2 xs1 a0 a1 a2 a3 hp
        obtain ⟨t', n1, n2, z1, z2, rfl, m1, m2, m3, m4, m5⟩ := hp
        have tx : Tx J1 J2 := fun a ys q => a3 a _ (ne_of q a0 (by intro z; cases z)) q
        exact ⟨t', n1, n2, z1, z2, rfl, tx _ _ m1, m2, m3, m4.tx tx, m5.tx tx⟩
      · refine et_is (et_test (ev_op (ev_var (w2 _ _)) (ev_var (w3 _ _)) (rv_neW k1 k2 t1 t2 (by omega) (by omega)))) ?_
        unfold unF
        rw [hv1, hv2, beq_dec]
        simp
      · refine EvP.tup (eu_tup (ea_cons (ev_var (w2 _ _)) (ea_cons (ev_var (w3 _ _)) ea_nil)) (by show 2 ≤ 100000; decide)) fun a J g ha => ⟨a, x1, x2, v1, v2, rfl, ha, hv1, hv2, k1.ext (g3.trans g), k2.ext (g3.trans g)⟩) fun G c => by
      obtain ⟨acc, hacc, _, ha2⟩ := c.2.2
      exact q Dl acc G (fresh_back (g1.trans g2) c.1) ((g1.trans g2).trans c.2.1) hacc ha2⟩⟩
/-- does some variable stand more often there -/
theorem el_cnt {l5 l6 : Addr} {m l : List Str} (h5 : σ[5]? = some (some (.ref l5))) (h6 : σ[6]? = some (some (.ref l6))) (a5 : H l5 = some (.lst (sVs m))) (a6 : H l6 = some (.lst (sVs l))) (hl : l.length ≤ 20000)
    (w1 : ∀ x, wipe ((wipe σ [14]).set 14 (some x)) [14] = wipe σ [14]) (w2 : ∀ x, ((wipe σ [14]).set 14 (some x))[14]? = some (some x)) (w5 : ∀ x, ((wipe σ [14]).set 14 (some x))[5]? = some (some (.ref l5))) (w6 : ∀ x, ((wipe σ [14]).set 14 (some x))[6]? = some (some (.ref l6))) :
    EvL (tLc (iList K (tVar 6)) (gName 14) tYes (tOp (rI0 fun i j => .bl (decide (i < j))) (tBM K "list" (rCntS K) (tVar 5) (tCons (tVar 14) tNil)) (tBM K "list" (rCntS K) (tVar 6) (tCons (tVar 14) tNil))) [14]) σ H ((l.map fun s => decide (m.count s < l.count s)).map V.bl) := fun H1 e Q q => by
  refine ⟨_, h6, l6, rfl, ⟨_, sq_of (e _ _ a6)⟩, fun Dl hD => ?_⟩
  refine lc_it (walk_list (xs := sVs l)) (fun i G => Ex H1 G ∧ G Dl = some (.lst (((l.take i).map fun s => decide (m.count s < l.count s)).map V.bl))) ⟨Ex.new hD, upd_same⟩ (fun i G _ c => sq_of ((e.trans c.1) _ _ a6)) ?_ fun G c => ?_
  · rintro j x G G' hj ⟨c1, c2⟩ ⟨rfl, hx⟩
    have hx : (l.map V.str)[j]? = some x := hx
    rw [List.getElem?_map] at hx
    obtain ⟨s, hs, rfl⟩ := Option.map_eq_some_iff.mp hx
    refine ⟨w1 _, ?_⟩
    unfold tYes
    dsimp only
    rw [if_pos rfl]
    have e1 := e.trans c1
    refine ⟨.ref l5, w5 _, .inl ⟨rfl, _, sq_of (e1 _ _ a5)⟩, _, w2 _, l5, m, s, rfl, rfl, sq_of (e1 _ _ a5), .ref l6, w6 _, .inl ⟨rfl, _, sq_of (e1 _ _ a6)⟩, _, w2 _, l6, l, s, rfl, rfl, sq_of (e1 _ _ a6), _, _, rfl, rfl, _, c2, ?_, Ex.mut c1 hD, ?_⟩
    · rw [List.length_map, List.length_map, List.length_take]
      exact sz_lt (by omega)
    · rw [upd_same, take_snoc hs, List.map_append, List.map_append]
      have : decide (((m.count s : Nat) : Int) < ((l.count s : Nat) : Int)) = decide (m.count s < l.count s) := decide_eq_decide.mpr (by omega)
      dsimp only
      rw [this]
      rfl
  · have h := c.2
    have hl2 : (sVs l).length = l.length := by unfold sVs; rw [List.length_map]
    rw [hl2, List.take_length] at h
    exact q Dl G hD c.1 h
theorem any_occ (l m : List Str) : (l.map fun s => decide (m.count s < l.count s)).any id = !occ l m := by
  unfold occ
  rw [List.any_map, List.not_all_eq_any_not]
  congr 1
  funext s
  show decide (m.count s < l.count s) = !decide (l.count s ≤ m.count s)
  by_cases h : l.count s ≤ m.count s
  · rw [decide_eq_true h, decide_eq_false (by omega)]; rfl
  · rw [decide_eq_false h, decide_eq_true (by omega)]; rfl
end
end K28

set_option Elab.async false
set_option linter.all false
set_option maxRecDepth 100000
set_option maxHeartbeats 4000000
/-! _law_d_above. -/
namespace K28
open PySem PySem.Spec PyProof.Rows L2 Evl
section
variable {P : Program} {w : World} {K : PySem.W.Frag} {mg : Str → Option Value} {base : Heap} {C : Addr}
theorem u65 {k : Nat} {A : Around} (r : Room k A) : A.units + 65 < cLine := by
  have := r.un
  omega
/-- a word that may be weighed -/
structure Ww (rs : List (Str × Int)) (z : W) : Prop where
  dp : z.dp < 12
  sz : z.sz ≤ 9000
  ss : z.o.ss = true
  ar : z.ar = true
  fu : fu (nms rs) z = none
theorem Ww.arg {rs : List (Str × Int)} {s : Str} {as : List W} (h : Ww rs (.n s as)) {x : W} (hx : x ∈ as) : Ww rs x := by
  obtain ⟨i, hi⟩ := List.getElem?_of_mem hx
  have h1 := W.lt_dp hi
  have h2 := W.lt_sz hi
  have h3 : W.dps as + 1 < 12 := h.dp
  have h4 : W.szs as + 2 ≤ 9000 := h.sz
  exact ⟨by omega, by omega, W.ss_arg h.ss hx, W.ars_mem (W.ar_n h.ar).2 hx, fus_mem (fu_n h.fu).2 hx⟩
def spDA (m : Nat) : Sp := fun vs H Q _ => ∃ a xs rs v u y z, vs = [.ref a, v, u] ∧ H a = some (.lst xs) ∧ OVs H xs (rs.map rowO) ∧ RowsOk rs ∧ WV H v y ∧ WV H u z ∧ y.dp < m ∧ Ww rs y ∧ Ww rs z ∧ RetV (.bl (abv rs y z)) H Q
abbrev nDA : List Str := ["_law_rows", "_law_one", "_law_other", "_law_weights", "_law_names", "_law_many", "_law_few", "_law_heavy", "_law_light", "_law_unlike", "_law_name", "_law_weight", "_law_place", "_law_part", "_law_variable", "_law_near", "_law_far"]
theorem sc_da : FnScope nDA ["_law_rows", "_law_one", "_law_other"] (defScope s__law_d_above) := ⟨rfl, rfl, rfl, by decide +kernel, rfl, by decide +kernel, by decide +kernel⟩
abbrev xStr (K : PySem.W.Frag) : TE := tIsi K "str" (tVar 13)
theorem ok_d_above (T : T28 P w K mg base) : ∀ m, Ok P w K mg base CX0 "_law_d_above" ["_law_rows", "_law_one", "_law_other"] (m + 15) (spDA m)
  | 0 => (T.ok 41 rfl sc_da (k := 14) (fun vs H Q E h => by obtain ⟨a, xs, rs, v, u, y, z, rfl, _⟩ := h; rfl) (fun kV doc pm an cdv ct us hl => match us, hl with | [_, _, _], _ => rfl) (fun f cdv A outer s H vs Q E hr h => by obtain ⟨a, xs, rs, v, u, y, z, _, _, _, _, _, _, h0, _⟩ := h; exact absurd h0 (Nat.not_lt_zero _)))
  | m + 1 => by
    obtain ⟨fR, dR, GR, bR, kR, mR⟩ := (ok_d_above T m).ex
    obtain ⟨fP, dP, GP, bP, kP, mP⟩ := (ok_d_parts T 12).ex
    obtain ⟨fW, dW, GW, bW, kW, mW⟩ := (ok_d_weight T 12).ex
    refine T.ok 41 rfl sc_da (fun vs H Q E h => ?_) (fun kV doc pm an cdv ct us hl => match us, hl with | [_, _, _], _ => rfl) (fun f cdv A outer s H vs Q E hr h => ?_)
    · obtain ⟨a, xs, rs, v, u, y, z, rfl, _⟩ := h
      rfl
    · obtain ⟨a, xs, rs, v, u, y, z, rfl, ha, hR, R, hy, hz, hm, wy, wz, k⟩ := h
      have hr10 : Room 13 _ := hr.mono (by omega)
      refine ⟨_, pss_cons (ps_if (PW.pt (pw_or (pt_cmpR (op_eqD hr.units) (pv 1) (pv 2) (nomark _)) (pw_or1 (pt_val (pe_isiB T.isi T.str PyProof.Rows.boot_str (pv 1)))))) (pss_one (ps_ret pe_bl)) pss_nil)
        (pss_cons (ps_par (i := 3) (j := 4) rfl sc_da.nd rfl rfl (by decide) rfl rfl (pa_cons (pe_callTy (call_dictP rfl) (by rfl) T.dict (by decide +kernel) (pa_cons (pv 0) pa_nil)) (pa_cons
            (pe_lc (own := [("_law_name", 10), ("_law_weight", 11)]) (g := gPair K 10 11) (tt := tYes) (te := tVar 10) rfl sc_da.nd (pi_list (pv 0)) (blkOk_by (N := nDA) (sc := defScope s__law_d_above) (by decide +kernel))
              (fun _ _ _ _ _ => pg_tup rfl (pgs_cons (pg_name (i := 10) sc_da.nd rfl (Or.inl rfl)) (pgs_cons (pg_name (i := 11) sc_da.nd rfl (Or.inl rfl)) pgs_nil))) (fun _ _ _ _ _ => pts_nil) (fun _ _ _ _ _ => pv 10)) pa_nil)) (by rfl))
        (pss_cons (ps_set (i := 5) sc_da.nd rfl (Or.inr rfl) (pe_lc (own := [("_law_place", 12), ("_law_part", 13)]) (g := gPair K 12 13) (tt := tB (xStr K)) (te := tVar 13) rfl sc_da.nd (pi_list (pe_call GP hr10 (by rfl) mP kP bP .nil pass0 (pa_cons (pv 1) pa_nil))) (blkOk_by (N := nDA) (sc := defScope s__law_d_above) (by decide +kernel))
              (fun _ _ _ _ _ => pg_tup rfl (pgs_cons (pg_name (i := 12) sc_da.nd rfl (Or.inl rfl)) (pgs_cons (pg_name (i := 13) sc_da.nd rfl (Or.inl rfl)) pgs_nil))) (fun _ _ _ _ _ => pts_one (pt_val (pe_isiB T.isi T.str PyProof.Rows.boot_str (pv 13)))) (fun _ _ _ _ _ => pv 13)))
        (pss_cons (ps_set (i := 6) sc_da.nd rfl (Or.inr rfl) (pe_lc (own := [("_law_place", 12), ("_law_part", 13)]) (g := gPair K 12 13) (tt := tB (xStr K)) (te := tVar 13) rfl sc_da.nd (pi_list (pe_call GP hr10 (by rfl) mP kP bP .nil pass0 (pa_cons (pv 2) pa_nil))) (blkOk_by (N := nDA) (sc := defScope s__law_d_above) (by decide +kernel))
              (fun _ _ _ _ _ => pg_tup rfl (pgs_cons (pg_name (i := 12) sc_da.nd rfl (Or.inl rfl)) (pgs_cons (pg_name (i := 13) sc_da.nd rfl (Or.inl rfl)) pgs_nil))) (fun _ _ _ _ _ => pts_one (pt_val (pe_isiB T.isi T.str PyProof.Rows.boot_str (pv 13)))) (fun _ _ _ _ _ => pv 13)))
        (pss_cons (ps_if (pt_val (pe_callB (cr_any rfl) (by rfl) T.any (by decide +kernel) (pa_cons (pe_lc (own := [("_law_variable", 14)]) (g := gName 14) (tt := tYes) (te := tOp (rI0 fun i j => .bl (decide (i < j))) (tBM K "list" (rCntS K) (tVar 5) (tCons (tVar 14) tNil)) (tBM K "list" (rCntS K) (tVar 6) (tCons (tVar 14) tNil))) rfl sc_da.nd (pi_list (pv 6)) (blkOk_by (N := nDA) (sc := defScope s__law_d_above) (by decide +kernel))
              (fun _ _ _ _ _ => pg_name (i := 14) sc_da.nd rfl (Or.inl rfl)) (fun _ _ _ _ _ => pts_nil) (fun _ _ _ _ _ => pe_cmpR op_lt (pe_bm PySem.F.plainAttrs_list PySem.F.slot_list_count PySem.F.type_list_count mt_lcountS (pv 5) (pa_cons (pv 14) pa_nil)) (pe_bm PySem.F.plainAttrs_list PySem.F.slot_list_count PySem.F.type_list_count mt_lcountS (pv 6) (pa_cons (pv 14) pa_nil)) (nomark _))) pa_nil))) (pss_one (ps_ret pe_bl)) pss_nil)
        (pss_cons (ps_par (i := 7) (j := 8) rfl sc_da.nd rfl rfl (by decide) rfl rfl (pa_cons (pe_call GW hr10 (by rfl) mW kW bW .nil pass0 (pa_cons (pv 3) (pa_cons (pv 1) pa_nil))) (pa_cons (pe_call GW hr10 (by rfl) mW kW bW .nil pass0 (pa_cons (pv 3) (pa_cons (pv 2) pa_nil))) pa_nil)) (by rfl))
        (pss_cons (ps_if (PW.pt (pw_or (pt_cmpR op_ne (pv 7) (pv 8) (nomark _)) (pw_or1 (pt_val (pe_isiB T.isi T.str PyProof.Rows.boot_str (pv 2)))))) (pss_one (ps_ret (pe_cmpR op_gt (pv 7) (pv 8) (nomark _)))) pss_nil)
        (pss_cons (ps_if (pt_cmpR op_ne (pe_ix ix_tup (pv 1) pe_int (fun _ _ => rfl)) (pe_ix ix_tup (pv 2) pe_int (fun _ _ => rfl)) (nomark _)) (pss_one (ps_ret (pe_cmpR op_gt (pe_bm PySem.F.plainAttrs_list PySem.F.slot_list_index PySem.F.type_list_index (mt_indexD (u65 hr)) (pv 4) (pa_cons (pe_ix ix_tup (pv 1) pe_int (fun _ _ => rfl)) pa_nil)) (pe_bm PySem.F.plainAttrs_list PySem.F.slot_list_index PySem.F.type_list_index (mt_indexD (u65 hr)) (pv 4) (pa_cons (pe_ix ix_tup (pv 2) pe_int (fun _ _ => rfl)) pa_nil)) (nomark _)))) pss_nil)
        (pss_cons (ps_setLc (i := 9) (own := [("_law_near", 15), ("_law_far", 16)]) (g := gPair K 15 16) (tt := tTest (tOp (rNeD K) (tVar 15) (tVar 16))) (te := tTup (tCons (tVar 15) (tCons (tVar 16) tNil))) (by rfl) sc_da.nd rfl rfl (sw_true rfl rfl rfl (by decide +kernel)) (RZ.pi_zipA (by rfl) T.zip (pa_cons (pe_slice sl_tup (pv 1) (po_some pe_int) po_none) (pa_cons (pe_slice sl_tup (pv 2) (po_some pe_int) po_none) pa_nil))) (blkOk_by (N := nDA) (sc := defScope s__law_d_above) (by decide +kernel))
              (fun _ _ _ _ _ => pg_tup rfl (pgs_cons (pg_name (i := 15) sc_da.nd rfl (Or.inl rfl)) (pgs_cons (pg_name (i := 16) sc_da.nd rfl (Or.inl rfl)) pgs_nil))) (fun _ _ _ _ _ => pts_one (pt_cmpR (op_neD hr.units) (pv 15) (pv 16) (nomark _))) (fun _ _ _ _ _ => pe_tup (pa_cons (pv 15) (pa_cons (pv 16) pa_nil))))
        (pss_one (ps_ret (pe_call GR hr (by rfl) mR kR bR .nil pass0 (pa_cons (pv 0) (pa_cons (pe_ix ix_tup (pe_ix ix_list (pv 9) pe_int (fun _ _ => rfl)) pe_int (fun _ _ => rfl)) (pa_cons (pe_ix ix_tup (pe_ix ix_list (pv 9) pe_int (fun _ _ => rfl)) pe_int (fun _ _ => rfl)) pa_nil)))))))))))))), ?_⟩
      have dyy := wy.dp
      have dzz := wz.dp
      refine q_when (b := decide (y = z) || y.isV) (et_or (et_is (et_test (ev_op (ev_var (i := 1) rfl) (ev_var (i := 2) rfl) (rv_eqW hy hz wy.ss wz.ss (by omega) (by omega)))) beq_dec) fun _ => et_is (et_B (ev_isStr (ev_var rfl) hy)) (isV_str y)) (fun hb H1 e1 => ?_) fun hb H1 e1 => ?_
      · have e : abv rs y z = false := by
          by_cases q : y = z
          · rw [q, abv_self]
          · rw [decide_eq_false q, Bool.false_or] at hb
            cases y with
            | v s => rw [abv]
            | n s as => cases hb
        rw [e] at k
        exact s_ret ev_c fun H2 e2 => k H2 (e1.trans e2)
      have hne : y ≠ z := fun q => by rw [decide_eq_true q] at hb; cases hb
      have hyv : y.isV = false := by
        cases q : y.isV with
        | false => rfl
        | true => rw [q, Bool.or_true] at hb; cases hb
      -- the weights, the names
      refine q_par1 (ev_dictR (P := fun v G => ∃ d, v = .ref d ∧ G d = some (.dK (wkv rs))) (ev_var rfl) (sq_of (e1 _ _ ha)) (hR.ext e1) R.nd (fun d G _ h => ⟨d, rfl, h⟩)) fun vd H2 e2 ⟨d, hvd, hd⟩ => ?_
      subst hvd
      have e02 := e1.trans e2
      have ha2 := e02 _ _ ha
      have R2 := hR.ext e02
      refine ⟨_, rfl, a, rfl, ⟨xs, sq_of ha2⟩, fun nl hnl => lc_it walk_list (fun i G => Ex H2 G ∧ G nl = some (.lst (((rs.map (·.1)).map V.str).take i))) ⟨Ex.new hnl, upd_same⟩ (fun i G _ c => sq_of (c.1 _ _ ha2)) ?_ ?_⟩
      · rintro i x G G' hi ⟨q1, q2⟩ ⟨rfl, hx⟩
        obtain ⟨r, hrr, c, rfl, hc⟩ := rows_at (R2.ext q1) hx
        refine ⟨c, _, rfl, st_of hc, rfl, _, _, rfl, _, _, rfl, rfl, rfl, ?_⟩
        unfold tYes
        dsimp only
        rw [if_pos rfl]
        refine ⟨_, rfl, _, q2, sz_lt (by have := R.len; simp only [List.length_take, List.length_map]; omega), Ex.mut q1 hnl, ?_⟩
        rw [upd_same, List.take_succ, List.getElem?_map, List.getElem?_map, hrr] <;> rfl
      rintro H3 ⟨e3, hn3⟩
      have hlx : xs.length = ((rs.map (·.1)).map V.str).length := by rw [rows_len hR]; simp
      rw [hlx, List.take_length] at hn3
      have e03 := e02.trans e3
      refine q_asgL (el_vars rfl (hy.ext e03) wy.dp wy.sz (fun _ _ => rfl) fun _ _ => rfl) fun l5 H4 hl5 e4 h4 => ?_
      have e04 := e03.trans e4
      refine q_asgL (el_vars rfl (hz.ext e04) wz.dp wz.sz (fun _ _ => rfl) fun _ _ => rfl) fun l6 H5 hl6 e5 h5 => ?_
      have e05 := e04.trans e5
      have vlz : z.vs.length ≤ 20000 := by have := W.vs_sz z; have := wz.sz; omega
      refine q_when (b := !occ z.vs y.vs) (et_is (et_B (ev_anyL (el_cnt rfl rfl (e5 _ _ h4) h5 vlz (fun _ => rfl) (fun _ => rfl) (fun _ => rfl) fun _ => rfl))) (any_occ _ _)) (fun hb H6 e6 => ?_) fun hb H6 e6 => ?_
      · rw [abv_no (by simpa using hb)] at k
        exact s_ret ev_c fun H7 e7 => k H7 ((e05.trans e6).trans e7)
      have hocc : occ z.vs y.vs = true := by simpa using hb
      have e06 := e05.trans e6
      have e26 : Ex H2 H6 := ((e3.trans e4).trans e5).trans e6
      have hwe : ∀ {v : V} {x : W} {σ : L2.St} {G : Hp} {i : Nat}, Ex H6 G → WV H v x → Ww rs x → σ[3]? = some (some (.ref d)) → σ[i]? = some (some v) → Ev (tCall (spDW 12) [] E0 (tCons (tVar 3) (tCons (tVar i) tNil))) σ G (.int (wt rs x)) := fun e hw wx p1 p2 => ev_call (ea_cons (ev_var p1) (ea_cons (ev_var p2) ea_nil)) fun G1 g1 Q1 q1 E1 => ⟨d, rs, _, _, rfl, g1 _ _ (e _ _ (e26 _ _ hd)), hw.ext ((e06.trans e).trans g1), wx.dp, wx.fu, wx.sz, q1⟩
      refine q_par (hwe (Ex.refl _) hy wy rfl rfl) (hwe (Ex.refl _) hz wz rfl rfl) fun H7 e7 => ?_
      have e07 := e06.trans e7
      refine q_when (b := decide (wt rs y ≠ wt rs z) || z.isV) (et_or (et_is (et_test (ev_op (ev_var (i := 7) rfl) (ev_var (i := 8) rfl) (rv_ne rfl))) (by
          by_cases q : wt rs y = wt rs z
          · rw [q, decide_eq_true rfl, decide_eq_false (fun w => w rfl)]; rfl
          · rw [decide_eq_true q, decide_eq_false (fun w => q (V.int.inj w))]; rfl)) fun _ => et_is (et_B (ev_isStr (ev_var rfl) (OV.ext e07 hz))) (isV_str z)) (fun hbv H8 e8 => ?_) fun hbv H8 e8 => ?_
      · rw [abv_top hocc (by rw [hyv, Bool.false_or]; exact hbv) (wt_one R z wz.fu)] at k
        exact s_ret (ev_op (ev_var (i := 7) rfl) (ev_var (i := 8) rfl) rv_I0) fun H9 e9 => k H9 ((e07.trans e8).trans e9)
      have hwt : wt rs y = wt rs z := by
        by_cases q : wt rs y = wt rs z
        · exact q
        · rw [decide_eq_true q] at hbv; cases hbv
      rw [decide_eq_false (fun w => w hwt), Bool.false_or] at hbv
      cases y with
      | v s => cases hyv
      | n s as =>
      cases z with
      | v t => cases hbv
      | n t bs =>
      obtain ⟨r1, us1, rfl, hr1, hu1⟩ := hy.tup
      obtain ⟨r2, us2, rfl, hr2, hu2⟩ := hz.tup
      have e08 := e07.trans e8
      have hny := fu_n wy.fu
      have hnz := fu_n wz.fu
      rw [abv_head hocc hwt] at k
      have ix : ∀ {σ : L2.St} {G : Hp} {i : Nat} {r : Addr} {us : List V} {s : Str}, Ex H G → H r = some (.tup (.str s :: us)) → σ[i]? = some (some (.ref r)) → Ev (tOp (rIxT K) (tVar i) (tC (.int 0))) σ G (.str s) := fun e h a => ev_op (ev_var a) ev_c (rv_ixT (st_of (e _ _ h)) (atI_nat (j := 0) rfl))
      by_cases hst : s = t
      · subst hst
        rw [if_neg (fun q => q rfl)] at k
        refine q_when (b := false) (et_is (et_test (ev_op (ix (i := 1) e08 hr1 rfl) (ix (i := 2) e08 hr2 rfl) (rv_ne rfl))) (by simp)) (fun z => nomatch z) fun _ H9 e9 => ?_
        have e09 := e08.trans e9
        have hl1 := hu1.length
        have hl2 := hu2.length
        have hla : as.length = bs.length := (W.ar_n wy.ar).1.trans (W.ar_n wz.ar).1.symm
        have hal : as.length ≤ 9000 := by have := W.len_szs as; have : W.szs as + 2 ≤ 9000 := wy.sz; omega
        refine q_asgLP (elp_unlike rfl rfl (e09 _ _ hr1) (e09 _ _ hr2) (hu1.ext e09) (hu2.ext e09) hal (fun x hx => ⟨(wy.arg hx).dp, (wy.arg hx).ss⟩) (fun x hx => ⟨(wz.arg hx).dp, (wz.arg hx).ss⟩) (fun _ _ => rfl) (fun _ _ => rfl) fun _ _ => rfl) fun lu xu H10 hlu e10 h10 hA => ?_
        have e010 := e09.trans e10
        rcases filter_first (unF as bs) (min us1.length us2.length) with ⟨_, hno⟩ | ⟨i0, rest, hf, hi0, hfi, hbe⟩
        · refine absurd (congrArg (W.n s) (List.ext_getElem? fun j => ?_)) hne
          by_cases hj : j < min us1.length us2.length
          · have := hno j hj
            unfold unF at this
            simpa using this
          · rw [List.getElem?_eq_none (by omega), List.getElem?_eq_none (by omega)]
        · rw [hf] at hA
          match xu, hA with
          | x0 :: xr, hA =>
            obtain ⟨t0, n1, n2, w1, w2, rfl, m1, m2, m3, m4, m5⟩ := hA.1
            have hw12 : w1 ≠ w2 := by
              intro q
              unfold unF at hfi
              rw [m2, m3, q] at hfi
              simp at hfi
            have d1 := W.lt_dp m2
            have : W.dps as + 1 < m + 1 := hm
            rw [lexd_at m2 m3 hw12 (fun j hj => by have := hbe j hj; unfold unF at this; simpa using this)] at k
            have ix0 : ∀ {G : Hp}, Ex H10 G → Ev (tOp (rIxL K) (tVar 9) (tC (.int 0))) [some (.ref a), some (.ref r1), some (.ref r2), some (.ref d), some (.ref nl), some (.ref l5), some (.ref l6), some (.int (wt rs (.n s as))), some (.int (wt rs (.n s bs))), some (.ref lu), none, none, none, none, none, none, none] G (.ref t0) := fun g => ev_op (ev_var rfl) ev_c (rv_ixL (sq_of (g _ _ h10)) (atI_nat (j := 0) rfl))
            exact s_ret (ev_call (ea_cons (ev_var rfl) (ea_cons (ev_op (ix0 (Ex.refl _)) ev_c (rv_ixT (st_of m1) (atI_nat (j := 0) rfl))) (ea_cons (ev_op (ix0 (Ex.refl _)) ev_c (rv_ixT (st_of m1) (atI_nat (j := 1) rfl))) ea_nil))) fun G g Q1 q1 E1 => ⟨a, xs, rs, n1, n2, w1, w2, rfl, (e010.trans g) _ _ ha, hR.ext (e010.trans g), R, m4.ext g, m5.ext g, by omega, wy.arg (List.mem_of_getElem? m2), wz.arg (List.mem_of_getElem? m3), q1⟩) fun G g => k G (e010.trans g)
      · rw [if_pos hst] at k
        refine q_when (b := true) (et_is (et_test (ev_op (ix (i := 1) e08 hr1 rfl) (ix (i := 2) e08 hr2 rfl) (rv_ne rfl))) (by rw [decide_eq_false (fun q => hst (V.str.inj q))]; rfl)) (fun _ H9 e9 => ?_) (fun z => nomatch z)
        have e09 := e08.trans e9
        have n9 : H9 nl = some (.lst ((rs.map (·.1)).map V.str)) := (((((e4.trans e5).trans e6).trans e7).trans e8).trans e9) _ _ hn3
        refine s_ret (ev_is (ev_op (ev_index R.n10 (ev_var (i := 4) rfl) (ix (i := 1) e09 hr1 rfl) (sq_of n9) hny.1) (ev_index R.n10 (ev_var (i := 4) rfl) (ix (i := 2) e09 hr2 rfl) (sq_of n9) hnz.1) rv_I0) ?_) fun G g => k G (e09.trans g)
        congr 1
        exact decide_eq_decide.mpr (by omega)
end
end K28

set_option Elab.async false
set_option linter.all false
set_option maxRecDepth 100000
set_option maxHeartbeats 4000000
/-! _law_mixed. -/
namespace K28
open PySem PySem.Spec PyProof.Rows L2 Evl
section
variable {P : Program} {w : World} {K : PySem.W.Frag} {mg : Str → Option Value} {base : Heap} {C : Addr}
def spMix (K : PySem.W.Frag) : Sp := fun vs H Q _ => ∃ (p q c : Addr) (n : Int) (xs : List V), vs = [.ref p, .ref c] ∧ Spr H p q n ∧ n + (xs.length : Int) < 90000 ∧ xs.length ≤ 500 ∧ SqL K H c xs ∧
  ∀ (r : Addr) (G : Hp) (ys : List V), H r = none → G r = some (.lst ys) → ys.Perm xs → Spr G p q (n + (xs.length : Int)) → But p q H G → Q (.ref r) G
abbrev nM : List Str := ["_law_stream", "_law_some", "_law_left", "_law_k"]
theorem sc_mix : FnScope nM ["_law_stream", "_law_some"] (defScope s__law_mixed) := ⟨rfl, rfl, rfl, by decide +kernel, rfl, by decide +kernel, by decide +kernel⟩
def mLen (K : PySem.W.Frag) (i : Nat) : TE := tCB (fun xs H Q => ∃ x n, xs = [x] ∧ LenV K x H n ∧ Q (.int n) H) (tCons (tVar i) tNil)
def mPop (K : PySem.W.Frag) : TE := tBM K "list" rPopAt (tVar 2) (tCons (tCall spDr [] E0 (tCons (tVar 0) (tCons (mLen K 2) tNil))) tNil)
theorem perm_eraseIdx {α : Type} : ∀ {l : List α} {j : Nat} {y : α}, l[j]? = some y → (y :: l.eraseIdx j).Perm l
  | [], j, y, h => by simp at h
  | x :: l, 0, y, h => by
    obtain rfl : x = y := by simpa using h
    exact List.Perm.refl _
  | x :: l, j + 1, y, h => by
    have ih := perm_eraseIdx (l := l) (j := j) (y := y) (by simpa using h)
    show (y :: x :: l.eraseIdx j).Perm (x :: l)
    exact (List.Perm.swap x y _).trans (ih.cons x)
theorem ok_mixed (T : T28 P w K mg base) : Ok P w K mg base CX0 "_law_mixed" ["_law_stream", "_law_some"] 2 (spMix K) := by
  obtain ⟨fD, dD, GD, bD, kD, mD⟩ := (ok_dr T).ex
  refine T.ok 46 rfl sc_mix (fun vs H Q E h => ?_) (fun kV doc pm an cdv ct us hl => match us, hl with | [_, _], _ => rfl) (fun f cdv A outer s H vs Q E hr h => ?_)
  · obtain ⟨p, q, c, n, xs, rfl, _⟩ := h
    rfl
  · obtain ⟨p, q, c, n, xs, rfl, S, hn, hz, hS, k⟩ := h
    refine ⟨_, pss_cons (ps_set (i := 2) sc_mix.nd rfl (.inr rfl) (pe_callTy call_list_of (by rfl) T.list PyProof.Rows.boot_list (pa_cons (pv 1) pa_nil)))
      (pss_one (ps_ret (pe_lc (own := [("_law_k", 3)]) (g := gName 3) (tt := tYes) (te := mPop K) rfl sc_mix.nd (pi_range1 (by rfl) T.range (pa_cons (pe_callB call_len (by rfl) T.len PySem.boot_len (pa_cons (pv 2) pa_nil)) pa_nil))
        (blkOk_by (N := nM) (sc := defScope s__law_mixed) (by decide +kernel)) (fun _ _ _ _ _ => pg_name (i := 3) sc_mix.nd rfl (Or.inl rfl)) (fun _ _ _ _ _ => pts_nil)
        (fun _ _ _ _ _ => pe_bm PySem.F.plainAttrs_list PySem.F.slot_list_pop PySem.F.type_list_pop mt_popAt (pv 2) (pa_cons (pe_call GD hr (by rfl) mD kD bD .nil pass0 (pa_cons (pv 0) (pa_cons (pe_callB call_len (by rfl) T.len PySem.boot_len (pa_cons (pv 2) pa_nil)) pa_nil))) pa_nil))))), ?_⟩
    refine ⟨_, rfl, c, xs, rfl, .inl hS, fun l hl => ?_⟩
    refine ⟨_, rfl, _, xs.length, rfl, .inl ⟨xs, sq_of upd_same, rfl⟩, _, rfl, by omega, by omega, fun D hD => ?_⟩
    obtain ⟨sx, sy, Sp, Sq⟩ := S.lst
    have lp : l ≠ p := (ne_of_none Sp hl).symm
    have lq : l ≠ q := (ne_of_none Sq hl).symm
    have Dl : D ≠ l := fun z => by
      rw [z, upd_same] at hD
      cases hD
    have hD0 : H D = none := by
      rw [upd_ne Dl] at hD
      exact hD
    have Dp' : D ≠ p := (ne_of_none Sp hD0).symm
    have Dq : D ≠ q := (ne_of_none Sq hD0).symm
    have x1 : Ex H (upd H l (.lst xs)) := Ex.new hl
    have x2 : Ex H (upd (upd H l (.lst xs)) D (.lst [])) := x1.trans (Ex.new hD)
    refine lc_range (lo := 0) (fun i G => ∃ left acc, Spr G p q (n + (i : Int)) ∧ G l = some (.lst left) ∧ left.length + i = xs.length ∧
      G D = some (.lst acc) ∧ acc.length = i ∧ (acc ++ left).Perm xs ∧ But p q H G) ?_ ?_ ?_
    · exact ⟨xs, [], by simpa using S.ext x2, by rw [upd_ne Dl.symm, upd_same], rfl, upd_same, rfl, by simp, But.of x2⟩
    · rintro i G hi ⟨left, acc, Z, g1, g2, g4, g5, g6, B⟩
      refine ⟨rfl, ?_⟩
      unfold tYes
      dsimp only
      rw [if_pos (rfl : true = true)]
      have hi' : i < xs.length := by simpa using hi
      refine ⟨_, rfl, .inl ⟨rfl, _, sq_of g1⟩, _, rfl, _, rfl, _, left.length, rfl, .inl ⟨left, sq_of g1, rfl⟩, ?_⟩
      refine ⟨p, q, _, _, rfl, Z, by omega, by omega, by omega, fun r G2 r0 r1 Z2 B2 => ?_⟩
      have h1 : G2 l = some (.lst left) := B2 l _ lp lq g1
      have h2 : G2 D = some (.lst acc) := B2 D _ Dp' Dq g4
      obtain ⟨j, rfl⟩ : ∃ j : Nat, r = (j : Int) := ⟨r.toNat, by omega⟩
      have hj : j < left.length := by omega
      obtain ⟨y, hy⟩ : ∃ y, left[j]? = some y := ⟨left[j], by simp [hj]⟩
      refine ⟨l, left, _, j, y, rfl, rfl, h1, by omega, by omega, (ixN_seq (ixn hj)).1, hy, acc, by rw [upd_ne Dl]; exact h2, by rw [g5, sizeLine_eq]; omega, ?_⟩
      refine ⟨left.eraseIdx j, acc ++ [y], ?_, by rw [upd_ne Dl.symm, upd_same], ?_, upd_same, by simp [g5], ?_, ?_⟩
      · have e : n + ((i + 1 : Nat) : Int) = n + (i : Int) + 1 := by omega
        rw [e]
        exact Z2.keep (fun o h => by rw [upd_ne Dp'.symm, upd_ne lp.symm]; exact h) (fun o h => by rw [upd_ne Dq.symm, upd_ne lq.symm]; exact h)
      · rw [List.length_eraseIdx_of_lt hj]
        omega
      · rw [List.append_assoc]
        exact ((perm_eraseIdx hy).append_left acc).trans g6
      · intro b o n1 n2 e
        have nl : b ≠ l := ne_of_none e hl
        have nD : b ≠ D := ne_of_none e hD0
        rw [upd_ne nD, upd_ne nl]
        exact B2 b o n1 n2 (B b o n1 n2 e)
    · rintro G ⟨left, acc, Z, g1, g2, g4, g5, g6, B⟩
      have hl0 : left = [] := List.length_eq_zero_iff.mp (by have e : ((xs.length : Nat) : Int).toNat = xs.length := rfl; rw [e] at g2; omega)
      subst hl0
      exact k D G acc hD0 g4 (by simpa using g6) (by simpa using Z) B
end
end K28

set_option Elab.async false
set_option linter.all false
set_option maxRecDepth 100000
set_option maxHeartbeats 4000000
/-! _law_d_rows; _law_loose. -/
namespace K28
open PySem PySem.Spec PyProof.Rows L2 Evl
def vTxt : V → Str
  | .str s => s
  | _ => ""
theorem perm_strs {ys : List V} {ns : List Str} (h : ys.Perm (ns.map V.str)) : ∃ ms : List Str, ys = ms.map V.str ∧ ms.Perm ns := by
  refine ⟨ys.map vTxt, ?_, ?_⟩
  · rw [List.map_map]
    refine (List.map_id ys).symm.trans (List.map_congr_left fun y hy => ?_)
    obtain ⟨s, _, rfl⟩ := List.mem_map.mp (h.mem_iff.mp hy)
    rfl
  · have := h.map vTxt
    rw [List.map_map] at this
    refine this.trans (List.Perm.of_eq ?_)
    refine (List.map_congr_left fun s _ => ?_).trans (List.map_id ns)
    rfl
theorem n10_nodup : N10.Nodup := by decide +kernel
section
variable {P : Program} {w : World} {K : PySem.W.Frag} {mg : Str → Option Value} {base : Heap} {C : Addr}
def spDR : Sp := fun vs H Q _ => ∃ (p q : Addr) (n : Int), vs = [.ref p] ∧ Spr H p q n ∧ n + 30 ≤ 90000 ∧
  ∀ (r : Addr) (G : Hp) (xs : List V) (rs : List (Str × Int)) (n' : Int), H r = none → G r = some (.lst xs) → OVs G xs (rs.map rowO) → RowsOk rs → (∀ s ∈ N10, s ∈ nms rs) → Spr G p q n' → n' ≤ n + 30 → But p q H G → Q (.ref r) G
abbrev nDR : List Str := ["_law_stream", "_law_names", "_law_name"]
theorem sc_dr : FnScope nDR ["_law_stream"] (defScope s__law_d_rows) := ⟨rfl, rfl, rfl, by decide +kernel, rfl, by decide +kernel, by decide +kernel⟩
theorem ok_d_rows (T : T28 P w K mg base) : Ok P w K mg base CX0 "_law_d_rows" ["_law_stream"] 3 spDR := by
  obtain ⟨fM, dM, GM, bM, kM, mM⟩ := (ok_mixed T).ex
  obtain ⟨fD, dD, GD, bD, kD, mD⟩ := (ok_dr T).ex
  refine T.ok 42 rfl sc_dr (fun vs H Q E h => ?_) (fun kV doc pm an cdv ct us hl => match us, hl with | [_], _ => rfl) (fun f cdv A outer s H vs Q E hr h => ?_)
  · obtain ⟨p, q, n, rfl, _⟩ := h
    rfl
  · obtain ⟨p, q, n, rfl, S, hn, k⟩ := h
    refine ⟨_, pss_cons (ps_set (i := 1) sc_dr.nd rfl (by first | exact Or.inl rfl | exact Or.inr rfl) (pe_call GM hr (by rfl) mM kM bM .nil pass0 (pa_cons (pv 0) (pa_cons (pe_lst (pa_cons pe_str (pa_cons pe_str (pa_cons pe_str (pa_cons pe_str (pa_cons pe_str (pa_cons pe_str (pa_cons pe_str (pa_cons pe_str (pa_cons pe_str (pa_cons pe_str pa_nil))))))))))) pa_nil))))
      (pss_one (ps_ret (pe_lc (own := [("_law_name", 2)]) (g := gName 2) (tt := tYes) (te := tTup (tCons (tVar 2) (tCons (tOp (rI0 fun i j => .int (i + j)) (tC (.int 1)) (tCall spDr [] E0 (tCons (tVar 0) (tCons (tC (.int 3)) tNil)))) tNil))) rfl sc_dr.nd (pi_list (pv 1)) (blkOk_by (N := nDR) (sc := defScope s__law_d_rows) (by decide +kernel))
        (fun _ _ _ _ _ => pg_name (i := 2) sc_dr.nd rfl (Or.inl rfl)) (fun _ _ _ _ _ => pts_nil) (fun _ _ _ _ _ => pe_tup (pa_cons (pv 2) (pa_cons (pe_op op_add pe_int (pe_call GD (hr.mono (by decide)) (by rfl) mD kD bD .nil pass0 (pa_cons (pv 0) (pa_cons pe_int pa_nil)))) pa_nil)))))), ?_⟩
    refine ⟨.ref p, rfl, by show 10 ≤ sizeLine; rw [sizeLine_eq]; omega, fun c hc => ?_⟩
    have xc : Ex H (upd H c (.lst (N10.map V.str))) := Ex.new hc
    refine ⟨p, q, c, n, N10.map V.str, rfl, S.ext xc, by show n + 10 < 90000; omega, by show 10 ≤ 500; decide, sq_of upd_same, fun r G ys hr0 hG hperm S1 B1 => ?_⟩
    have S1 : Spr G p q (n + 10) := S1
    obtain ⟨ms, rfl, hms⟩ := perm_strs hperm
    have hml : ms.length = 10 := hms.length_eq
    have hrH : H r = none := fresh_back xc hr0
    have B1' := (But.of (p := p) (q := q) xc).trans B1
    have rp : r ≠ p ∧ r ≠ q := (S.ext xc).nep hr0
    refine ⟨.ref r, rfl, r, rfl, ⟨_, sq_of hG⟩, fun Dl hD => ?_⟩
    obtain ⟨d1, d2⟩ := S1.nep hD
    have Dr : Dl ≠ r := (ne_of_none hG hD).symm
    refine lc_it (walk_list (xs := ms.map V.str)) (fun i J => ∃ (acc : List V) (n' : Int) (rs : List (Str × Int)), Spr J p q n' ∧ n' ≤ n + 10 + (i : Nat) ∧ J r = some (.lst (ms.map V.str)) ∧ J Dl = some (.lst acc) ∧ acc.length = i ∧ OVs J acc (rs.map rowO) ∧ rs.map (·.1) = ms.take i ∧ (∀ x ∈ rs, 1 ≤ x.2 ∧ x.2 ≤ 1000) ∧ But p q G J) ⟨[], n + 10, [], S1.ext (Ex.new hD), by omega, by rw [upd_ne Dr.symm]; exact hG, upd_same, rfl, rfl, rfl, (fun x hx => nomatch hx), But.of (Ex.new hD)⟩ (fun i J _ ⟨_, _, _, _, _, h, _⟩ => sq_of h) ?_ ?_
    · rintro i x J J' hi ⟨acc, n', rs, SJ, hnJ, hrJ, hJ, hal, hov, hnm, hone, BJ⟩ ⟨rfl, hx⟩
      have hx : (ms.map V.str)[i]? = some x := hx
      rw [List.getElem?_map] at hx
      obtain ⟨sn, hsn, rfl⟩ := Option.map_eq_some_iff.mp hx
      refine ⟨rfl, ?_⟩
      unfold tYes
      dsimp only
      rw [if_pos rfl]
      have hil : i < 10 := by have := (List.getElem?_eq_some_iff.mp hsn).1; omega
      refine ⟨_, rfl, .ref p, rfl, p, q, n', 3, rfl, SJ, by omega, by decide, by decide, fun rr G2 r0 r1 S2 B2 => ?_⟩
      refine ⟨_, _, rfl, rfl, by show 2 ≤ sizeLine; rw [sizeLine_eq]; omega, fun t ht => ?_⟩
      have hJ2 : G2 Dl = some (.lst acc) := B2 _ _ d1 d2 hJ
      have hr2 : G2 r = some (.lst (ms.map V.str)) := B2 _ _ rp.1 rp.2 hrJ
      have x1 : Ex G2 (upd G2 t (.tup [.str sn, .int (1 + rr)])) := Ex.new ht
      have hD3 := x1 _ _ hJ2
      have hr3 := x1 _ _ hr2
      have tl := Tx.lst (o := .lst (acc ++ [.ref t])) hD3
      refine ⟨acc, hD3, sz_lt (by omega), acc ++ [.ref t], n' + 1, rs ++ [(sn, 1 + rr)], (S2.ext x1).keep (fun o h => by rw [upd_ne d1.symm]; exact h) (fun o h => by rw [upd_ne d2.symm]; exact h), by omega, by rw [upd_ne Dr.symm]; exact hr3, upd_same, by simp [hal], ?_, ?_, ?_, ?_⟩
      · rw [List.map_append]
        refine OVs.append (OVs.tx ((SJ.tx B2).trans ((Tx.of x1).trans tl)) (rows_noL _) (rows_nod _) hov) (.cons ⟨t, _, rfl, tl _ _ upd_same, .cons rfl (.cons rfl .nil)⟩ .nil)
      · rw [List.map_append, hnm, take_snoc hsn]
        rfl
      · intro y hy
        rcases List.mem_append.mp hy with hy | hy
        · exact hone y hy
        · obtain rfl : y = (sn, 1 + rr) := by simpa using hy
          exact ⟨by show 1 ≤ 1 + rr; omega, by show 1 + rr ≤ 1000; omega⟩
      · intro b o nb1 nb2 e
        rw [upd_ne (ne_of_none e hD)]
        exact x1 _ _ (B2 _ _ nb1 nb2 (BJ _ _ nb1 nb2 e))
    · rintro J ⟨acc, n', rs, SJ, hnJ, hrJ, hJ, hal, hov, hnm, hone, BJ⟩
      have hl2 : (ms.map V.str).length = 10 := by rw [List.length_map]; exact hml
      rw [hl2] at hnm hnJ
      rw [List.take_of_length_le (by omega)] at hnm
      refine k Dl J acc rs n' (B1'.back S1 hD) hJ hov ⟨fun x hx => ?_, ?_, hone, ?_⟩ (fun s hs => ?_) SJ (by omega) (B1'.trans BJ)
      · exact hms.mem_iff.mp (by rw [← hnm]; exact List.mem_map.mpr ⟨x, hx, rfl⟩)
      · rw [hnm]
        exact hms.nodup_iff.mpr n10_nodup
      · have := congrArg List.length hnm
        rw [List.length_map] at this
        omega
      · show s ∈ rs.map (·.1)
        rw [hnm]
        exact hms.mem_iff.mpr hs
/-! ### _law_loose -/
def PQ (p q : Addr) (b : Addr) : Prop := b = p ∨ b = q
theorem go_pq {p q : Addr} {H G : Hp} (B : But p q H G) : Go (PQ p q) H G := Go.but B (.inl rfl) (.inr rfl)
theorem oszs_take {os : List O} {i : Nat} {x : O} (h : os[i]? = some x) : O.szs (os.take (i + 1)) = O.szs (os.take i) + x.sz := by
  rw [take_snoc h, O.szs_app]
  show _ + (x.sz + 0) = _
  omega
theorem oszs_take_le (os : List O) (i : Nat) : O.szs (os.take i) ≤ O.szs os := by
  have e : O.szs os = O.szs (os.take i) + O.szs (os.drop i) := by rw [← O.szs_app, List.take_append_drop]
  omega
theorem strips_app (xs ys : List O) : O.strips (xs ++ ys) = O.strips xs ++ O.strips ys := by rw [strips_eq, strips_eq, strips_eq, List.map_append]
theorem O.dp_get : ∀ {os : List O} {i : Nat} {x : O}, os[i]? = some x → x.dp ≤ O.dps os
  | [], _, _, e => by simp at e
  | a :: as, 0, x, e => by
    obtain rfl : a = x := by simpa using e
    exact Nat.le_max_left _ _
  | a :: as, i + 1, x, e => Nat.le_trans (O.dp_get (os := as) (i := i) (by simpa using e)) (Nat.le_max_right _ _)
def spLz (m : Nat) : Sp := fun vs H Q _ => ∃ (p q : Addr) (u : V) (n : Int) (o : O), vs = [.ref p, u] ∧ Spr H p q n ∧ n + (o.sz : Nat) ≤ 90000 ∧ OV (Hx (PQ p q) H) u o ∧ o.dp < m ∧ o.sz ≤ 9000 ∧
  ∀ (r : V) (G : Hp) (n' : Int) (o' : O), Spr G p q n' → n' ≤ n + (o.sz : Nat) → But p q H G → OV (Hx (Old H) G) r o' → o'.strip = o.strip → Q r G
abbrev nLz : List Str := ["_law_stream", "_law_thing", "_law_found", "_law_part"]
theorem sc_lz : FnScope nLz ["_law_stream", "_law_thing"] (defScope s__law_loose) := ⟨rfl, rfl, rfl, by decide +kernel, rfl, by decide +kernel, by decide +kernel⟩
theorem ok_loose2 (T : T28 P w K mg base) : ∀ m, Ok P w K mg base CX0 "_law_loose" ["_law_stream", "_law_thing"] (m + 2) (spLz m)
  | 0 => T.ok 49 rfl sc_lz (fun vs H Q E h => by obtain ⟨p, q, u, n, o, rfl, _⟩ := h; rfl) (fun kV doc pm an cdv ct us hl => match us, hl with | [_, _], _ => rfl) (fun f cdv A outer s H vs Q E hr h => by obtain ⟨p, q, u, n, o, _, _, _, _, h0, _⟩ := h; exact absurd h0 (Nat.not_lt_zero _))
  | m + 1 => by
    obtain ⟨fR, dR, GR, bR, kR, mR⟩ := (ok_loose2 T m).ex
    obtain ⟨fD, dD, GD, bD, kD, mD⟩ := (ok_dr T).ex
    refine T.ok 49 rfl sc_lz (fun vs H Q E h => ?_) (fun kV doc pm an cdv ct us hl => match us, hl with | [_, _], _ => rfl) (fun f cdv A outer s H vs Q E hr h => ?_)
    · obtain ⟨p, q, u, n, o, rfl, _⟩ := h
      rfl
    · obtain ⟨p, q, u, n, o, rfl, S, hn, ho, hd, hs, k⟩ := h
      refine ⟨_, pss_cons (ps_if (pt_not (pt_val (pe_isiLT T.isi T.list T.tuple (pv 1)))) (pss_one (ps_ret (pv 1))) pss_nil)
        (pss_cons (ps_setLc (i := 2) (own := [("_law_part", 3)]) (g := gName 3) (tt := tYes) (te := tCall (spLz m) [] E0 (tCons (tVar 0) (tCons (tVar 3) tNil))) (by rfl) sc_lz.nd rfl rfl (sw_true rfl rfl rfl (by decide +kernel)) (pi_seq (pv 1)) (blkOk_by (N := nLz) (sc := defScope s__law_loose) (by decide +kernel))
            (fun _ _ _ _ _ => pg_name (i := 3) sc_lz.nd rfl (Or.inl rfl)) (fun _ _ _ _ _ => pts_nil) (fun _ _ _ _ _ => pe_call GR hr (by rfl) mR kR bR .nil pass0 (pa_cons (pv 0) (pa_cons (pv 3) pa_nil))))
        (pss_one (ps_ret (pe_ifExp (pt_cmpR op_eq (pe_call GD (hr.mono (by omega)) (by rfl) mD kD bD .nil pass0 (pa_cons (pv 0) (pa_cons pe_int pa_nil))) pe_int (nomark _)) (pv 2) (pe_callTy call_tuple_of (by rfl) T.tuple PyProof.Rows.boot_tuple (pa_cons (pv 2) pa_nil)))))), ?_⟩
      have ho' : OV H u o := ho.ext hx_ex
      cases hq : o.isLst || o.isTup with
      | false =>
        refine q_when (b := true) (et_is (et_not (et_B (ev_isSeq (ev_var rfl) ho'))) (by rw [hq]; rfl)) (fun _ H1 e1 => ?_) fun z => nomatch z
        refine s_ret (ev_var rfl) fun H2 e2 => ?_
        have e := e1.trans e2
        refine k u H2 n o (S.ext e) (by omega) (But.of e) ?_ rfl
        have h2 := ho'.ext e
        cases o with
        | dct =>
          obtain ⟨a, rfl, ha⟩ := h2
          obtain ⟨a', e1, ha'⟩ := ho'
          obtain rfl : a = a' := V.ref.inj e1
          exact ⟨a, rfl, hx_of (fun ⟨xs, z⟩ => by rw [ha'] at z; cases z) (fun _ z => nomatch z) ha⟩
        | lst xs => cases hq
        | tup xs => cases hq
        | _ => exact h2
      | true =>
        obtain ⟨b, os, rfl⟩ := O.seq_of hq
        obtain ⟨a, us, rfl, ha, hov⟩ := ho.seq
        obtain ⟨npq, _, haH⟩ := hx_to ha
        have na1 : a ≠ p := fun z => npq (.inl z)
        have na2 : a ≠ q := fun z => npq (.inr z)
        have hsq : SqB H b a us := haH
        rw [O.seq_sz] at hn hs k
        have hdp : ∀ x ∈ os, x.dp < m := fun x hx => by
          obtain ⟨i, hi⟩ := List.getElem?_of_mem hx
          have := O.dp_get hi
          have : (O.seq b os).dp = O.dps os + 1 := by cases b <;> rfl
          omega
        have hul := hov.length
        have hol := O.len_szs os
        refine q_when (b := false) (et_is (et_not (et_B (ev_isSeq (ev_var rfl) ho'))) (by rw [hq]; rfl)) (fun z => nomatch z) fun _ H1 e1 => ?_
        refine iq_it (ev_var rfl) (hsq.ext e1) fun J0 H2 e2 wk Dl hD => ?_
        have e12 := e1.trans e2
        have S2 := S.ext e12
        obtain ⟨d1, d2⟩ := S2.nep hD
        have Da : Dl ≠ a := fun z => by
          have := hsq.ext e12
          unfold SqB at this
          rw [← z, hD] at this
          cases this
        obtain ⟨oP, oQ⟩ := S.old
        refine lc_it wk (fun i J => ∃ acc n' zs, Spr J p q n' ∧ n' ≤ n + (O.szs (os.take i) : Nat) ∧ J Dl = some (.lst acc) ∧ acc.length = i ∧ OVs (Hx (fun b => Old H b ∨ b = Dl) J) acc zs ∧ O.strips zs = O.strips (os.take i) ∧ But p q H2 J) ?_ ?_ ?_ ?_
        · exact ⟨[], n, [], S2.ext (Ex.new hD), by simp [O.szs], upd_same, rfl, .nil, rfl, But.of (Ex.new hD)⟩
        · rintro i J hi ⟨acc, n', zs, SJ, _, _, _, _, _, BJ⟩
          exact BJ _ _ na1 na2 (hsq.ext e12)
        · rintro i x J J' hi ⟨acc, n', zs, SJ, hnJ, hJ, hal, hov2, hst, BJ⟩ ⟨rfl, hx⟩
          refine ⟨rfl, ?_⟩
          unfold tYes
          dsimp only
          rw [if_pos (rfl : true = true)]
          obtain ⟨y, hy, hvy⟩ := hov.get hx
          have hyn := oszs_take hy
          have hle := oszs_take_le os (i + 1)
          have hil := (List.getElem?_eq_some_iff.mp hy).1
          have hvJ : OV (Hx (PQ p q) J') x y := hvy.ext ((go_pq (But.of e12)).trans (go_pq BJ)).ex
          refine ⟨.ref p, rfl, x, rfl, p, q, x, n', y, rfl, SJ, by omega, hvJ, hdp y (List.mem_of_getElem? hy), by omega, fun y' J2 n2 o2 SJ2 hn2 BJ2 hv2 hst2 => ?_⟩
          have hJ2 : J2 Dl = some (.lst acc) := BJ2 _ _ d1 d2 hJ
          refine ⟨acc, hJ2, sz_lt (by omega), acc ++ [y'], n2, zs ++ [o2], SJ2.keep (fun o h => by rw [upd_ne d1.symm]; exact h) (fun o h => by rw [upd_ne d2.symm]; exact h), by rw [hyn]; omega, upd_same, by simp [hal], ?_, ?_, ?_⟩
          · have hold : ∀ b, (Old H b ∨ b = Dl) → Old J' b := fun b hb => by
              rcases hb with hb | rfl
              · exact Old.but BJ SJ (Old.ex e12 hb)
              · exact ⟨_, hJ⟩
            have g1 : Go (fun b => Old H b ∨ b = Dl) J2 (upd J2 Dl (.lst (acc ++ [y']))) := Go.upd (.inr rfl)
            have g2 : Go (fun b => Old H b ∨ b = Dl) J' J2 := Go.but BJ2 (.inl oP) (.inl oQ)
            exact OVs.append ((hov2.ext g2.ex).ext g1.ex) (.cons ((hv2.ext (hx_mono hold)).ext g1.ex) .nil)
          · rw [take_snoc hy, strips_app, strips_app, hst]
            show _ ++ [o2.strip] = _ ++ [y.strip]
            rw [hst2]
          · intro b o nb1 nb2 e
            rw [upd_ne (ne_of_none e hD)]
            exact BJ2 _ _ nb1 nb2 (BJ _ _ nb1 nb2 e)
        · rintro J ⟨acc, n', zs, SJ, hnJ, hJ, hal, hov2, hst, BJ⟩
          rw [hul, List.take_length] at hst hnJ
          have nDl : H Dl = none := fresh_back e12 hD
          refine ⟨.ref p, rfl, p, q, n', 3, rfl, SJ, by omega, by decide, by decide, fun rr G r0 r1 S5 B5 => ⟨rfl, _, rfl, ?_⟩⟩
          have hGl : G Dl = some (.lst acc) := B5 _ _ d1 d2 hJ
          have Ball : But p q H G := ((But.of e12).trans BJ).trans B5
          have hovG : OVs (Hx (Old H) G) acc zs := by
            have a1 : OVs (Hx (Old H) J) acc zs := hov2.ext (hx_mono fun b hb => .inl hb)
            exact a1.ext (Go.but B5 oP oQ).ex
          have hso : (O.seq b os).strip = .tup (O.strips os) := by cases b <;> rfl
          dsimp only
          by_cases hb : decide (V.int rr = V.int 0) = true
          · rw [if_pos hb]
            refine ⟨.ref Dl, rfl, k (.ref Dl) G (n' + 1) (.lst zs) S5 (by omega) Ball ⟨Dl, _, rfl, hx_of (not_old nDl) lst_tbl hGl, hovG⟩ ?_⟩
            rw [hso, ← hst]
            rfl
          · rw [if_neg hb]
            refine ⟨.ref Dl, rfl, Dl, _, rfl, .inl ⟨sq_of hGl, fun pt hpt => ?_⟩⟩
            have x6 : Ex G (upd G pt (.tup acc)) := Ex.new hpt
            refine k (.ref pt) _ (n' + 1) (.tup zs) (S5.ext x6) (by omega) (Ball.trans (But.of x6)) ⟨pt, _, rfl, hx_of (not_old (Ball.back S5 hpt)) tup_tbl upd_same, hovG.ext (Go.of x6).ex⟩ ?_
            rw [hso, ← hst]
            rfl
end
end K28

set_option Elab.async false
set_option linter.all false
set_option maxRecDepth 100000
set_option maxHeartbeats 4000000
/-! Words with a part put; _law_due; _law_two. -/
namespace K28
open PySem PySem.Spec PyProof.Rows L2 Evl
theorem eqL_len (s : Str) : ∀ {xs ys : List O}, xs.length = ys.length → eqL (.str s :: xs) = eqL (.str s :: ys)
  | [], [], _ => rfl
  | [_], [_], _ => rfl
  | [_, _], [_, _], _ => rfl
  | _ :: _ :: _ :: _, _ :: _ :: _ :: _, _ => rfl
  | [], _ :: _, h => by cases h
  | _ :: _, [], h => by cases h
  | [_], _ :: _ :: _, h => by simp at h
  | _ :: _ :: _, [_], h => by simp at h
  | [_, _], _ :: _ :: _ :: _, h => by simp at h
  | _ :: _ :: _ :: _, [_, _], h => by simp at h
theorem fits_kid : ∀ {as : List W} {i : Nat} {x : W}, O.fits (W.os as) = true → as[i]? = some x → x.o.fit = true
  | [], _, _, _, e => by simp at e
  | a :: as, 0, x, h, e => by
    have h : (a.o.fit && O.fits (W.os as)) = true := h
    obtain rfl : a = x := by simpa using e
    exact (Bool.and_eq_true_iff.mp h).1
  | a :: as, i + 1, x, h, e => by
    have h : (a.o.fit && O.fits (W.os as)) = true := h
    exact fits_kid (Bool.and_eq_true_iff.mp h).2 (by simpa using e)
theorem sss_kid : ∀ {as : List W} {i : Nat} {x : W}, O.sss (W.os as) = true → as[i]? = some x → x.o.ss = true
  | [], _, _, _, e => by simp at e
  | a :: as, 0, x, h, e => by
    have h : (a.o.ss && O.sss (W.os as)) = true := h
    obtain rfl : a = x := by simpa using e
    exact (Bool.and_eq_true_iff.mp h).1
  | a :: as, i + 1, x, h, e => by
    have h : (a.o.ss && O.sss (W.os as)) = true := h
    exact sss_kid (Bool.and_eq_true_iff.mp h).2 (by simpa using e)
theorem nds_kid : ∀ {as : List W} {i : Nat} {x : W}, as[i]? = some x → x.nd ≤ W.nds as
  | [], _, _, e => by simp at e
  | a :: as, 0, x, e => by
    obtain rfl : a = x := by simpa using e
    exact Nat.le_add_right _ _
  | a :: as, i + 1, x, e => Nat.le_trans (nds_kid (as := as) (i := i) (by simpa using e)) (Nat.le_add_left _ _)
theorem fitW_kids {s : Str} {as : List W} (h : (W.n s as).o.fitW = true) : O.fits (W.os as) = true := by
  unfold O.fitW at h
  rw [Bool.or_eq_true] at h
  rcases h with h | h
  · have h : (headB (.str s) (W.os as).length && O.fits (W.os as)) = true := h
    exact (Bool.and_eq_true_iff.mp h).2
  · have h : ((eqL (.str s :: W.os as) || headB (.str s) (W.os as).length) && O.fits (W.os as)) = true := h
    exact (Bool.and_eq_true_iff.mp h).2
theorem fits_set : ∀ {as : List W} {i : Nat} {x : W}, O.fits (W.os as) = true → x.o.fit = true → O.fits (W.os (as.set i x)) = true
  | [], _, _, h, _ => h
  | a :: as, 0, x, h, k => by
    have h : (a.o.fit && O.fits (W.os as)) = true := h
    show (x.o.fit && O.fits (W.os as)) = true
    rw [k, (Bool.and_eq_true_iff.mp h).2]
    rfl
  | a :: as, i + 1, x, h, k => by
    have h : (a.o.fit && O.fits (W.os as)) = true := h
    show (a.o.fit && O.fits (W.os (as.set i x))) = true
    rw [(Bool.and_eq_true_iff.mp h).1, fits_set (Bool.and_eq_true_iff.mp h).2 k]
    rfl
theorem sss_set : ∀ {as : List W} {i : Nat} {x : W}, O.sss (W.os as) = true → x.o.ss = true → O.sss (W.os (as.set i x)) = true
  | [], _, _, h, _ => h
  | a :: as, 0, x, h, k => by
    have h : (a.o.ss && O.sss (W.os as)) = true := h
    show (x.o.ss && O.sss (W.os as)) = true
    rw [k, (Bool.and_eq_true_iff.mp h).2]
    rfl
  | a :: as, i + 1, x, h, k => by
    have h : (a.o.ss && O.sss (W.os as)) = true := h
    show (a.o.ss && O.sss (W.os (as.set i x))) = true
    rw [(Bool.and_eq_true_iff.mp h).1, sss_set (Bool.and_eq_true_iff.mp h).2 k]
    rfl
theorem nds_set : ∀ {as : List W} {i : Nat} {x y : W}, as[i]? = some x → W.nds (as.set i y) + x.nd = W.nds as + y.nd
  | [], _, _, _, e => by simp at e
  | a :: as, 0, x, y, e => by
    obtain rfl : a = x := by simpa using e
    show (y.nd + W.nds as) + a.nd = (a.nd + W.nds as) + y.nd
    omega
  | a :: as, i + 1, x, y, e => by
    have := nds_set (as := as) (i := i) (y := y) (by simpa using e)
    show (a.nd + W.nds (as.set i y)) + x.nd = (a.nd + W.nds as) + y.nd
    omega
theorem dps_set : ∀ {as : List W} {i : Nat} {y : W}, W.dps (as.set i y) ≤ max (W.dps as) y.dp
  | [], _, _ => Nat.zero_le _
  | a :: as, 0, y => by
    show max y.dp (W.dps as) ≤ max (max a.dp (W.dps as)) y.dp
    omega
  | a :: as, i + 1, y => by
    have := dps_set (as := as) (i := i) (y := y)
    show max a.dp (W.dps (as.set i y)) ≤ max (max a.dp (W.dps as)) y.dp
    omega
theorem os_set_len (as : List W) (i : Nat) (x : W) : (W.os (as.set i x)).length = (W.os as).length := by
  rw [W.os_map, W.os_map, List.length_map, List.length_map, List.length_set]
/-- what is known of a word with a part put -/
theorem put_all {y : W} (fy : y.o.fit = true) (sy : y.o.ss = true) : ∀ (pl : List Nat) (z : W), z.o.ss = true → (z.at pl).isSome = true → (z.put pl y).o.ss = true ∧ (z.put pl y).nd ≤ z.nd + y.nd ∧ (z.put pl y).dp ≤ z.dp + y.dp ∧ (z.o.fit = true → (z.put pl y).o.fit = true) ∧ (z.o.fitW = true → (z.put pl y).o.fitW = true)
  | [], z, hs, _ => by
    have e : z.put [] y = y := by cases z <;> rfl
    rw [e]
    exact ⟨sy, Nat.le_add_left _ _, Nat.le_add_left _ _, fun _ => fy, fun _ => by unfold O.fitW; rw [fy]; rfl⟩
  | i :: p, .v s, hs, h => by cases h
  | i :: p, .n s as, hs, h => by
    have h : (match as[i]? with | some x => x.at p | none => none).isSome = true := h
    have hs : (SS.contains s && O.sss (W.os as)) = true := hs
    cases hx : as[i]? with
    | none => rw [hx] at h; cases h
    | some x =>
      rw [hx] at h
      have e : (W.n s as).put (i :: p) y = .n s (as.set i (x.put p y)) := by
        show (match as[i]? with | some x => W.n s (as.set i (x.put p y)) | none => .n s as) = _
        rw [hx]
      obtain ⟨a, b, c, d, _⟩ := put_all fy sy p x (sss_kid (Bool.and_eq_true_iff.mp hs).2 hx) h
      rw [e]
      have hn := nds_set (y := x.put p y) hx
      have hd := dps_set (as := as) (i := i) (y := x.put p y)
      have hk := W.lt_dp hx
      refine ⟨?_, ?_, ?_, fun k => ?_, fun k => ?_⟩
      · show (SS.contains s && O.sss (W.os (as.set i (x.put p y)))) = true
        rw [(Bool.and_eq_true_iff.mp hs).1, sss_set (Bool.and_eq_true_iff.mp hs).2 a]
        rfl
      · show W.nds (as.set i (x.put p y)) + 1 ≤ W.nds as + 1 + y.nd
        omega
      · show W.dps (as.set i (x.put p y)) + 1 ≤ W.dps as + 1 + y.dp
        omega
      · have k : (headB (.str s) (W.os as).length && O.fits (W.os as)) = true := k
        have k2 := (Bool.and_eq_true_iff.mp k).2
        show (headB (.str s) (W.os (as.set i (x.put p y))).length && O.fits (W.os (as.set i (x.put p y)))) = true
        rw [os_set_len, (Bool.and_eq_true_iff.mp k).1, fits_set k2 (d (fits_kid k2 hx))]
        rfl
      · have k2 := fitW_kids k
        have k3 := fits_set (i := i) k2 (d (fits_kid k2 hx))
        unfold O.fitW at k ⊢
        rw [Bool.or_eq_true] at k ⊢
        rcases k with k | k
        · have k : (headB (.str s) (W.os as).length && O.fits (W.os as)) = true := k
          refine .inl ?_
          show (headB (.str s) (W.os (as.set i (x.put p y))).length && O.fits (W.os (as.set i (x.put p y)))) = true
          rw [os_set_len, (Bool.and_eq_true_iff.mp k).1, k3]
          rfl
        · have k : ((eqL (.str s :: W.os as) || headB (.str s) (W.os as).length) && O.fits (W.os as)) = true := k
          refine .inr ?_
          show ((eqL (.str s :: W.os (as.set i (x.put p y))) || headB (.str s) (W.os (as.set i (x.put p y))).length) && O.fits (W.os (as.set i (x.put p y)))) = true
          rw [os_set_len, eqL_len s (os_set_len as i (x.put p y)), (Bool.and_eq_true_iff.mp k).1, k3]
          rfl
mutual
theorem W.parts_at : ∀ (w : W) (q : List Nat × W), q ∈ w.parts → w.at q.1 = some q.2
  | .v s, q, h => by
    obtain rfl : q = _ := by simpa [W.parts] using h
    rfl
  | .n s as, q, h => by
    rcases List.mem_cons.mp h with rfl | h
    · rfl
    · obtain ⟨i, x, p, e1, e2, e3⟩ := W.partsL_at 0 as q h
      rw [Nat.zero_add] at e2
      rw [e2]
      show (match as[i]? with | some x => x.at p | none => none) = _
      rw [e1]
      exact e3
theorem W.partsL_at : ∀ (j : Nat) (as : List W) (q : List Nat × W), q ∈ W.partsL j as → ∃ i x p, as[i]? = some x ∧ q.1 = (j + i) :: p ∧ x.at p = some q.2
  | _, [], q, h => nomatch h
  | j, a :: r, q, h => by
    rcases List.mem_append.mp h with h | h
    · obtain ⟨q2, hq, rfl⟩ := List.mem_map.mp h
      exact ⟨0, a, q2.1, rfl, rfl, W.parts_at a q2 hq⟩
    · obtain ⟨i, x, p, e1, e2, e3⟩ := W.partsL_at (j + 1) r q h
      exact ⟨i + 1, x, p, by simpa using e1, by rw [e2]; congr 1; omega, e3⟩
end
theorem ars_set : ∀ {as : List W} {i : Nat} {x : W}, W.ars as = true → x.ar = true → W.ars (as.set i x) = true
  | [], _, _, h, _ => h
  | a :: as, 0, x, h, k => by
    have h := Bool.and_eq_true_iff.mp (show (a.ar && W.ars as) = true from h)
    show (x.ar && W.ars as) = true
    rw [k, h.2]
    rfl
  | a :: as, i + 1, x, h, k => by
    have h := Bool.and_eq_true_iff.mp (show (a.ar && W.ars as) = true from h)
    show (a.ar && W.ars (as.set i x)) = true
    rw [h.1, ars_set h.2 k]
    rfl
theorem vins_set {xs : List Str} : ∀ {as : List W} {i : Nat} {x : W}, W.vins xs as = true → x.vin xs = true → W.vins xs (as.set i x) = true
  | [], _, _, h, _ => h
  | a :: as, 0, x, h, k => by
    have h := Bool.and_eq_true_iff.mp (show (a.vin xs && W.vins xs as) = true from h)
    show (x.vin xs && W.vins xs as) = true
    rw [k, h.2]
    rfl
  | a :: as, i + 1, x, h, k => by
    have h := Bool.and_eq_true_iff.mp (show (a.vin xs && W.vins xs as) = true from h)
    show (a.vin xs && W.vins xs (as.set i x)) = true
    rw [h.1, vins_set h.2 k]
    rfl
theorem vins_mem {xs : List Str} {x : W} : ∀ {as : List W}, W.vins xs as = true → x ∈ as → x.vin xs = true
  | [], _, h => by cases h
  | a :: as, h, hx => by
    have h := Bool.and_eq_true_iff.mp (show (a.vin xs && W.vins xs as) = true from h)
    rcases List.mem_cons.mp hx with rfl | hx
    · exact h.1
    · exact vins_mem h.2 hx
theorem put_av {xs : List Str} {y : W} (ay : y.ar = true) (vy : y.vin xs = true) : ∀ (pl : List Nat) (z : W), z.ar = true → z.vin xs = true → (z.put pl y).ar = true ∧ (z.put pl y).vin xs = true
  | [], z, _, _ => by
    have e : z.put [] y = y := by cases z <;> rfl
    rw [e]
    exact ⟨ay, vy⟩
  | i :: p, .v s, h, k => ⟨h, k⟩
  | i :: p, .n s as, h, k => by
    have e : (W.n s as).put (i :: p) y = (match as[i]? with | some x => .n s (as.set i (x.put p y)) | none => .n s as) := rfl
    rw [e]
    cases hx : as[i]? with
    | none => exact ⟨h, k⟩
    | some x =>
      have hm := List.mem_of_getElem? hx
      obtain ⟨h1, h2⟩ := Bool.and_eq_true_iff.mp (show ((decide (as.length = arS s) && N10.contains s) && W.ars as) = true from h)
      have k : W.vins xs as = true := k
      obtain ⟨a, b⟩ := put_av ay vy p x (W.ars_mem h2 hm) (vins_mem k hm)
      refine ⟨?_, vins_set k b⟩
      show ((decide ((as.set i (x.put p y)).length = arS s) && N10.contains s) && W.ars (as.set i (x.put p y))) = true
      rw [List.length_set, h1, ars_set h2 a]
      rfl
/-- one of two words that are compared -/
structure Tw (xs : List Str) (z : W) : Prop where
  fit : z.o.fit = true
  ss : z.o.ss = true
  nd : z.nd ≤ 90
  dp : z.dp ≤ 8
  ar : z.ar = true
  vin : z.vin xs = true
theorem Tw.fitW {xs : List Str} {z : W} (h : Tw xs z) : z.o.fitW = true := by unfold O.fitW; rw [h.fit]; rfl
theorem Tw.dz {xs : List Str} {z : W} (h : Tw xs z) : Dz z := ⟨h.fitW, h.ss, by have := h.nd; omega, by have := h.dp; omega⟩
mutual
theorem ar_fu {ns : List Str} (hns : ∀ s ∈ N10, s ∈ ns) : ∀ z : W, z.ar = true → fu ns z = none
  | .v _, _ => rfl
  | .n s as, h => by
    obtain ⟨h1, h2⟩ := Bool.and_eq_true_iff.mp (show ((decide (as.length = arS s) && N10.contains s) && W.ars as) = true from h)
    have h3 := (Bool.and_eq_true_iff.mp h1).2
    unfold fu
    rw [List.contains_iff_mem.mpr (hns s (List.contains_iff_mem.mp h3)), if_pos rfl]
    exact ars_fus hns as h2
theorem ars_fus {ns : List Str} (hns : ∀ s ∈ N10, s ∈ ns) : ∀ as : List W, W.ars as = true → fus ns as = none
  | [], _ => rfl
  | a :: as, h => by
    obtain ⟨h1, h2⟩ := Bool.and_eq_true_iff.mp (show (a.ar && W.ars as) = true from h)
    show (match fu ns a with | some s => some s | none => fus ns as) = none
    rw [ar_fu hns a h1]
    exact ars_fus hns as h2
end
theorem Dz.ww {rs : List (Str × Int)} (hns : ∀ s ∈ N10, s ∈ nms rs) {z : W} (h : Dz z) (ha : z.ar = true) : Ww rs z := ⟨h.dp, by have := W.sz_nd z; have := h.nd; omega, h.ss, ha, ar_fu hns z ha⟩
theorem nN1 : nN 1 = 4 := rfl
theorem nN3 : nN 3 = 40 := rfl
theorem nN2 : nN 2 = 13 := rfl
theorem kk1 : kk 1 = 8 := rfl
theorem kk2 : kk 2 = 26 := rfl
theorem kk3 : kk 3 = 80 := rfl
theorem Dw.tw {xs : List Str} {z : W} (h : Dw 3 z) (v : z.vin xs = true) : Tw xs z := ⟨h.fit, h.ss, by have := h.nd; rw [nN3] at this; omega, by have := h.dp; omega, h.ar, v⟩
/-- the variables that may be drawn -/
structure Vrs (G : Hp) (p q va : Addr) (xs : List Str) : Prop where
  hv : G va = some (.lst (sVs xs))
  n1 : va ≠ p
  n2 : va ≠ q
  hl : xs.length ≤ 4
  hS : ∀ s ∈ xs, s ∈ SV
theorem Vrs.ext {G J : Hp} {p q va : Addr} {xs : List Str} (h : Vrs G p q va xs) (e : Ex G J) : Vrs J p q va xs := ⟨e _ _ h.hv, h.n1, h.n2, h.hl, h.hS⟩
theorem Vrs.but {G J : Hp} {p q va : Addr} {xs : List Str} (h : Vrs G p q va xs) (e : But p q G J) : Vrs J p q va xs := ⟨e _ _ h.n1 h.n2 h.hv, h.n1, h.n2, h.hl, h.hS⟩
section
variable {P : Program} {w : World} {K : PySem.W.Frag} {mg : Str → Option Value} {base : Heap} {C : Addr}
def spDue : Sp := fun vs H Q _ => ∃ a xs rs v u y z, vs = [.ref a, v, u] ∧ H a = some (.lst xs) ∧ OVs H xs (rs.map rowO) ∧ RowsOk rs ∧ WV H v y ∧ WV H u z ∧ Ww rs y ∧ Ww rs z ∧ RetV (.str (cmpS rs y z)) H Q
abbrev nDue : List Str := ["_law_rows", "_law_one", "_law_other"]
theorem sc_due : FnScope nDue ["_law_rows", "_law_one", "_law_other"] (defScope s__law_due) := ⟨rfl, rfl, rfl, by decide +kernel, rfl, by decide +kernel, by decide +kernel⟩
theorem ok_due (T : T28 P w K mg base) : Ok P w K mg base CX0 "_law_due" ["_law_rows", "_law_one", "_law_other"] 28 spDue := by
  obtain ⟨fA, dA, GA, bA, kA, mA⟩ := (ok_d_above T 12).ex
  refine T.ok 50 rfl sc_due (fun vs H Q E h => ?_) (fun kV doc pm an cdv ct us hl => match us, hl with | [_, _, _], _ => rfl) (fun f cdv A outer s H vs Q E hr h => ?_)
  · obtain ⟨a, xs, rs, v, u, y, z, rfl, _⟩ := h
    rfl
  · obtain ⟨a, xs, rs, v, u, y, z, rfl, ha, hR, R, hy, hz, wy, wz, k⟩ := h
    refine ⟨_, pss_cons (ps_if (pt_cmpR (op_eqD hr.units) (pv 1) (pv 2) (nomark _)) (pss_one (ps_ret pe_str)) pss_nil)
      (pss_one (ps_ret (pe_ifExp (pt_val (pe_call GA hr (by rfl) mA kA bA .nil pass0 (pa_cons (pv 0) (pa_cons (pv 1) (pa_cons (pv 2) pa_nil))))) pe_str
        (pe_ifExp (pt_val (pe_call GA hr (by rfl) mA kA bA .nil pass0 (pa_cons (pv 0) (pa_cons (pv 2) (pa_cons (pv 1) pa_nil))))) pe_str pe_str)))), ?_⟩
    have dyy := wy.dp
    have dzz := wz.dp
    have ab : ∀ {G : Hp} {i j : Nat} {v u : V} {y z : W}, Ex H G → WV H v y → WV H u z → Ww rs y → Ww rs z → ([some (.ref a), some v, some u] : L2.St)[i]? = some (some v) → ([some (.ref a), some v, some u] : L2.St)[j]? = some (some u) → True := fun _ _ _ _ _ _ _ => trivial
    unfold cmpS at k
    have ev1 : ∀ {G : Hp}, Ex H G → Ev (tCall (spDA 12) [] E0 (tCons (tVar 0) (tCons (tVar 1) (tCons (tVar 2) tNil)))) [some (.ref a), some v, some u] G (.bl (abv rs y z)) := fun e => ev_call (ea_cons (ev_var rfl) (ea_cons (ev_var rfl) (ea_cons (ev_var rfl) ea_nil))) fun H4 e4 Q q E => ⟨a, xs, rs, v, u, y, z, rfl, (e.trans e4) _ _ ha, hR.ext (e.trans e4), R, hy.ext (e.trans e4), hz.ext (e.trans e4), wy.dp, wy, wz, q⟩
    have ev2 : ∀ {G : Hp}, Ex H G → Ev (tCall (spDA 12) [] E0 (tCons (tVar 0) (tCons (tVar 2) (tCons (tVar 1) tNil)))) [some (.ref a), some v, some u] G (.bl (abv rs z y)) := fun e => ev_call (ea_cons (ev_var rfl) (ea_cons (ev_var rfl) (ea_cons (ev_var rfl) ea_nil))) fun H4 e4 Q q E => ⟨a, xs, rs, u, v, z, y, rfl, (e.trans e4) _ _ ha, hR.ext (e.trans e4), R, hz.ext (e.trans e4), hy.ext (e.trans e4), wz.dp, wz, wy, q⟩
    refine q_when (et_test (ev_op (x := v) (y := u) (ev_var (i := 1) rfl) (ev_var (i := 2) rfl) (rv_eqW hy hz wy.ss wz.ss (by omega) (by omega)))) (fun hb H1 e1 => ?_) fun hb H1 e1 => ?_
    · rw [beq_dec] at hb
      rw [if_pos (of_decide_eq_true hb)] at k
      exact s_ret ev_c fun H2 e2 => k H2 (e1.trans e2)
    · rw [beq_dec] at hb
      rw [if_neg (of_decide_eq_false hb)] at k
      refine s_ret (ev_if (et_B (ev1 e1)) (fun hb => ?_) (fun hb => ?_)) fun H2 e2 => k H2 (e1.trans e2)
      · rw [if_pos hb]
        exact ev_c
      · rw [if_neg (by rw [hb]; decide)]
        refine ev_if (et_B (ev2 e1)) (fun hb => ?_) (fun hb => ?_)
        · rw [if_pos hb]
          exact ev_c
        · rw [if_neg (by rw [hb]; decide)]
          exact ev_c
def spTwo : Sp := fun vs H Q _ => ∃ (p q va : Addr) (n : Int) (xs : List Str), vs = [.ref p, .ref va] ∧ Spr H p q n ∧ n + 600 ≤ 90000 ∧ Vrs H p q va xs ∧
  ∀ (t : Addr) (u v : V) (G : Hp) (n' : Int) (y z : W), G t = some (.tup [u, v]) → WV G u y → WV G v z → Tw xs y → Tw xs z → Spr G p q n' → n' ≤ n + 600 → But p q H G → Q (.ref t) G
abbrev nTwo : List Str := ["_law_stream", "_law_variables", "_law_one", "_law_place", "_law_part"]
theorem sc_two : FnScope nTwo ["_law_stream", "_law_variables"] (defScope s__law_two) := ⟨rfl, rfl, rfl, by decide +kernel, rfl, by decide +kernel, by decide +kernel⟩
theorem ok_two (T : T28 P w K mg base) : Ok P w K mg base CX0 "_law_two" ["_law_stream", "_law_variables"] 34 spTwo := by
  obtain ⟨fD, dD, GD, bD, kD, mD⟩ := (ok_dr T).ex
  obtain ⟨fA, dA, GA, bA, kA, mA⟩ := (ok_d_atom T).ex
  obtain ⟨fW, dW, GW, bW, kW, mW⟩ := (ok_d_word T 3).ex
  obtain ⟨fV, dV, GV, bV, kV', mV⟩ := (ok_d_word T 1).ex
  obtain ⟨fK, dK, GK, bK, kK, mK⟩ := (ok_pick T).ex
  obtain ⟨fP, dP, GP, bP, kP, mP⟩ := (ok_d_parts T 12).ex
  obtain ⟨fU, dU, GU, bU, kU, mU⟩ := (ok_word_put T).ex
  refine T.ok 51 rfl sc_two (fun vs H Q E h => ?_) (fun kV doc pm an cdv ct us hl => match us, hl with | [_, _], _ => rfl) (fun f cdv A outer s H vs Q E hr h => ?_)
  · obtain ⟨p, q, va, n, xs, rfl, _⟩ := h
    rfl
  · obtain ⟨p, q, va, n, xs, rfl, S, hn, hv, k⟩ := h
    refine ⟨_, pss_cons (ps_set (i := 2) sc_two.nd rfl (by first | exact Or.inl rfl | exact Or.inr rfl) (pe_ifExp (pt_cmpR op_eq (pe_call GD (hr.mono (by decide)) (by rfl) mD kD bD .nil pass0 (pa_cons (pv 0) (pa_cons pe_int pa_nil))) pe_int (nomark _))
        (pe_call GA (hr.mono (by decide)) (by rfl) mA kA bA .nil pass0 (pa_cons (pv 0) (pa_cons pe_int (pa_cons (pv 1) pa_nil)))) (pe_call GW (hr.mono (by decide)) (by rfl) mW kW bW .nil pass0 (pa_cons (pv 0) (pa_cons pe_int (pa_cons (pv 1) pa_nil))))))
      (pss_cons (ps_if (pt_cmpR op_eq (pe_call GD (hr.mono (by decide)) (by rfl) mD kD bD .nil pass0 (pa_cons (pv 0) (pa_cons pe_int pa_nil))) pe_int (nomark _)) (pss_one (ps_ret (pe_tup (pa_cons (pv 2) (pa_cons (pe_call GW (hr.mono (by decide)) (by rfl) mW kW bW .nil pass0 (pa_cons (pv 0) (pa_cons pe_int (pa_cons (pv 1) pa_nil)))) pa_nil))))) pss_nil)
      (pss_cons (ps_asg (pe_call GK (hr.mono (by decide)) (by rfl) mK kK bK .nil pass0 (pa_cons (pv 0) (pa_cons (pe_call GP (hr.mono (by decide)) (by rfl) mP kP bP .nil pass0 (pa_cons (pv 2) pa_nil)) pa_nil))) (pg_tup rfl (pgs_cons (pg_name (i := 3) sc_two.nd rfl (Or.inl rfl)) (pgs_cons (pg_name (i := 4) sc_two.nd rfl (Or.inl rfl)) pgs_nil))))
      (pss_one (ps_ret (pe_tup (pa_cons (pv 2) (pa_cons (pe_callS (sp := spWu K) GU hr (by rfl) mU kU bU (fun σ => passAt L2.takes0 σ) (pa_cons (pv 2) (pa_cons (pv 3) (pa_cons (pe_call GV (hr.mono (by decide)) (by rfl) mV kV' bV .nil pass0 (pa_cons (pv 0) (pa_cons pe_int (pa_cons (pv 1) pa_nil)))) pa_nil)))) pa_nil))))))), ?_⟩
    refine ⟨.ref p, rfl, p, q, n, 3, rfl, S, by omega, by decide, by decide, fun rr G1 r0 r1 S1 B1 => ⟨rfl, _, rfl, ?_⟩⟩
    have v1 := hv.but B1
    have rest : ∀ (r : V) (G2 : Hp) (n2 : Int) (y : W), Spr G2 p q n2 → n2 ≤ n + 410 → But p q H G2 → WV G2 r y → Tw xs y → y.o.fit = true → y.nd ≤ 81 → y.dp ≤ 6 →
        tSeq (tIfS (tTest (tOp rEq (tCall spDr [] E0 (tCons (tVar 0) (tCons (tC (.int 2)) tNil))) (tC (.int 0)))) (tRet (tTup (tCons (tVar 2) (tCons (tCall (spDw 3) [] E0 (tCons (tVar 0) (tCons (tC (.int 3)) (tCons (tVar 1) tNil)))) tNil)))) tNext)
          (tSeq (tAsg (tCall (spPick K) [] E0 (tCons (tVar 0) (tCons (tCall (spDp 12) [] E0 (tCons (tVar 2) tNil)) tNil))) (gPair K 3 4))
            (tRet (tTup (tCons (tVar 2) (tCons (tCallS (spWu K) (fun σ => WE (fun _ _ _ _ => False) σ) (tCons (tVar 2) (tCons (tVar 3) (tCons (tCall (spDw 1) [] E0 (tCons (tVar 0) (tCons (tC (.int 1)) (tCons (tVar 1) tNil)))) tNil)))) tNil)))))
          { nx := fun _ H' => Q .non H', rt := Q } [some (.ref p), some (.ref va), some r, none, none] G2 := by
      intro r G2 n2 y S2 hn2 B2 hr2 ty fy ny dy
      refine ⟨.ref p, rfl, p, q, n2, 2, rfl, S2, by omega, by decide, by decide, fun rr G3 r0 r1 S3 B3 => ⟨rfl, _, rfl, ?_⟩⟩
      have B03 := B2.trans B3
      have v3 := hv.but B03
      have hw3 : WV G3 r y := hr2.tx (S2.tx B3)
      by_cases hb : decide (V.int rr = V.int 0) = true
      · rw [hb]
        refine ⟨r, rfl, .ref p, rfl, .ref va, rfl, p, q, va, n2 + 1, xs, rfl, S3, by rw [kk3]; omega, v3.hv, v3.n1, v3.n2, v3.hl, v3.hS, fun u J n' z SJ hn' BJ hz dz vz => ?_⟩
        rw [kk3] at hn'
        refine ⟨by show 2 ≤ sizeLine; rw [sizeLine_eq]; omega, fun t ht => ?_⟩
        have x5 : Ex J (upd J t (.tup [r, u])) := Ex.new ht
        exact k t r u _ n' y z upd_same ((hw3.tx (S3.tx BJ)).ext x5) (hz.ext x5) ty (dz.tw vz) (SJ.ext x5) (by omega) ((B03.trans BJ).trans (But.of x5))
      · have hb : decide (V.int rr = V.int 0) = false := by simpa using hb
        rw [hb]
        have hsz := W.sz_nd y
        refine ⟨.ref p, rfl, r, rfl, r, y, rfl, hw3, by omega, by decide, by omega, fun pp ps G4 hpp e4 h4 hA => ?_⟩
        have hpl : ps.length = y.nd := by rw [hA.length, W.parts_nd]
        have hne : ps ≠ [] := fun z => by
          rw [z] at hpl
          cases y <;> simp [W.nd] at hpl
        obtain ⟨n1, n2'⟩ := S3.nep hpp
        refine ⟨p, q, pp, n2 + 1, ps, rfl, S3.ext e4, by omega, h4, n1, n2', hne, by omega, fun x G5 hx S5 B5 => ?_⟩
        obtain ⟨i, hi⟩ := List.getElem?_of_mem hx
        obtain ⟨qq, hqq, t, l, u', rfl, k1, k2, k3, k4⟩ := hA.get hi
        have tx2 : Tx G4 G5 := (S3.ext e4).tx B5
        have ht2 := tx2 _ _ k1
        have hat := W.parts_at y qq (List.mem_of_getElem? hqq)
        obtain ⟨m1, m2⟩ := S3.nep k2.1
        have hl2 := B5 _ _ m1 m2 k3
        have hw5 : WV G5 r y := (WV.ext e4 hw3).tx tx2
        have B05 : But p q H G5 := (B03.trans (But.of e4)).trans B5
        have v5 := hv.but B05
        refine ⟨t, _, rfl, st_of ht2, rfl, _, _, rfl, _, _, rfl, rfl, ?_⟩
        refine ⟨r, rfl, r, rfl, .ref l, rfl, .ref p, rfl, .ref va, rfl, p, q, va, n2 + 1 + 1, xs, rfl, S5, by rw [kk1]; omega, v5.hv, v5.n1, v5.n2, v5.hl, v5.hS, fun u J n' z SJ hn' BJ hz dz vz => ?_⟩
        rw [kk1] at hn'
        have tx3 := S5.tx BJ
        have hl3 := BJ _ _ m1 m2 hl2
        have hlen := W.parts_deep y qq (List.mem_of_getElem? hqq)
        have hwJ := hw5.tx tx3
        refine ⟨r, .ref l, u, rfl, .inr ⟨y, ty.dz.lw hwJ (strip_o y), .inr ⟨qq.1, .yes rfl (show SqB J true l (nums qq.1) from hl3) (by omega) (by rw [hat]; rfl), .inr ⟨z, (dz.dz (by decide)).lw hz (strip_o z), dz.eq, fun r2 J2 e2 hw6 => ?_⟩⟩⟩⟩
        refine ⟨by show 2 ≤ sizeLine; rw [sizeLine_eq]; omega, fun t2 ht3 => ?_⟩
        have x5 : Ex J2 (upd J2 t2 (.tup [r, r2])) := Ex.new ht3
        obtain ⟨a1, a2, a3, a4, a5⟩ := put_all dz.fit dz.ss qq.1 y ty.ss (by rw [hat]; rfl)
        obtain ⟨b1, b2⟩ := put_av dz.ar vz qq.1 y ty.ar ty.vin
        have d1 := dz.nd
        rw [nN1] at d1
        have d2 := dz.dp
        exact k t2 r r2 _ n' y _ upd_same (hwJ.ext (e2.trans x5)) (hw6.ext x5) ty ⟨a4 ty.fit, a1, by omega, by omega, b1, b2⟩ ((SJ.ext e2).ext x5) (by omega) ((B05.trans BJ).trans (But.of (e2.trans x5)))
    dsimp only
    by_cases hb : decide (V.int rr = V.int 0) = true
    · rw [if_pos hb]
      refine ⟨.ref p, rfl, .ref va, rfl, p, q, va, n + 1, xs, rfl, S1, by omega, v1.hv, v1.n1, v1.n2, v1.hl, v1.hS, fun r J n' z SJ hn' BJ hw dz hz az vz => ?_⟩
      exact rest r J n' z SJ (by omega) (B1.trans BJ) hw ⟨hz.2.1, dz.ss, by have := hz.1; omega, by have := hz.2.2; omega, az, vz⟩ hz.2.1 hz.1 hz.2.2
    · rw [if_neg hb]
      refine ⟨.ref p, rfl, .ref va, rfl, p, q, va, n + 1, xs, rfl, S1, by rw [kk3]; omega, v1.hv, v1.n1, v1.n2, v1.hl, v1.hS, fun r J n' z SJ hn' BJ hw dz vz => ?_⟩
      rw [kk3] at hn'
      have d1 := dz.nd
      rw [nN3] at d1
      have d2 := dz.dp
      exact rest r J n' z SJ (by omega) (B1.trans BJ) hw (dz.tw vz) dz.fit (by omega) (by omega)
end
end K28

set_option Elab.async false
set_option linter.all false
set_option maxRecDepth 100000
set_option maxHeartbeats 4000000
/-! An order made, its errors told; what stands while the law asks it. -/
namespace L2
open PySem PySem.Spec PyProof.Rows
section
variable {X : Cx} {CX : CXT} {k : Nat} {f C : Addr} {fd : FuncData} {ps : List Str} {sp : Sp} {E : St → XK} {x m : Str} {p pos apos : Pos} {e o : Expr} {es : List Expr} {ta : TE} {t : TA}
theorem run_makeS {pins : List (Addr × Obj)} {σ : St} {H : Hp} {s : Shared} {Q : VK} {us : List Value} {vs : List V} (M : Mk X.K C f) (F : FnOk X.prog X.w X.K X.mg X.base CX k f fd ps sp) (hr : Room (k + 1) X.A) (hb : Binds X.K fd ps [])
    (hx : PassesAt CX X σ (E σ)) (I : Inv X pins σ H s) (r : Vals vs us)
    (h : ∀ x dx, H x = none → H dx = none → dx ≠ x → sp (.ref x :: vs) (upd (upd H dx (.own x)) x (.ins C dx [])) (fun v H2 => v = .non ∧ Q (.ref x) H2) (E σ)) :
    wpAny (model X.prog X.w) X.A (call (.ref C) us) (EP X pins σ Q) X.xe s := by
  have hq := h (s.heap.objs.size + 1) s.heap.objs.size (I.hok.fresh (Nat.le_succ _)) (I.hok.fresh (Nat.le_refl _)) (Nat.ne_of_lt (Nat.lt_succ_self _))
  have I2 := Inv.made (C := C) I
  have r2 : Vals (V.ref (s.heap.objs.size + 1) :: vs) (Value.ref (s.heap.objs.size + 1) :: us) := .cons rfl r
  have hl : (Value.ref (s.heap.objs.size + 1) :: us).length = ps.length := by
    have e := r2.length
    rw [F.len _ _ _ _ hq] at e
    exact e.symm
  have b := hb _ (Value.ref (s.heap.objs.size + 1) :: us) I2.kIn (by rw [List.append_nil]; exact hl)
  rw [List.append_nil] at b
  refine wpAny_call (make_map (f := f) I.kIn M.makes M.init (beq_iff_eq.mp M.fn) (codeAny_mono (F.run _ X.stack _ _ ⟨Value.ref (s.heap.objs.size + 1) :: us, []⟩ (Value.ref (s.heap.objs.size + 1) :: us) _ _ (E σ) (hr.make C us [])
    (I2.env0.make C us []) b r2 hq) fun r s' hq' => ?_))
  cases r with
  | error e => exact hx pins _ _ e s' I2 hq'
  | ok fl =>
    cases fl with
    | ret u =>
      obtain ⟨v, H', I3, rv, ev, q3⟩ := I2.after hq'
      subst ev
      exact ⟨rv, ⟨V.ref (s.heap.objs.size + 1), H', I3, rfl, q3⟩⟩
    | next => exact False.elim hq'
    | brk => exact False.elim hq'
    | cont => exact False.elim hq'
def tMakeS (C : Addr) (sp : Sp) (E : St → XK) (t : TA) : TE := fun σ H Q => t σ H fun vs H1 => ∀ x dx, H1 x = none → H1 dx = none → dx ≠ x →
  sp (.ref x :: vs) (upd (upd H1 dx (.own x)) x (.ins C dx [])) (fun v H2 => v = .non ∧ Q (.ref x) H2) (E σ)
theorem pe_makeS (M : Mk X.K C f) (F : FnOk X.prog X.w X.K X.mg X.base CX k f fd ps sp) (hr : Room (k + 1) X.A) (hg : Gl X x) (hm : X.mg x = some (.ref C)) (hb : Binds X.K fd ps []) (hx : ∀ σ, PassesAt CX X σ (E σ))
    (ha : PA X (e :: es) t) (hdb : (x == ("__debug__" : Str)) = false := by decide) (he : starEach (e :: es) X.env = (false, eval e X.env) :: starEach es X.env := by rfl) (hpl : (backTo pos (starEach es X.env)).any (·.1) = false := by rfl) :
    PE X (.Call (.Name x p) (e :: es) [] pos) (tMakeS C sp E t) := by
  refine ⟨fun pins s σ H Q I h => ?_⟩
  refine wpAny_Call_Name_kw (ld_glob I hg hm ?_ hdb)
  refine PySem.W.callWith_K (h₀ := X.base) I.ok.mod.kin M.kp (thn (ha.run pos pins s σ H _ I h) fun us s1 ⟨vs, H1, I1, r, q⟩ => ⟨I1.kIn, ?_⟩) he hpl
  exact run_makeS M F hr hb (hx σ) I1 r q
end
end L2
namespace K28
open PySem PySem.Spec PyProof.Rows L2 Evl LamX
theorem OrdAt.but {C : Addr} {H G : Hp} {o dr p q : Addr} {rs : List (Str × Int)} {n : Int} (h : OrdAt C H o dr rs) (B : But p q H G) (S : Spr H p q n) (d1 : dr ≠ p) (d2 : dr ≠ q) : OrdAt C G o dr rs := by
  obtain ⟨dx, dw, dk, fs, xs, h1, h0, h2, h3, h4, h5, h6, h7⟩ := h.ex
  obtain ⟨sx, sy, hp, hq⟩ := S.lst
  have keep : ∀ {a : Addr} {u : HO}, H a = some u → (∀ zs, u ≠ .lst zs) → G a = some u := fun {a u} ha hu => B _ _ (fun e => by rw [e, hp] at ha; exact hu _ (Option.some.inj ha).symm) (fun e => by rw [e, hq] at ha; exact hu _ (Option.some.inj ha).symm) ha
  exact ⟨dx, dw, dk, fs, xs, keep h1 (fun _ z => nomatch z), h0, h2, h3, keep h4 (fun _ z => nomatch z), keep h5 (fun _ z => nomatch z), B _ _ d1 d2 h6, OVs.tx (S.tx B) (rows_noL _) (rows_nod _) h7⟩
/-- what stands while the law asks an order: its rows, it -/
structure Sg (C : Addr) (J : Hp) (p q a o dr : Addr) (xs : List V) (rs : List (Str × Int)) : Prop where
  a1 : J a = some (.lst xs)
  a2 : OVs J xs (rs.map rowO)
  ap : a ≠ p
  aq : a ≠ q
  od : OrdAt C J o dr rs
  dp : dr ≠ p
  dq : dr ≠ q
section
variable {C : Addr} {J G : Hp} {p q a o dr : Addr} {xs : List V} {rs : List (Str × Int)} {n : Int}
theorem Sg.ext (h : Sg C J p q a o dr xs rs) (e : Ex J G) : Sg C G p q a o dr xs rs := ⟨e _ _ h.a1, h.a2.ext e, h.ap, h.aq, h.od.ext e, h.dp, h.dq⟩
theorem Sg.but (h : Sg C J p q a o dr xs rs) (B : But p q J G) (S : Spr J p q n) : Sg C G p q a o dr xs rs := ⟨B _ _ h.ap h.aq h.a1, OVs.tx (S.tx B) (rows_noL _) (rows_nod _) h.a2, h.ap, h.aq, h.od.but B S h.dp h.dq, h.dp, h.dq⟩
end
/-- all names have their weights -/
structure Al (rs : List (Str × Int)) : Prop where
  ok : RowsOk rs
  all : ∀ s ∈ N10, s ∈ nms rs
section
variable {K : PySem.W.Frag} {σ : L2.St} {H : Hp} {C : Addr}
/-- an order is made of right rows -/
theorem mk_order {te : TE} {E : L2.St → XK} {Q : VK} (h : EvP te σ H (fun v G => ∃ o rs, OV G v o ∧ o.strip = rowsO rs ∧ RowsOk rs ∧ ∀ (x dr : Addr) (J : Hp), G dr = none → Ex G J → OrdAt C J x dr rs → Q (.ref x) J)) : tMakeS C (spInit K C) E (tCons te tNil) σ H Q :=
  h H (Ex.refl _) _ fun v G e ⟨o, rs, ho, hs, R, k⟩ => fun x dx nx ndx hne => by
    have e1 : Ex G (upd G dx (.own x)) := Ex.new ndx
    have nx1 : (upd G dx (.own x)) x = none := by rw [upd_ne hne.symm]; exact nx
    have e2 : Ex G (upd (upd G dx (.own x)) x (.ins C dx [])) := e1.trans (Ex.new nx1)
    refine ⟨x, dx, v, o, rfl, upd_same, ho.ext e2, (rows_ss R hs).1, by rw [(rows_ss R hs).2]; have := R.len; omega, .inr ⟨rs, hs, R, fun J dr hO ndr hk => ⟨rfl, k x dr J ?_ (fun b u hb => ?_) hO⟩⟩⟩
    · cases q : G dr with
      | none => rfl
      | some u => rw [e2 _ _ q] at ndr; cases ndr
    · exact hk b u (e2 _ _ hb) (ne_of_none hb nx)
/-- compare tells -/
theorem ev_cmp {t0 t1 t2 : TE} {E : L2.St → XK} {o dr : Addr} {v u : V} {rs : List (Str × Int)} {y z : W} (h0 : Ev t0 σ H (.ref o)) (h1 : Ev t1 σ H v) (h2 : Ev t2 σ H u) (hO : OrdAt C H o dr rs) (A : Al rs) (hv : Lw H v y) (hu : Lw H u z) (ay : y.ar = true) (az : z.ar = true) :
    Ev (tCallS (spCmp K C) E (tCons t0 (tCons t1 (tCons t2 tNil)))) σ H (.str (cmpS rs y z)) := fun H1 e Q q =>
  h0 H1 e _ fun H2 e2 => h1 H2 (e.trans e2) _ fun H3 e3 => h2 H3 ((e.trans e2).trans e3) _ fun H4 e4 => by
    have eA := (e2.trans e3).trans e4
    have e0 := e.trans eA
    exact ⟨_, _, _, rfl, .inr ⟨o, dr, rs, rfl, hO.ext e0, A.ok, .inr ⟨y, hv.ext e0, .inr ⟨ar_fu A.all y ay, .inr ⟨z, hu.ext e0, .inr ⟨ar_fu A.all z az, fun H5 e5 => q H5 (eA.trans e5)⟩⟩⟩⟩⟩⟩
end
/-! ### what is told the other way round -/
def backS (d : Str) : Str := if d = "above" then "below" else if d = "below" then "above" else d
theorem cmp_back {rs : List (Str × Int)} {y z : W} (ay : y.ar = true) (az : z.ar = true) : cmpS rs z y = backS (cmpS rs y z) := by
  have d1 : ("same" : Str) ≠ "above" := by decide +kernel
  have d2 : ("same" : Str) ≠ "below" := by decide +kernel
  have d3 : ("below" : Str) ≠ "above" := by decide +kernel
  have d4 : ("none" : Str) ≠ "above" := by decide +kernel
  have d5 : ("none" : Str) ≠ "below" := by decide +kernel
  unfold cmpS backS
  by_cases h : y = z
  · subst h
    rw [if_pos rfl, if_neg d1, if_neg d2]
  · rw [if_neg h, if_neg fun q => h q.symm]
    by_cases h1 : abv rs y z = true
    · rw [if_pos h1, if_pos h1, if_pos rfl, abv_asym ay az h1, if_neg (by decide)]
    · rw [if_neg h1, if_neg h1]
      by_cases h2 : abv rs z y = true
      · rw [if_pos h2, if_pos h2, if_neg d3, if_pos rfl]
      · rw [if_neg h2, if_neg h2, if_neg d4, if_neg d5]
theorem cmp_ground {rs : List (Str × Int)} {y z : W} (ay : y.ar = true) (az : z.ar = true) (gy : y.vs = []) (gz : z.vs = []) (ny : fu (nms rs) y = none) (nz : fu (nms rs) z = none) : cmpS rs y z ≠ "none" := by
  unfold cmpS
  by_cases h : y = z
  · rw [if_pos h]; decide +kernel
  · rw [if_neg h]
    rcases abv_total (y.dp + 1) y z (Nat.lt_succ_self _) ay az gy gz ny nz h with q | q
    · rw [if_pos q]; decide +kernel
    · by_cases h1 : abv rs y z = true
      · rw [if_pos h1]; decide +kernel
      · rw [if_neg h1, if_pos q]; decide +kernel
theorem cmp_sub {rs : List (Str × Int)} {y z : W} {f : Str → Option W} (hf : ∀ s, 1 ≤ wt rs (put1 f s)) (ay : (y.sub f).ar = true) (az : (z.sub f).ar = true) (h : cmpS rs y z ≠ "none") : cmpS rs (y.sub f) (z.sub f) = cmpS rs y z := by
  unfold cmpS at h ⊢
  by_cases e : y = z
  · subst e
    rw [if_pos rfl, if_pos rfl]
  · rw [if_neg e] at h ⊢
    by_cases h1 : abv rs y z = true
    · have h2 := abv_sub hf (y.dp + 1) y z (Nat.lt_succ_self _) h1
      have ne : y.sub f ≠ z.sub f := fun q => by rw [q, abv_self] at h2; cases h2
      rw [if_pos h1, if_neg ne, if_pos h2]
    · rw [if_neg h1] at h ⊢
      by_cases h3 : abv rs z y = true
      · have h2 := abv_sub hf (z.dp + 1) z y (Nat.lt_succ_self _) h3
        have ne : y.sub f ≠ z.sub f := fun q => by rw [q, abv_self] at h2; cases h2
        rw [if_pos h3, if_neg ne, abv_asym az ay h2, if_neg (by decide), if_pos h2]
      · rw [if_neg h3] at h
        exact absurd rfl h
theorem cmp_above {rs : List (Str × Int)} {y z : W} (h : cmpS rs y z = "above") : abv rs y z = true := by
  unfold cmpS at h
  by_cases e : y = z
  · rw [if_pos e] at h; exact absurd h (by decide +kernel)
  · rw [if_neg e] at h
    by_cases h1 : abv rs y z = true
    · exact h1
    · rw [if_neg h1] at h
      by_cases h3 : abv rs z y = true
      · rw [if_pos h3] at h; exact absurd h (by decide +kernel)
      · rw [if_neg h3] at h; exact absurd h (by decide +kernel)
theorem cmp_of {rs : List (Str × Int)} {y z : W} (h : abv rs y z = true) : cmpS rs y z = "above" := by
  have e : y ≠ z := fun q => by rw [q, abv_self] at h; cases h
  unfold cmpS
  rw [if_neg e, if_pos h]
/-! ### words put keep arities -/
mutual
theorem ar_sub {f : Str → Option W} (hf : ∀ s, (put1 f s).ar = true) : ∀ z : W, z.ar = true → (z.sub f).ar = true
  | .v s, _ => hf s
  | .n s as, h => by
    obtain ⟨h1, h2⟩ := Bool.and_eq_true_iff.mp (show ((decide (as.length = arS s) && N10.contains s) && W.ars as) = true from h)
    show ((decide ((W.subs f as).length = arS s) && N10.contains s) && W.ars (W.subs f as)) = true
    rw [subs_map, List.length_map, ← subs_map, h1, ars_subs hf as h2]
    rfl
theorem ars_subs {f : Str → Option W} (hf : ∀ s, (put1 f s).ar = true) : ∀ as : List W, W.ars as = true → W.ars (W.subs f as) = true
  | [], _ => rfl
  | a :: as, h => by
    obtain ⟨h1, h2⟩ := Bool.and_eq_true_iff.mp (show (a.ar && W.ars as) = true from h)
    show ((a.sub f).ar && W.ars (W.subs f as)) = true
    rw [ar_sub hf a h1, ars_subs hf as h2]
    rfl
end
mutual
theorem vin_nil : ∀ z : W, z.vin [] = true → z.vs = []
  | .v s, h => by cases h
  | .n _ as, h => vins_nil as h
theorem vins_nil : ∀ as : List W, W.vins [] as = true → W.vss as = []
  | [], _ => rfl
  | a :: as, h => by
    obtain ⟨h1, h2⟩ := Bool.and_eq_true_iff.mp (show (a.vin [] && W.vins [] as) = true from h)
    show a.vs ++ W.vss as = []
    rw [vin_nil a h1, vins_nil as h2]
    rfl
end
end K28

set_option Elab.async false
set_option linter.all false
set_option maxRecDepth 100000
set_option maxHeartbeats 4000000
/-! _law_order_right: the draws; what compare tells. -/
namespace K28
open PySem PySem.Spec PyProof.Rows L2 Evl LamX
theorem mergeK_app : ∀ {more kvs : List (Key × V)}, ((kvs ++ more).map (·.1)).Nodup → mergeK kvs more = kvs ++ more
  | [], kvs, _ => by show kvs = _; simp
  | p :: r, kvs, h => by
    have hn : p.1 ∉ kvs.map (·.1) := fun z => by
      rw [List.map_append, List.map_cons, List.nodup_append] at h
      exact h.2.2 _ z _ List.mem_cons_self rfl
    show mergeK (putK kvs p.1 p.2) r = _
    rw [putK_new (valV_no hn), mergeK_app (by simpa using h)]
    simp
theorem mergeK_nil {more : List (Key × V)} (h : (more.map (·.1)).Nodup) : mergeK [] more = more := mergeK_app (kvs := []) h
abbrev nOr : List Str := ["_law_stream", "_law_rows", "_law_order", "_law_k", "_law_variables", "_law_one", "_law_other", "_law_due_here", "_law_found", "_law_back", "_law_words", "_law_place", "_law_part", "_law_name"]
theorem sc_or : FnScope nOr ["_law_stream", "_law_rows"] (defScope s__law_order_right) := ⟨rfl, rfl, rfl, by decide +kernel, rfl, by decide +kernel, by decide +kernel⟩
abbrev XO (P : Program) (w : World) (K : PySem.W.Frag) (mg : Str → Option Value) (base : Heap) (f : Addr) (cdv : Value) (A : Around) (outer : List Env) (s : Shared) (H : Hp) : Cx := (cxOf CX0 P w K mg base nOr "_law_order_right" (defScope s__law_order_right) f cdv A outer s H E0).nox
def forBody : Stmt → List Stmt
  | .For _ _ b _ _ => b
  | _ => []
def stO (i : Nat) : Stmt := (defBody s__law_order_right).getD i (.Pass ⟨0, 0, 0, 0⟩)
def inO (i : Nat) : Stmt := (forBody (stO 1)).getD i (.Pass ⟨0, 0, 0, 0⟩)
def SV2 : List Str := ["X", "Y"]
theorem cut_toV (xs : List V) (k : Nat) : cutV xs none (some (k : Nat)) = xs.take k := by
  unfold cutV
  rw [HT.sIx_none]
  have := HT.sIx_nat xs.length xs.length k
  rw [this]
  simp
theorem sv_take (k : Nat) : ([V.str "X", V.str "Y"] : List V).take k = sVs (SV2.take k) := by
  unfold sVs
  rw [List.map_take]
  rfl
theorem sv2_in : ∀ s ∈ SV2, s ∈ SV := by decide +kernel
section
variable {P : Program} {w : World} {K : PySem.W.Frag} {mg : Str → Option Value} {base : Heap} {C f : Addr} {cdv : Value} {A : Around} {outer : List Env} {s : Shared} {HX : Hp}
theorem oi0 (T : T28 P w K mg base) (hr : Room 45 (XO P w K mg base f cdv A outer s HX).A) : ∃ t, PS (XO P w K mg base f cdv A outer s HX) (inO 0) t ∧
    ∀ (D : Ends) (G : Hp) (c1 c2 c3 c4 c5 c6 c7 c8 c9 c10 c11 c12 c13 : Option V) (p q : Addr) (n : Int), Spr G p q n → n + 100 ≤ 90000 →
      (∀ (va : Addr) (J : Hp) (vs : List Str), Spr J p q (n + 1) → But p q G J → Vrs J p q va vs → D.nx [some (.ref p), c1, c2, c3, some (.ref va), c5, c6, c7, c8, c9, c10, c11, c12, c13] J) →
      t D [some (.ref p), c1, c2, c3, c4, c5, c6, c7, c8, c9, c10, c11, c12, c13] G := by
  obtain ⟨fD, dD, GD, bD, kD, mD⟩ := (ok_dr T).ex
  refine ⟨_, ps_set (i := 4) sc_or.nd rfl (by first | exact Or.inl rfl | exact Or.inr rfl) (pe_slice sl_list (pe_lst (pa_cons pe_str (pa_cons pe_str pa_nil))) po_none (po_some (pe_call GD (hr.mono (by decide)) (by rfl) mD kD bD .nil pass0 (pa_cons (pv 0) (pa_cons pe_int pa_nil))))), ?_⟩
  intro D G c1 c2 c3 c4 c5 c6 c7 c8 c9 c10 c11 c12 c13 p q n S hn k
  refine ⟨by show 2 ≤ sizeLine; rw [sizeLine_eq]; omega, fun l hl => ?_⟩
  have x1 : Ex G (upd G l (.lst [V.str "X", V.str "Y"])) := Ex.new hl
  obtain ⟨l1, l2⟩ := S.nep hl
  refine ⟨.ref p, rfl, p, q, n, 3, rfl, S.ext x1, by omega, by decide, by decide, fun rr G2 r0 r1 S2 B2 => ?_⟩
  obtain ⟨j, rfl⟩ : ∃ j : Nat, rr = (j : Int) := ⟨rr.toNat, by omega⟩
  refine ⟨(j : Int), rfl, l, _, rfl, sq_of (B2 _ _ l1 l2 upd_same), fun va hva => ?_⟩
  rw [cut_toV, sv_take]
  have x3 : Ex G2 (upd G2 va (.lst (sVs (SV2.take j)))) := Ex.new hva
  obtain ⟨v1, v2⟩ := S2.nep hva
  exact k va _ (SV2.take j) (S2.ext x3) (((But.of x1).trans B2).trans (But.of x3)) ⟨upd_same, v1, v2, by rw [List.length_take]; show min j 2 ≤ 4; omega, fun s hs => sv2_in s (List.mem_of_mem_take hs)⟩
theorem oi1 (T : T28 P w K mg base) (hr : Room 45 (XO P w K mg base f cdv A outer s HX).A) : ∃ t, PS (XO P w K mg base f cdv A outer s HX) (inO 1) t ∧
    ∀ (D : Ends) (G : Hp) (c1 c2 c3 c5 c6 c7 c8 c9 c10 c11 c12 c13 : Option V) (p q va : Addr) (n : Int) (vs : List Str), Spr G p q n → n + 600 ≤ 90000 → Vrs G p q va vs →
      (∀ (u v : V) (J : Hp) (n' : Int) (y z : W), WV J u y → WV J v z → Tw vs y → Tw vs z → Spr J p q n' → n' ≤ n + 600 → But p q G J → D.nx [some (.ref p), c1, c2, c3, some (.ref va), some u, some v, c7, c8, c9, c10, c11, c12, c13] J) →
      t D [some (.ref p), c1, c2, c3, some (.ref va), c5, c6, c7, c8, c9, c10, c11, c12, c13] G := by
  obtain ⟨fT, dT, GT, bT, kT, mT⟩ := (ok_two T).ex
  refine ⟨_, ps_asg (pe_call GT (hr.mono (by decide)) (by rfl) mT kT bT .nil pass0 (pa_cons (pv 0) (pa_cons (pv 4) pa_nil))) (pg_tup rfl (pgs_cons (pg_name (i := 5) sc_or.nd rfl (by first | exact Or.inl rfl | exact Or.inr rfl)) (pgs_cons (pg_name (i := 6) sc_or.nd rfl (by first | exact Or.inl rfl | exact Or.inr rfl)) pgs_nil))), ?_⟩
  intro D G c1 c2 c3 c5 c6 c7 c8 c9 c10 c11 c12 c13 p q va n vs S hn hv k
  exact ⟨.ref p, rfl, .ref va, rfl, p, q, va, n, vs, rfl, S, hn, hv, fun t u v J n' y z ht hu hv2 ty tz SJ hn' BJ => ⟨t, _, rfl, st_of ht, rfl, _, _, rfl, _, _, rfl, rfl, k u v J n' y z hu hv2 ty tz SJ hn' BJ⟩⟩
theorem oi2 (T : T28 P w K mg base) (hr : Room 45 (XO P w K mg base f cdv A outer s HX).A) : ∃ t, PS (XO P w K mg base f cdv A outer s HX) (inO 2) t ∧
    ∀ (D : Ends) (G : Hp) (c2 c3 c4 c7 c8 c9 c10 c11 c12 c13 : Option V) (p q a o dr : Addr) (xs : List V) (rs : List (Str × Int)) (u v : V) (y z : W) (vs : List Str), Sg C G p q a o dr xs rs → Al rs → WV G u y → WV G v z → Tw vs y → Tw vs z →
      (∀ J, Ex G J → D.nx [some (.ref p), some (.ref a), c2, c3, c4, some u, some v, some (.str (cmpS rs y z)), c8, c9, c10, c11, c12, c13] J) →
      t D [some (.ref p), some (.ref a), c2, c3, c4, some u, some v, c7, c8, c9, c10, c11, c12, c13] G := by
  obtain ⟨fD, dD, GD, bD, kD, mD⟩ := (ok_due T).ex
  refine ⟨_, ps_set (i := 7) sc_or.nd rfl (by first | exact Or.inl rfl | exact Or.inr rfl) (pe_call GD (hr.mono (by decide)) (by rfl) mD kD bD .nil pass0 (pa_cons (pv 1) (pa_cons (pv 5) (pa_cons (pv 6) pa_nil)))), ?_⟩
  intro D G c2 c3 c4 c7 c8 c9 c10 c11 c12 c13 p q a o dr xs rs u v y z vs g Al hu hv ty tz k
  exact ⟨.ref a, rfl, u, rfl, v, rfl, a, xs, rs, u, v, y, z, rfl, g.a1, g.a2, Al.ok, hu, hv, ty.dz.ww Al.all ty.ar, tz.dz.ww Al.all tz.ar, fun J e => k J e⟩
theorem oi3 (T : TO P w K mg base C) (hr : Room 45 (XO P w K mg base f cdv A outer s HX).A) : ∃ t, PS (XO P w K mg base f cdv A outer s HX) (inO 3) t ∧
    ∀ (D : Ends) (G : Hp) (c3 c4 c7 c8 c9 c10 c11 c12 c13 : Option V) (p q a o dr : Addr) (n : Int) (xs : List V) (rs : List (Str × Int)) (u v : V) (y z : W) (vs : List Str), Sg C G p q a o dr xs rs → Al rs → WV G u y → WV G v z → Tw vs y → Tw vs z → Spr G p q n → n + 200 ≤ 90000 →
      (∀ (J : Hp) (lf : Addr) (n' : Int), But p q G J → Spr J p q n' → n' ≤ n + 100 → lf ≠ p → lf ≠ q → J lf = some (.lst [.str (cmpS rs y z), .str (cmpS rs z y)]) → D.nx [some (.ref p), some (.ref a), some (.ref o), c3, c4, some u, some v, c7, some (.ref lf), c9, c10, c11, c12, c13] J) →
      t D [some (.ref p), some (.ref a), some (.ref o), c3, c4, some u, some v, c7, c8, c9, c10, c11, c12, c13] G := by
  obtain ⟨fL, dL, GL, bL, kL, mL⟩ := (ok_d_loose T.toT28 13).ex
  obtain ⟨fC, dC, GC, bC, kC, mC⟩ := (ok_compare T).ex
  refine ⟨_, ps_set (i := 8) sc_or.nd rfl (by first | exact Or.inl rfl | exact Or.inr rfl) (pe_lst (pa_cons (pe_callS (sp := spCmp K C) GC (hr.mono (by decide)) (by rfl) mC kC bC (fun σ => passAt L2.takes0 σ) (pa_cons (pv 2) (pa_cons (pe_call GL (hr.mono (by decide)) (by rfl) mL kL bL .nil pass0 (pa_cons (pv 0) (pa_cons (pv 5) pa_nil))) (pa_cons (pv 6) pa_nil))))
    (pa_cons (pe_callS (sp := spCmp K C) GC (hr.mono (by decide)) (by rfl) mC kC bC (fun σ => passAt L2.takes0 σ) (pa_cons (pv 2) (pa_cons (pv 6) (pa_cons (pv 5) pa_nil)))) pa_nil))), ?_⟩
  intro D G c3 c4 c7 c8 c9 c10 c11 c12 c13 p q a o dr n xs rs u v y z vs g Al hu hv ty tz S hn k
  have ysz := W.sz_nd y
  have ynd := ty.nd
  have ydp := ty.dp
  refine ⟨.ref o, rfl, .ref p, rfl, u, rfl, p, q, u, n, y, rfl, S, by omega, hu, by omega, by decide, by omega, fun r J n' oo SJ hn' BJ hov hst => ?_⟩
  have gJ := g.but BJ S
  have tx := S.tx BJ
  have huJ := hu.tx tx
  have hvJ := hv.tx tx
  have hl : Lw J r y := ty.dz.lw (hov.ext hx_ex) hst
  have fy := ar_fu Al.all y ty.ar
  have fz := ar_fu Al.all z tz.ar
  refine ⟨v, rfl, _, _, _, rfl, .inr ⟨o, dr, rs, rfl, gJ.od, Al.ok, .inr ⟨y, hl, .inr ⟨fy, .inr ⟨z, tz.dz.lw hvJ (strip_o z), .inr ⟨fz, fun J2 e2 => ?_⟩⟩⟩⟩⟩⟩
  refine ⟨.ref o, rfl, v, rfl, u, rfl, _, _, _, rfl, .inr ⟨o, dr, rs, rfl, gJ.od.ext e2, Al.ok, .inr ⟨z, tz.dz.lw (hvJ.ext e2) (strip_o z), .inr ⟨fz, .inr ⟨y, ty.dz.lw (huJ.ext e2) (strip_o y), .inr ⟨fy, fun J3 e3 => ?_⟩⟩⟩⟩⟩⟩
  refine ⟨by show 2 ≤ sizeLine; rw [sizeLine_eq]; omega, fun lf nlf => ?_⟩
  have eA := e2.trans e3
  obtain ⟨f1, f2⟩ := (SJ.ext eA).nep nlf
  have x4 : Ex J3 (upd J3 lf (.lst [.str (cmpS rs y z), .str (cmpS rs z y)])) := Ex.new nlf
  exact k _ lf n' (BJ.trans (But.of (eA.trans x4))) (SJ.ext (eA.trans x4)) (by omega) f1 f2 upd_same
def bkvs : List (Key × V) := [(Sum.inr "above", .str "below"), (Sum.inr "below", .str "above")]
theorem bk_nd : (bkvs.map (·.1)).Nodup := by decide +kernel
theorem bk_val (d : Str) : (valV bkvs (Sum.inr d : Key)).getD (.str d) = .str (backS d) := by
  unfold bkvs backS
  rw [valV_cons]
  simp only [key_r]
  by_cases h : d = "above"
  · rw [if_pos h, if_pos h.symm]; rfl
  · rw [if_neg h, if_neg fun q => h q.symm, valV_cons]
    simp only [key_r]
    by_cases h2 : d = "below"
    · rw [if_pos h2, if_pos h2.symm]; rfl
    · rw [if_neg h2, if_neg fun q => h2 q.symm]
      rfl
theorem oi4 (T : T28 P w K mg base) (hr : Room 45 (XO P w K mg base f cdv A outer s HX).A) : ∃ t, PS (XO P w K mg base f cdv A outer s HX) (inO 4) t ∧
    ∀ (D : Ends) (G : Hp) (c0 c1 c2 c3 c4 c5 c6 c8 c9 c10 c11 c12 c13 : Option V) (d : Str),
      (∀ J, Ex G J → D.nx [c0, c1, c2, c3, c4, c5, c6, some (.str d), c8, some (.str (backS d)), c10, c11, c12, c13] J) →
      t D [c0, c1, c2, c3, c4, c5, c6, some (.str d), c8, c9, c10, c11, c12, c13] G := by
  refine ⟨_, ps_set (i := 9) sc_or.nd rfl (by first | exact Or.inl rfl | exact Or.inr rfl) (pe_dget2 (hu_of hr) (pe_disp (pps_cons pe_str pe_str (pps_cons pe_str pe_str pps_nil)) (by rfl) (by rfl) (fun z => by cases z) (by decide)) (pv 7) (pv 7) ⟨rfl, rfl, rfl, rfl⟩), ?_⟩
  intro D G c0 c1 c2 c3 c4 c5 c6 c8 c9 c10 c11 c12 c13 d k pd npd
  refine ⟨upd_same, bkvs, rfl, by show 2 ≤ 15; decide, ?_⟩
  rw [mergeK_nil bk_nd]
  have hp : (upd (upd G pd (.dK [])) pd (.dK bkvs)) pd = some (.dK bkvs) := upd_same
  have eP : Ex G (upd (upd G pd (.dK [])) pd (.dK bkvs)) := Ex.mut (Ex.new npd) npd
  refine ⟨pd, rfl, .inl ⟨bkvs, .inl hp⟩, .str d, rfl, .str d, rfl, valV bkvs (Sum.inr d : Key), .inl ⟨bkvs, Sum.inr d, .inl hp, rfl, rfl⟩, ?_⟩
  rw [bk_val]
  exact k _ eP
end
end K28

set_option Elab.async false
set_option linter.all false
set_option maxRecDepth 100000
set_option maxHeartbeats 4000000
/-! _law_order_right: what is told, compared; words put. -/
namespace K28
open PySem PySem.Spec PyProof.Rows L2 Evl LamX
mutual
theorem W.dp_sub {f : Str → Option W} {m : Nat} (h : ∀ s z, f s = some z → z.dp ≤ m) : ∀ z : W, (z.sub f).dp ≤ z.dp + m
  | .v s => by
    show ((f s).getD (.v s)).dp ≤ _
    cases e : f s with
    | none => exact Nat.le_add_right _ _
    | some x =>
      have := h s x e
      show x.dp ≤ _
      omega
  | .n s as => by
    have := W.dps_sub h as
    show W.dps (W.subs f as) + 1 ≤ W.dps as + 1 + m
    omega
theorem W.dps_sub {f : Str → Option W} {m : Nat} (h : ∀ s z, f s = some z → z.dp ≤ m) : ∀ zs : List W, W.dps (W.subs f zs) ≤ W.dps zs + m
  | [] => Nat.zero_le _
  | x :: xs => by
    have h1 := W.dp_sub h x
    have h2 := W.dps_sub h xs
    show max (x.sub f).dp (W.dps (W.subs f xs)) ≤ max x.dp (W.dps xs) + m
    omega
end
mutual
theorem W.ss_sub {f : Str → Option W} (h : ∀ s z, f s = some z → z.o.ss = true) : ∀ z : W, z.o.ss = true → (z.sub f).o.ss = true
  | .v s, k => by
    show (((f s).getD (.v s)).o).ss = true
    cases e : f s with
    | none => exact k
    | some x => exact h s x e
  | .n s as, k => by
    have k : (SS.contains s && O.sss (W.os as)) = true := k
    show (SS.contains s && O.sss (W.os (W.subs f as))) = true
    rw [Bool.and_eq_true] at k ⊢
    exact ⟨k.1, W.sss_sub h as k.2⟩
theorem W.sss_sub {f : Str → Option W} (h : ∀ s z, f s = some z → z.o.ss = true) : ∀ zs : List W, O.sss (W.os zs) = true → O.sss (W.os (W.subs f zs)) = true
  | [], _ => rfl
  | x :: xs, k => by
    have k : (x.o.ss && O.sss (W.os xs)) = true := k
    show ((x.sub f).o.ss && O.sss (W.os (W.subs f xs))) = true
    rw [Bool.and_eq_true] at k ⊢
    exact ⟨W.ss_sub h x k.1, W.sss_sub h xs k.2⟩
end
mutual
theorem W.nd_sub {f : Str → Option W} {m : Nat} (hm : 1 ≤ m) (h : ∀ s z, f s = some z → z.nd ≤ m) : ∀ z : W, (z.sub f).nd ≤ z.nd * m
  | .v s => by
    show ((f s).getD (.v s)).nd ≤ 1 * m
    cases e : f s with
    | none => show 1 ≤ 1 * m; omega
    | some x => have := h s x e; show x.nd ≤ 1 * m; omega
  | .n s as => by
    have := W.nds_sub hm h as
    show W.nds (W.subs f as) + 1 ≤ (W.nds as + 1) * m
    rw [Nat.add_mul]
    omega
theorem W.nds_sub {f : Str → Option W} {m : Nat} (hm : 1 ≤ m) (h : ∀ s z, f s = some z → z.nd ≤ m) : ∀ zs : List W, W.nds (W.subs f zs) ≤ W.nds zs * m
  | [] => Nat.zero_le _
  | x :: xs => by
    have h1 := W.nd_sub hm h x
    have h2 := W.nds_sub hm h xs
    show (x.sub f).nd + W.nds (W.subs f xs) ≤ (x.nd + W.nds xs) * m
    rw [Nat.add_mul]
    omega
end
theorem subs_len (f : Str → Option W) (as : List W) : (W.os (W.subs f as)).length = (W.os as).length := by
  rw [subs_map, W.os_map, W.os_map, List.length_map, List.length_map, List.length_map]
mutual
theorem W.fit_sub {f : Str → Option W} (h : ∀ s z, f s = some z → z.o.fit = true) : ∀ z : W, z.o.fit = true → (z.sub f).o.fit = true
  | .v s, k => by
    show (((f s).getD (.v s)).o).fit = true
    cases e : f s with
    | none => exact k
    | some x => exact h s x e
  | .n s as, k => by
    have k : (headB (.str s) (W.os as).length && O.fits (W.os as)) = true := k
    show (headB (.str s) (W.os (W.subs f as)).length && O.fits (W.os (W.subs f as))) = true
    rw [Bool.and_eq_true] at k ⊢
    rw [subs_len]
    exact ⟨k.1, W.fits_sub h as k.2⟩
theorem W.fits_sub {f : Str → Option W} (h : ∀ s z, f s = some z → z.o.fit = true) : ∀ zs : List W, O.fits (W.os zs) = true → O.fits (W.os (W.subs f zs)) = true
  | [], _ => rfl
  | x :: xs, k => by
    have k : (x.o.fit && O.fits (W.os xs)) = true := k
    show ((x.sub f).o.fit && O.fits (W.os (W.subs f xs))) = true
    rw [Bool.and_eq_true] at k ⊢
    exact ⟨W.fit_sub h x k.1, W.fits_sub h xs k.2⟩
end
theorem W.fitW_sub {f : Str → Option W} (h : ∀ s z, f s = some z → z.o.fit = true) (z : W) (k : z.o.fitW = true) : (z.sub f).o.fitW = true := by
  unfold O.fitW at k ⊢
  rw [Bool.or_eq_true] at k ⊢
  rcases k with k | k
  · exact .inl (W.fit_sub h z k)
  · cases z with
    | v s => cases k
    | n s as =>
      refine .inr ?_
      have k : ((eqL (.str s :: W.os as) || headB (.str s) (W.os as).length) && O.fits (W.os as)) = true := k
      show ((eqL (.str s :: W.os (W.subs f as)) || headB (.str s) (W.os (W.subs f as)).length) && O.fits (W.os (W.subs f as))) = true
      rw [eqL_len s (subs_len f as), subs_len]
      rw [Bool.and_eq_true] at k ⊢
      exact ⟨k.1, W.fits_sub h as k.2⟩
theorem sv_ok : ∀ s ∈ SV, PyData.strOk s = true := by decide +kernel
theorem shaped_strs {xs : List Str} (h : ∀ x ∈ xs, PyData.strOk x = true) : SeqAt.shaped (.list (xs.map PyData.str)) = true := by
  show (PyData.canLay0 (.list (xs.map PyData.str)) && decide (PyData.depth (.list (xs.map PyData.str)) ≤ 64)) = true
  have h1 : PyData.canLayAll0 (xs.map PyData.str) = true := by
    induction xs with
    | nil => simp [PyData.canLayAll0]
    | cons x xs ih => simp [PyData.canLayAll0, PyData.canLay0, h x (by simp), ih fun y hy => h y (by simp [hy])]
  have h2 : PyData.depthAll (xs.map PyData.str) ≤ 1 := by
    clear h h1
    induction xs with
    | nil => simp [PyData.depthAll]
    | cons x xs ih => simp only [List.map_cons, PyData.depthAll, PyData.depth]; omega
  rw [Bool.and_eq_true]
  refine ⟨by simp only [PyData.canLay0]; exact h1, decide_eq_true ?_⟩
  simp only [PyData.depth]
  omega
theorem eqv_nil (vs : List Str) : PyData.eqv (.list (vs.map PyData.str)) (.list []) = vs.isEmpty := by
  cases vs <;> simp [PyData.eqv, PyData.eqvAll]
section
variable {P : Program} {w : World} {K : PySem.W.Frag} {mg : Str → Option Value} {base : Heap} {C f : Addr} {cdv : Value} {A : Around} {outer : List Env} {s : Shared} {HX : Hp}
theorem oi5 (T : T28 P w K mg base) (hr : Room 45 (XO P w K mg base f cdv A outer s HX).A) : ∃ t, PS (XO P w K mg base f cdv A outer s HX) (inO 5) t ∧
    ∀ (D : Ends) (G : Hp) (c0 c1 c2 c3 c5 c6 c10 c11 c12 c13 : Option V) (p q va lf : Addr) (vs : List Str) (d : Str), Vrs G p q va vs → G lf = some (.lst [.str d, .str (backS d)]) → (vs = [] → d ≠ "none") →
      (∀ J, Ex G J → D.nx [c0, c1, c2, c3, some (.ref va), c5, c6, some (.str d), some (.ref lf), some (.str (backS d)), c10, c11, c12, c13] J) →
      t D [c0, c1, c2, c3, some (.ref va), c5, c6, some (.str d), some (.ref lf), some (.str (backS d)), c10, c11, c12, c13] G := by
  obtain ⟨fS, dS, GS, bS, kS, mS⟩ := (ok_same T 3).ex
  refine ⟨_, ps_if (PW.pt (pw_or (pt_not (pt_val (pe_call GS (hr.mono (by decide)) (by rfl) mS kS bS .nil pass0 (pa_cons (pv 8) (pa_cons (pe_lst (pa_cons (pv 7) (pa_cons (pv 9) pa_nil))) pa_nil)))))
    (pw_or1 (PW.pt (pw_and (pt_cmpR (op_eqD hr.units) (pv 4) (pe_lst pa_nil) (nomark _)) (pw_and1 (pt_cmpR op_eq (pv 7) pe_str (nomark _)))))))) (pss_one ps_never) pss_nil, ?_⟩
  intro D G c0 c1 c2 c3 c5 c6 c10 c11 c12 c13 p q va lf vs d hv hf hg k
  refine s_when (b := false) (et_or (a := false) (b := false) (et_not (a := true) (et_B fun H1 e1 Q q => ⟨.ref lf, rfl, _, rfl, _, rfl, by show 2 ≤ sizeLine; rw [sizeLine_eq]; omega, fun l nl => ?_⟩)) fun _ => et_is (et_and (a := vs.isEmpty) (b := decide (V.str d = V.str "none")) (fun H1 e1 Q q => ⟨.ref va, rfl, Nat.zero_le _, fun l nl => ?_⟩) fun _ => et_test (ev_op (ev_var (i := 7) rfl) ev_c (rv_eq rfl))) ?_) (fun z => nomatch z) fun _ J e => k J e
  · have x1 : Ex H1 (upd H1 l (.lst [.str d, .str (backS d)])) := Ex.new nl
    exact ⟨.ref lf, .ref l, .lst [.str d, .str (backS d)], rfl, ⟨lf, _, rfl, x1 _ _ (e1 _ _ hf), .cons rfl (.cons rfl .nil)⟩, ⟨l, _, rfl, upd_same, .cons rfl (.cons rfl .nil)⟩, by show 1 < 3; decide, by decide, by show 3 ≤ 40000; decide, fun J e => q J (x1.trans e)⟩
  · have x1 : Ex H1 (upd H1 l (.lst [])) := Ex.new nl
    refine ⟨.list (vs.map PyData.str), .list [], .lst (sq_of (x1 _ _ (e1 _ _ hv.hv))) (dp_strs K _ vs), .lst (sq_of upd_same) .nil, shaped_strs fun x hx => sv_ok x (hv.hS x hx), by decide +kernel, ?_⟩
    rw [eqv_nil]
    exact ⟨_, rfl, q _ x1⟩
  · cases vs with
    | nil =>
      have := hg rfl
      rw [decide_eq_false fun z => this (V.str.inj z)]
      rfl
    | cons a r => rfl
/-- drawn words for X and Y -/
structure Pu (G : Hp) (d : Addr) (z1 z2 : W) : Prop where
  sv : SubV G d [("X", z1), ("Y", z2)]
  d1 : Dw 1 z1
  d2 : Dw 1 z2
theorem Pu.lk {G : Hp} {d : Addr} {z1 z2 : W} (h : Pu G d z1 z2) {s : Str} {z : W} (e : lk [("X", z1), ("Y", z2)] s = some z) : Dw 1 z := by
  unfold K28.lk at e
  obtain ⟨p, hp, rfl⟩ := Option.map_eq_some_iff.mp e
  have hm := List.mem_of_find?_eq_some hp
  simp only [List.mem_cons, List.not_mem_nil, or_false] at hm
  rcases hm with rfl | rfl
  · exact h.d1
  · exact h.d2
theorem Pu.ok {G : Hp} {d : Addr} {z1 z2 : W} (h : Pu G d z1 z2) : SbOk [("X", z1), ("Y", z2)] := by
  have s1 := W.sz_nd z1
  have s2 := W.sz_nd z2
  have n1 := h.d1.nd
  have n2 := h.d2.nd
  rw [nN1] at n1 n2
  refine ⟨by show 2 < 64; decide, fun p hp => ?_, fun p hp => ?_⟩
  · simp only [List.mem_cons, List.not_mem_nil, or_false] at hp
    rcases hp with rfl | rfl
    · show SS.contains "X" = true ∧ varB "X" = true
      decide +kernel
    · show SS.contains "Y" = true ∧ varB "Y" = true
      decide +kernel
  · simp only [List.mem_cons, List.not_mem_nil, or_false] at hp
    rcases hp with rfl | rfl
    · exact ⟨h.d1.fit, h.d1.ss, by show z1.sz ≤ 8000; omega⟩
    · exact ⟨h.d2.fit, h.d2.ss, by show z2.sz ≤ 8000; omega⟩
theorem Pu.put1 {G : Hp} {d : Addr} {z1 z2 : W} (h : Pu G d z1 z2) (s : Str) : (put1 (K28.lk [("X", z1), ("Y", z2)]) s).ar = true := by
  unfold K28.put1
  cases e : K28.lk [("X", z1), ("Y", z2)] s with
  | none => rfl
  | some z => exact (h.lk e).ar
theorem Pu.tw {G : Hp} {d : Addr} {z1 z2 : W} (h : Pu G d z1 z2) {vs : List Str} {y : W} (ty : Tw vs y) : Dz (y.sub (K28.lk [("X", z1), ("Y", z2)])) ∧ (y.sub (K28.lk [("X", z1), ("Y", z2)])).ar = true := by
  refine ⟨⟨W.fitW_sub (fun s z e => (h.lk e).fit) y ty.fitW, W.ss_sub (fun s z e => (h.lk e).ss) y ty.ss, ?_, ?_⟩, ar_sub h.put1 y ty.ar⟩
  · have h1 := W.nd_sub (f := K28.lk [("X", z1), ("Y", z2)]) (m := 4) (by decide) (fun s z e => by have := (h.lk e).nd; rw [nN1] at this; exact this) y
    have := ty.nd
    omega
  · have h1 := W.dp_sub (f := K28.lk [("X", z1), ("Y", z2)]) (m := 2) (fun s z e => by have := (h.lk e).dp; omega) y
    have := ty.dp
    omega
theorem Pu.one {G : Hp} {d : Addr} {z1 z2 : W} (h : Pu G d z1 z2) {rs : List (Str × Int)} (A : Al rs) (s : Str) : 1 ≤ wt rs (K28.put1 (K28.lk [("X", z1), ("Y", z2)]) s) := wt_one A.ok _ (ar_fu A.all _ (h.put1 s))
theorem Pu.ext {G J : Hp} {d : Addr} {z1 z2 : W} (h : Pu G d z1 z2) (e : Ex G J) : Pu J d z1 z2 := ⟨h.sv.ext e, h.d1, h.d2⟩
theorem oi7 (T : TO P w K mg base C) (hr : Room 45 (XO P w K mg base f cdv A outer s HX).A) : ∃ t, PS (XO P w K mg base f cdv A outer s HX) (inO 7) t ∧
    ∀ (D : Ends) (G : Hp) (c0 c1 c3 c4 c8 c9 c11 c12 c13 : Option V) (p q a o dr d : Addr) (xs : List V) (rs : List (Str × Int)) (u v : V) (y z z1 z2 : W) (vs : List Str), Sg C G p q a o dr xs rs → Al rs → WV G u y → WV G v z → Tw vs y → Tw vs z → Pu G d z1 z2 →
      (∀ J, Ex G J → D.nx [c0, c1, some (.ref o), c3, c4, some u, some v, some (.str (cmpS rs y z)), c8, c9, some (.ref d), c11, c12, c13] J) →
      t D [c0, c1, some (.ref o), c3, c4, some u, some v, some (.str (cmpS rs y z)), c8, c9, some (.ref d), c11, c12, c13] G := by
  obtain ⟨fC, dC, GC, bC, kC, mC⟩ := (ok_compare T).ex
  obtain ⟨fP, dP, GP, bP, kP, mP⟩ := (ok_put T.toT28).ex
  refine ⟨_, ps_if (PW.pt (pw_and (pt_cmpR op_ne (pv 7) pe_str (nomark _)) (pw_and1 (pt_cmpR op_ne (pe_callS (sp := spCmp K C) GC (hr.mono (by decide)) (by rfl) mC kC bC (fun σ => passAt L2.takes0 σ) (pa_cons (pv 2)
      (pa_cons (pe_callS (sp := spPut K) GP (hr.mono (by decide)) (by rfl) mP kP bP (fun σ => passAt L2.takes0 σ) (pa_cons (pv 5) (pa_cons (pv 10) pa_nil))) (pa_cons (pe_callS (sp := spPut K) GP (hr.mono (by decide)) (by rfl) mP kP bP (fun σ => passAt L2.takes0 σ) (pa_cons (pv 6) (pa_cons (pv 10) pa_nil))) pa_nil)))) (pv 7) (nomark _))))) (pss_one ps_never) pss_nil, ?_⟩
  intro D G c0 c1 c3 c4 c8 c9 c11 c12 c13 p q a o dr d xs rs u v y z z1 z2 vs g A hu hv ty tz pu k
  refine s_when (b := false) (et_is (et_and (a := !decide (V.str (cmpS rs y z) = V.str "none")) (b := false) (et_test (ev_op (ev_var (i := 7) rfl) ev_c (rv_ne rfl))) fun hb => ?_) (Bool.and_false _)) (fun z => nomatch z) fun _ J e => k J e
  have hnn : cmpS rs y z ≠ "none" := fun q => by rw [q] at hb; simp at hb
  obtain ⟨sy1, sy2⟩ := pu.tw ty
  obtain ⟨sz1, sz2⟩ := pu.tw tz
  have e1 := cmp_sub (pu.one A) sy2 sz2 hnn
  refine et_is (et_test (ev_op (x := .str (cmpS rs y z)) (fun H1 e1' Q q => ?_) (ev_var (i := 7) rfl) (rv_ne rfl))) (by simp)
  refine ⟨.ref o, rfl, u, rfl, .ref d, rfl, u, .ref d, rfl, .inr ⟨y, ty.dz.lw (hu.ext e1') (strip_o y), .inr ⟨d, _, rfl, (pu.ext e1').sv, pu.ok, fun r1 J1 g1 hw1 => ?_⟩⟩⟩
  have e01 := e1'.trans g1
  refine ⟨v, rfl, .ref d, rfl, v, .ref d, rfl, .inr ⟨z, tz.dz.lw (hv.ext e01) (strip_o z), .inr ⟨d, _, rfl, (pu.ext e01).sv, pu.ok, fun r2 J2 g2 hw2 => ?_⟩⟩⟩
  refine ⟨.ref o, r1, r2, rfl, .inr ⟨o, dr, rs, rfl, g.od.ext (e01.trans g2), A.ok, .inr ⟨_, sy1.lw (hw1.ext g2) (strip_o _), .inr ⟨ar_fu A.all _ sy2, .inr ⟨_, sz1.lw hw2 (strip_o _), .inr ⟨ar_fu A.all _ sz2, fun J3 g3 => ?_⟩⟩⟩⟩⟩⟩
  rw [e1]
  exact q J3 ((g1.trans g2).trans g3)
end
end K28

set_option Elab.async false
set_option linter.all false
set_option maxRecDepth 100000
set_option maxHeartbeats 4000000
/-! _law_order_right: the words that are put; in a word; parts. -/
namespace K28
open PySem PySem.Spec PyProof.Rows L2 Evl LamX
/-- a new dict of pairs -/
theorem trips {K : PySem.W.Frag} {H : Hp} : ∀ (L : List (Addr × V × Str × W)), (∀ x ∈ L, H x.1 = some (.tup [.str x.2.2.1, x.2.1])) → Paired (fun p (kv : Key × V) => SqT K H p [kV kv.1, kv.2]) (L.map (·.1)) (L.map fun x => ((Sum.inr x.2.2.1 : Key), x.2.1))
  | [], _ => .nil
  | x :: L, h => .cons (st_of (h x (by simp))) (trips L fun y hy => h y (by simp [hy]))
section
variable {P : Program} {w : World} {K : PySem.W.Frag} {mg : Str → Option Value} {base : Heap} {C f : Addr} {cdv : Value} {A : Around} {outer : List Env} {s : Shared} {HX : Hp}
theorem oi6 (T : T28 P w K mg base) (hr : Room 45 (XO P w K mg base f cdv A outer s HX).A) : ∃ t, PS (XO P w K mg base f cdv A outer s HX) (inO 6) t ∧
    ∀ (D : Ends) (G : Hp) (c1 c2 c3 c4 c5 c6 c7 c8 c9 c10 c11 c12 c13 : Option V) (p q : Addr) (n : Int), Spr G p q n → n + 100 ≤ 90000 →
      (∀ (J : Hp) (d : Addr) (n' : Int) (z1 z2 : W), But p q G J → Spr J p q n' → n' ≤ n + 20 → Pu J d z1 z2 → D.nx [some (.ref p), c1, c2, c3, c4, c5, c6, c7, c8, c9, some (.ref d), c11, c12, c13] J) →
      t D [some (.ref p), c1, c2, c3, c4, c5, c6, c7, c8, c9, c10, c11, c12, c13] G := by
  obtain ⟨fW, dW, GW, bW, kW, mW⟩ := (ok_d_word T 1).ex
  refine ⟨_, ps_set (i := 10) sc_or.nd rfl (by first | exact Or.inl rfl | exact Or.inr rfl) (pe_callTy (call_dictP rfl) (by rfl) T.dict (by decide +kernel) (pa_cons
    (pe_lc (own := [("_law_name", 13)]) (g := gName 13) (tt := tYes) (te := tTup (tCons (tVar 13) (tCons (tCall (spDw 1) [] E0 (tCons (tVar 0) (tCons (tC (.int 1)) (tCons (tLst (tCons (tC (.str "X")) (tCons (tC (.str "Z")) tNil))) tNil)))) tNil))) rfl sc_or.nd (pi_list (pe_lst (pa_cons pe_str (pa_cons pe_str pa_nil)))) (blkOk_by (N := nOr) (sc := defScope s__law_order_right) (by decide +kernel))
      (fun _ _ _ _ _ => pg_name (i := 13) sc_or.nd rfl (Or.inl rfl)) (fun _ _ _ _ _ => pts_nil) (fun _ _ _ _ _ => pe_tup (pa_cons (pv 13) (pa_cons (pe_call GW (hr.mono (by decide)) (by rfl) mW kW bW .nil pass0 (pa_cons (pv 0) (pa_cons pe_int (pa_cons (pe_lst (pa_cons pe_str (pa_cons pe_str pa_nil))) pa_nil)))) pa_nil)))) pa_nil)), ?_⟩
  intro D G c1 c2 c3 c4 c5 c6 c7 c8 c9 c10 c11 c12 c13 p q n S hn k
  refine ⟨by show 2 ≤ sizeLine; rw [sizeLine_eq]; omega, fun l nl => ?_⟩
  have x1 : Ex G (upd G l (.lst (SV2.map V.str))) := Ex.new nl
  obtain ⟨l1, l2⟩ := S.nep nl
  have hl : (upd G l (.lst (SV2.map V.str))) l = some (.lst (SV2.map V.str)) := upd_same
  refine ⟨l, rfl, ⟨_, sq_of hl⟩, fun Dl hD => ?_⟩
  have hD' : (upd G l (.lst (SV2.map V.str))) Dl = none := hD
  have S1 := S.ext x1
  obtain ⟨d1, d2⟩ := S1.nep hD
  have Dl' : Dl ≠ l := (ne_of_none hl hD).symm
  have x2 : Ex (upd G l (.lst (SV2.map V.str))) (upd (upd G l (.lst (SV2.map V.str))) Dl (.lst [])) := Ex.new hD
  refine lc_it (walk_list (xs := SV2.map V.str)) (fun i J => ∃ (L : List (Addr × V × Str × W)) (n' : Int), Spr J p q n' ∧ n' ≤ n + 10 * (i : Nat) ∧ J l = some (.lst (SV2.map V.str)) ∧ J Dl = some (.lst (L.map fun x => V.ref x.1)) ∧ L.length = i ∧ L.map (fun x => x.2.2.1) = SV2.take i ∧ (∀ x ∈ L, J x.1 = some (.tup [.str x.2.2.1, x.2.1]) ∧ WV J x.2.1 x.2.2.2 ∧ Dw 1 x.2.2.2) ∧ But p q G J) ⟨[], n, S1.ext x2, by omega, by rw [upd_ne Dl'.symm]; exact hl, upd_same, rfl, rfl, (fun x hx => nomatch hx), But.of (x1.trans x2)⟩ (fun i J _ ⟨_, _, _, _, h, _⟩ => sq_of h) ?_ ?_
  · rintro i x J J' hi ⟨L, n', SJ, hnJ, hlJ, hJ, hal, hnm, hL, BJ⟩ ⟨rfl, hx⟩
    have hx : (SV2.map V.str)[i]? = some x := hx
    rw [List.getElem?_map] at hx
    obtain ⟨sn, hsn, rfl⟩ := Option.map_eq_some_iff.mp hx
    refine ⟨rfl, ?_⟩
    unfold tYes
    dsimp only
    rw [if_pos rfl]
    have hil : i < 2 := (List.getElem?_eq_some_iff.mp hsn).1
    refine ⟨_, rfl, .ref p, rfl, by show 2 ≤ sizeLine; rw [sizeLine_eq]; omega, fun vl nvl => ?_⟩
    have y1 : Ex J' (upd J' vl (.lst (sVs ["X", "Z"]))) := Ex.new nvl
    obtain ⟨v1, v2⟩ := SJ.nep nvl
    refine ⟨p, q, vl, n', ["X", "Z"], rfl, SJ.ext y1, by rw [kk1]; omega, upd_same, v1, v2, by decide, by decide +kernel, fun u J2 n2 z S2 hn2 B2 hu dz _ => ?_⟩
    rw [kk1] at hn2
    have B2' := (But.of (p := p) (q := q) y1).trans B2
    refine ⟨by show 2 ≤ sizeLine; rw [sizeLine_eq]; omega, fun t ht => ?_⟩
    have y3 : Ex J2 (upd J2 t (.tup [.str sn, u])) := Ex.new ht
    have hJ2 := y3 _ _ (B2' _ _ d1 d2 hJ)
    have hl2 := y3 _ _ (B2' _ _ l1 l2 hlJ)
    have tl := Tx.lst (o := .lst (L.map (fun x => V.ref x.1) ++ [.ref t])) hJ2
    have txA := ((SJ.tx B2').trans (Tx.of y3)).trans tl
    refine ⟨L.map fun x => V.ref x.1, hJ2, by rw [List.length_map]; exact sz_lt (by omega), L ++ [(t, u, sn, z)], n2, (S2.ext y3).keep (fun o h => by rw [upd_ne d1.symm]; exact h) (fun o h => by rw [upd_ne d2.symm]; exact h), by omega, by rw [upd_ne Dl'.symm]; exact hl2, ?_, by simp [hal], ?_, ?_, ?_⟩
    · rw [upd_same, List.map_append]
      rfl
    · rw [List.map_append, hnm, take_snoc hsn]
      rfl
    · intro y hy
      rcases List.mem_append.mp hy with hy | hy
      · obtain ⟨a1, a2, a3⟩ := hL y hy
        exact ⟨txA _ _ a1, a2.tx txA, a3⟩
      · obtain rfl : y = (t, u, sn, z) := by simpa using hy
        exact ⟨tl _ _ upd_same, (hu.ext y3).tx tl, dz⟩
    · intro b o nb1 nb2 e
      have hbD : b ≠ Dl := fun z => by
        rw [z] at e
        rw [x1 _ _ e] at hD'
        cases hD'
      rw [upd_ne hbD]
      exact y3 _ _ (B2' _ _ nb1 nb2 (BJ _ _ nb1 nb2 e))
  · rintro J ⟨L, n', SJ, hnJ, hlJ, hJ, hal, hnm, hL, BJ⟩
    have hl2 : (SV2.map V.str).length = 2 := rfl
    rw [hl2] at hal hnJ hnm
    match L, hal, hnm with
    | [x, y], _, hnm =>
      have hx1 : x.2.2.1 = "X" := (List.cons.inj hnm).1
      have hy1 : y.2.2.1 = "Y" := (List.cons.inj (List.cons.inj hnm).2).1
      obtain ⟨a1, a2, a3⟩ := hL x (by simp)
      obtain ⟨b1, b2, b3⟩ := hL y (by simp)
      refine ⟨Dl, [x, y].map (·.1), [x, y].map fun x => ((Sum.inr x.2.2.1 : Key), x.2.1), rfl, sq_of (by rw [hJ]; rfl), trips [x, y] fun z hz => (hL z hz).1, fun d nd => ?_⟩
      have e1 : ([x, y].map fun x => ((Sum.inr x.2.2.1 : Key), x.2.1)) = [((Sum.inr "X" : Key), x.2.1), ((Sum.inr "Y" : Key), y.2.1)] := by
        show [((Sum.inr x.2.2.1 : Key), x.2.1), (Sum.inr y.2.2.1, y.2.1)] = _
        rw [hx1, hy1]
      rw [e1, mergeK_nil (by show ([Sum.inr "X", Sum.inr "Y"] : List Key).Nodup; decide +kernel)]
      have x5 : Ex J (upd J d (.dK [(Sum.inr "X", x.2.1), (Sum.inr "Y", y.2.1)])) := Ex.new nd
      refine k _ d n' x.2.2.2 y.2.2.2 (BJ.trans (But.of x5)) (SJ.ext x5) (by omega) ⟨⟨⟨[(Sum.inr "X", x.2.1), (Sum.inr "Y", y.2.1)], upd_same, rfl, .cons (a2.ext x5) (.cons (b2.ext x5) .nil)⟩, by show ([Sum.inr "X", Sum.inr "Y"] : List Key).Nodup; decide +kernel⟩, a3, b3⟩
theorem g_dz {vs : List Str} {y : W} (h : Tw vs y) : Dz (.n "g" [y, .v "Z"]) ∧ ∀ {H : Hp} {t : Addr} {u : V}, H t = some (.tup [.str "g", u, .str "Z"]) → WV H u y → WV H (.ref t) (.n "g" [y, .v "Z"]) := by
  refine ⟨⟨?_, ?_, ?_, ?_⟩, fun ht hu => WV.of ht (.cons hu (.cons rfl .nil))⟩
  · unfold O.fitW
    have h1 : (W.n "g" [y, .v "Z"]).o.fit = true := by
      show (headB (.str "g") 2 && (y.o.fit && (varB "Z" && true))) = true
      rw [h.fit]
      decide +kernel
    rw [h1]
    rfl
  · show (SS.contains "g" && (y.o.ss && ((W.v "Z").o.ss && true))) = true
    rw [h.ss]
    decide +kernel
  · have := h.nd
    show y.nd + (1 + 0) + 1 ≤ 400
    omega
  · have := h.dp
    show max y.dp (max 0 0) + 1 < 12
    omega
theorem g_ar {vs : List Str} {y : W} (h : Tw vs y) : (W.n "g" [y, .v "Z"]).ar = true := by
  show ((decide (2 = arS "g") && N10.contains "g") && (y.ar && (true && true))) = true
  rw [h.ar]
  decide +kernel
theorem oi8 (T : TO P w K mg base C) (hr : Room 45 (XO P w K mg base f cdv A outer s HX).A) : ∃ t, PS (XO P w K mg base f cdv A outer s HX) (inO 8) t ∧
    ∀ (D : Ends) (G : Hp) (c0 c1 c3 c4 c8 c9 c10 c11 c12 c13 : Option V) (p q a o dr : Addr) (xs : List V) (rs : List (Str × Int)) (u v : V) (y z : W) (vs : List Str), Sg C G p q a o dr xs rs → Al rs → WV G u y → WV G v z → Tw vs y → Tw vs z →
      (∀ J, Ex G J → D.nx [c0, c1, some (.ref o), c3, c4, some u, some v, some (.str (cmpS rs y z)), c8, c9, c10, c11, c12, c13] J) →
      t D [c0, c1, some (.ref o), c3, c4, some u, some v, some (.str (cmpS rs y z)), c8, c9, c10, c11, c12, c13] G := by
  obtain ⟨fC, dC, GC, bC, kC, mC⟩ := (ok_compare T).ex
  refine ⟨_, ps_if (PW.pt (pw_and (pt_cmpR op_eq (pv 7) pe_str (nomark _)) (pw_and1 (pt_cmpR op_ne (pe_callS (sp := spCmp K C) GC (hr.mono (by decide)) (by rfl) mC kC bC (fun σ => passAt L2.takes0 σ) (pa_cons (pv 2)
      (pa_cons (pe_tup (pa_cons pe_str (pa_cons (pv 5) (pa_cons pe_str pa_nil)))) (pa_cons (pe_tup (pa_cons pe_str (pa_cons (pv 6) (pa_cons pe_str pa_nil)))) pa_nil)))) pe_str (nomark _))))) (pss_one ps_never) pss_nil, ?_⟩
  intro D G c0 c1 c3 c4 c8 c9 c10 c11 c12 c13 p q a o dr xs rs u v y z vs g A hu hv ty tz k
  refine s_when (b := false) (et_is (et_and (a := decide (V.str (cmpS rs y z) = V.str "above")) (b := false) (et_test (ev_op (ev_var (i := 7) rfl) ev_c (rv_eq rfl))) fun hb => ?_) (Bool.and_false _)) (fun z => nomatch z) fun _ J e => k J e
  have habv := cmp_above (V.str.inj (of_decide_eq_true hb))
  have hg := cmp_of (abv_ctx (g := "g") (t := .v "Z") habv)
  obtain ⟨gy1, gy2⟩ := g_dz ty
  obtain ⟨gz1, gz2⟩ := g_dz tz
  refine et_is (et_test (ev_op (x := .str "above") (fun H1 e1' Q q => ?_) ev_c (rv_ne rfl))) (by simp)
  refine ⟨.ref o, rfl, u, rfl, by show 3 ≤ sizeLine; rw [sizeLine_eq]; omega, fun t nt => ?_⟩
  have x1 : Ex H1 (upd H1 t (.tup [.str "g", u, .str "Z"])) := Ex.new nt
  have ht : (upd H1 t (.tup [.str "g", u, .str "Z"])) t = some (.tup [.str "g", u, .str "Z"]) := upd_same
  generalize upd H1 t (.tup [.str "g", u, .str "Z"]) = H2 at x1 ht ⊢
  refine ⟨v, rfl, by show 3 ≤ sizeLine; rw [sizeLine_eq]; omega, fun t2 nt2 => ?_⟩
  have x2 : Ex H2 (upd H2 t2 (.tup [.str "g", v, .str "Z"])) := Ex.new nt2
  have ht2 : (upd H2 t2 (.tup [.str "g", v, .str "Z"])) t2 = some (.tup [.str "g", v, .str "Z"]) := upd_same
  generalize upd H2 t2 (.tup [.str "g", v, .str "Z"]) = H3 at x2 ht2 ⊢
  have e3 := (e1'.trans x1).trans x2
  refine ⟨.ref o, .ref t, .ref t2, rfl, .inr ⟨o, dr, rs, rfl, g.od.ext e3, A.ok, .inr ⟨_, gy1.lw (gy2 (x2 _ _ ht) (hu.ext e3)) (strip_o _), .inr ⟨ar_fu A.all _ (g_ar ty), .inr ⟨_, gz1.lw (gz2 ht2 (hv.ext e3)) (strip_o _), .inr ⟨ar_fu A.all _ (g_ar tz), fun J3 g3 => ?_⟩⟩⟩⟩⟩⟩
  rw [hg]
  exact q J3 ((x1.trans x2).trans g3)
mutual
theorem part_ar : ∀ (z : W), z.ar = true → ∀ q ∈ z.parts, q.2.ar = true
  | .v s, h, q, hq => by
    obtain rfl : q = ([], .v s) := by simpa [W.parts] using hq
    rfl
  | .n s as, h, q, hq => by
    have hq : q ∈ ([], W.n s as) :: W.partsL 0 as := hq
    rcases List.mem_cons.mp hq with rfl | hq
    · exact h
    · exact partL_ar 0 as (W.ar_n h).2 q hq
theorem partL_ar : ∀ (i : Nat) (as : List W), W.ars as = true → ∀ q ∈ W.partsL i as, q.2.ar = true
  | _, [], _, q, hq => by cases hq
  | i, a :: as, h, q, hq => by
    obtain ⟨h1, h2⟩ := Bool.and_eq_true_iff.mp (show (a.ar && W.ars as) = true from h)
    have hq : q ∈ (a.parts.map fun q => (i :: q.1, q.2)) ++ W.partsL (i + 1) as := hq
    rcases List.mem_append.mp hq with hq | hq
    · obtain ⟨p, hp, rfl⟩ := List.mem_map.mp hq
      exact part_ar a h1 p hp
    · exact partL_ar (i + 1) as h2 q hq
end
theorem fits_of {as : List W} {i : Nat} {x : W} (h : O.fits (W.os as) = true) (e : as[i]? = some x) : x.o.fit = true := fits_kid h e
theorem at_tw : ∀ {pl : List Nat} {z y : W}, z.o.fit = true → z.o.ss = true → z.at pl = some y → y.o.fit = true ∧ y.o.ss = true ∧ y.nd ≤ z.nd ∧ y.dp ≤ z.dp
  | [], z, y, h1, h2, e => by
    have e : some z = some y := by cases z <;> exact e
    obtain rfl := Option.some.inj e
    exact ⟨h1, h2, Nat.le_refl _, Nat.le_refl _⟩
  | i :: p, .v s, y, h1, h2, e => by cases e
  | i :: p, .n s as, y, h1, h2, e => by
    have e : (match as[i]? with | some x => x.at p | none => none) = some y := e
    cases hx : as[i]? with
    | none => rw [hx] at e; cases e
    | some x =>
      rw [hx] at e
      have h1 : (headB (.str s) (W.os as).length && O.fits (W.os as)) = true := h1
      have h2 : (SS.contains s && O.sss (W.os as)) = true := h2
      obtain ⟨a, b, c, d⟩ := at_tw (fits_kid (Bool.and_eq_true_iff.mp h1).2 hx) (sss_kid (Bool.and_eq_true_iff.mp h2).2 hx) e
      have k1 := nds_kid hx
      have k2 := W.lt_dp hx
      exact ⟨a, b, by show y.nd ≤ W.nds as + 1; omega, by show y.dp ≤ W.dps as + 1; omega⟩
theorem part_dz {vs : List Str} {y : W} (h : Tw vs y) {q : List Nat × W} (hq : q ∈ y.parts) : Dz q.2 ∧ q.2.ar = true := by
  obtain ⟨a, b, c, d⟩ := at_tw h.fit h.ss (W.parts_at y q hq)
  have := h.nd
  have := h.dp
  exact ⟨⟨by unfold O.fitW; rw [a]; rfl, b, by omega, by omega⟩, part_ar y h.ar q hq⟩
theorem oi9 (T : TO P w K mg base C) (hr : Room 45 (XO P w K mg base f cdv A outer s HX).A) : ∃ t, PS (XO P w K mg base f cdv A outer s HX) (inO 9) t ∧
    ∀ (D : Ends) (G : Hp) (c0 c1 c3 c4 c6 c7 c8 c9 c10 c11 c12 c13 : Option V) (p q a o dr : Addr) (xs : List V) (rs : List (Str × Int)) (u : V) (y : W) (vs : List Str), Sg C G p q a o dr xs rs → Al rs → WV G u y → Tw vs y →
      (∀ J c11' c12', Ex G J → D.nx [c0, c1, some (.ref o), c3, c4, some u, c6, c7, c8, c9, c10, c11', c12', c13] J) →
      t D [c0, c1, some (.ref o), c3, c4, some u, c6, c7, c8, c9, c10, c11, c12, c13] G := by
  obtain ⟨fC, dC, GC, bC, kC, mC⟩ := (ok_compare T).ex
  obtain ⟨fP, dP, GP, bP, kP, mP⟩ := (ok_d_parts T.toT28 12).ex
  refine ⟨_, ps_for PassesOwn.never rfl (pi_list (pe_slice sl_list (pe_call GP (hr.mono (by decide)) (by rfl) mP kP bP .nil pass0 (pa_cons (pv 5) pa_nil)) (po_some pe_int) po_none)) (pg_tup rfl (pgs_cons (pg_name (i := 11) sc_or.nd rfl (by first | exact Or.inl rfl | exact Or.inr rfl)) (pgs_cons (pg_name (i := 12) sc_or.nd rfl (by first | exact Or.inl rfl | exact Or.inr rfl)) pgs_nil)))
    (pss_one (ps_if (pt_cmpR op_ne (pe_callS (sp := spCmp K C) GC (hr.mono (by decide)) (by rfl) mC kC bC (fun σ => passAt L2.takes0 σ) (pa_cons (pv 2) (pa_cons (pv 5) (pa_cons (pv 12) pa_nil)))) pe_str (nomark _)) (pss_one ps_never) pss_nil)), ?_⟩
  intro D G c0 c1 c3 c4 c6 c7 c8 c9 c10 c11 c12 c13 p q a o dr xs rs u y vs g A hu ty k
  have hsz := W.sz_nd y
  have hnd := ty.nd
  have hdp := ty.dp
  refine ⟨u, rfl, u, y, rfl, hu, by omega, by decide, by omega, fun pp ps G1 hpp e1 h1 hA => ?_⟩
  have hpl := hA.length
  refine ⟨1, rfl, pp, ps, rfl, sq_of h1, fun sl nsl => ?_⟩
  have hcut : cutV ps (some 1) none = ps.drop 1 := by
    have := cut_from ps 1
    exact this
  rw [hcut]
  have x2 : Ex G1 (upd G1 sl (.lst (ps.drop 1))) := Ex.new nsl
  have e02 := e1.trans x2
  have hs2 : (upd G1 sl (.lst (ps.drop 1))) sl = some (.lst (ps.drop 1)) := upd_same
  refine ⟨sl, rfl, ⟨_, sq_of hs2⟩, for_list (xs := ps.drop 1) (fun i σ' J => (∃ c11' c12' : Option V, σ' = [c0, c1, some (.ref o), c3, c4, some u, c6, c7, c8, c9, c10, c11', c12', c13]) ∧ Ex (upd G1 sl (.lst (ps.drop 1))) J) ⟨⟨_, _, rfl⟩, Ex.refl _⟩ (fun i σ' J _ c => sq_of (c.2 _ _ hs2)) ?_ ?_⟩
  · rintro i x σ' J hx ⟨⟨c11', c12', rfl⟩, eJ⟩
    have hx2 : ps[1 + i]? = some x := by
      rw [List.getElem?_drop] at hx
      exact hx
    obtain ⟨qq, hqq, t, l, u', rfl, k1, k2, k3, k4⟩ := hA.get hx2
    have hm := List.mem_of_getElem? hqq
    have hmd : qq ∈ y.parts.drop 1 := by
      refine List.mem_of_getElem? (i := i) ?_
      rw [List.getElem?_drop]
      exact hqq
    have e1J := x2.trans eJ
    refine ⟨t, _, rfl, st_of (e1J _ _ k1), rfl, _, _, rfl, _, _, rfl, rfl, ?_⟩
    obtain ⟨dq, aq⟩ := part_dz ty hm
    have hab := cmp_of (abv_part A.ok (ar_fu A.all y ty.ar) hmd)
    refine s_when (b := false) (et_is (et_test (ev_op (x := .str "above") (fun H1 e1' Q q => ?_) ev_c (rv_ne rfl))) (by simp)) (fun z => nomatch z) fun _ J2 e2 => ⟨⟨_, _, rfl⟩, eJ.trans e2⟩
    have eA := (e02.trans eJ).trans e1'
    refine ⟨.ref o, rfl, u, rfl, u', rfl, .ref o, u, u', rfl, .inr ⟨o, dr, rs, rfl, g.od.ext eA, A.ok, .inr ⟨y, ty.dz.lw (hu.ext eA) (strip_o y), .inr ⟨ar_fu A.all y ty.ar, .inr ⟨qq.2, dq.lw (k4.ext (e1J.trans e1')) (strip_o _), .inr ⟨ar_fu A.all _ aq, fun J3 g3 => ?_⟩⟩⟩⟩⟩⟩
    rw [hab]
    exact q J3 g3
  · rintro σ' J ⟨⟨c11', c12', rfl⟩, eJ⟩
    exact k J c11' c12' (e02.trans eJ)
end
end K28

set_option Elab.async false
set_option linter.all false
set_option maxRecDepth 100000
set_option maxHeartbeats 4000000
/-! Words each once. -/
namespace K28
open PySem PySem.Spec PyProof.Rows L2 Evl LamX
theorem dp_ws {K : PySem.W.Frag} {H : Hp} : ∀ {zs : List W} {us : List V}, WVs H us zs → DpAll K H us (zs.map fun z => z.o.py)
  | [], us, h => by
    obtain rfl : us = [] := h
    exact .nil
  | z :: zs, us, ⟨v, vs, e, h1, h2⟩ => by
    subst e
    exact .cons (WV.dpd h1) (dp_ws h2)
theorem shaped_ws {zs : List W} (h : ∀ z ∈ zs, z.o.ss = true ∧ z.dp ≤ 50) : SeqAt.shaped (.list (zs.map fun z => z.o.py)) = true := by
  show (PyData.canLay0 (.list (zs.map fun z => z.o.py)) && decide (PyData.depth (.list (zs.map fun z => z.o.py)) ≤ 64)) = true
  have h1 : PyData.canLayAll0 (zs.map fun z => z.o.py) = true := by
    induction zs with
    | nil => simp [PyData.canLayAll0]
    | cons x xs ih =>
      simp only [List.map_cons, PyData.canLayAll0]
      rw [W.lay x (h x (by simp)).1, ih fun y hy => h y (by simp [hy])]
      rfl
  have h2 : PyData.depthAll (zs.map fun z => z.o.py) ≤ 60 := by
    clear h1
    induction zs with
    | nil => simp [PyData.depthAll]
    | cons x xs ih =>
      have a := ih fun y hy => h y (by simp [hy])
      have b := (h x (by simp)).2
      simp only [List.map_cons, PyData.depthAll]
      rw [W.pdp x]
      omega
  rw [Bool.and_eq_true]
  refine ⟨by simp only [PyData.canLay0]; exact h1, decide_eq_true ?_⟩
  simp only [PyData.depth]
  omega
section
variable {P : Program} {w : World} {K : PySem.W.Frag} {mg : Str → Option Value} {base : Heap}
def spEw : Sp := fun vs H Q _ => ∃ a us zs, vs = [.ref a] ∧ H a = some (.lst us) ∧ WVs H us zs ∧ zs.length ≤ 1000 ∧ (∀ z ∈ zs, z.o.ss = true ∧ z.dp ≤ 50) ∧
  ∀ (p : Addr) (ys : List V) (ws : List W) (G : Hp), H p = none → Ex H G → G p = some (.lst ys) → WVs G ys ws → (∀ z ∈ ws, z ∈ zs) → ws.length ≤ zs.length → Q (.ref p) G
theorem ok_each_w (T : T28 P w K mg base) : Ok P w K mg base CX0 "_law_each_once" ["_law_things"] 1 spEw := by
  refine T.ok 48 rfl sc_eo (fun vs H Q E h => ?_) (fun kV doc pm an cdv ct us hl => match us, hl with | [_], _ => rfl) (fun f cdv A outer s H vs Q E hr h => ?_)
  · obtain ⟨a, us, zs, rfl, _⟩ := h
    rfl
  · obtain ⟨a, us, zs, rfl, ha, hw, hl, hz, k⟩ := h
    refine ⟨_, pss_cons (ps_set (i := 1) sc_eo.nd rfl (Or.inl rfl) (pe_lst pa_nil))
      (pss_cons (ps_for PassesOwn.never rfl (pi_list (pv 0)) (pg_name (i := 2) sc_eo.nd rfl (Or.inl rfl))
        (pss_one (ps_if (pt_cmpR (op_notInD (u65 hr)) (pv 2) (pv 1) (by rfl)) (pss_one (ps_expr (pe_bm PySem.F.plainAttrs_list PySem.F.slot_list_append PySem.F.type_list_append mt_append (pv 1) (pa_cons (pv 2) pa_nil)))) pss_nil)))
      (pss_one (ps_ret (pv 1)))), ?_⟩
    refine q_asgL (el_lst ea_nil (by show 0 ≤ 100000; decide)) fun p H1 hp e1 h1 => ?_
    refine q_forL (xs := us) (ev_var rfl) (sq_of (e1 _ _ ha)) (fun i σ' H' => Ex H H' ∧ (∃ b : Option V, σ' = [some (.ref a), some (.ref p), b]) ∧ ∃ ys ws, H' p = some (.lst ys) ∧ WVs H' ys ws ∧ (∀ z ∈ ws, z ∈ zs) ∧ ws.length ≤ i) ?_ ?_ ?_ ?_
    · intro H2 e2
      exact ⟨e1.trans e2, ⟨_, rfl⟩, [], [], e2 _ _ h1, rfl, (fun z hz => nomatch hz), Nat.le_refl _⟩
    · rintro i σ' H' hi ⟨e, _⟩
      exact sq_of (e _ _ ha)
    · rintro i x σ' H' hx ⟨e, ⟨b, rfl⟩, ys, ws, hp2, hws, hsub, hlen⟩
      obtain ⟨z, hz1, hwz⟩ := (hw.ext e).getv hx
      have hzm := List.mem_of_getElem? hz1
      have hil := (List.getElem?_eq_some_iff.mp hz1).1
      refine s_when (b := !(ws.map fun z => z.o.py).any fun d => PyData.eqv d z.o.py) (et_test (ev_op (x := x) (y := .ref p) (ev_var (i := 2) rfl) (ev_var (i := 1) rfl) (fun J eJ Q q => ⟨z.o.py, ws.map fun z => z.o.py, WV.dpd (hwz.ext eJ), .lst (sq_of (eJ _ _ hp2)) (dp_ws (hws.ext eJ)), by
        unfold SeqAt.shaped
        rw [W.lay z (hz z hzm).1, W.pdp z, decide_eq_true (by have := (hz z hzm).2; omega)]
        rfl, shaped_ws fun y hy => hz y (hsub y hy), q J (Ex.refl _)⟩))) (fun _ J eJ => ?_) fun _ J eJ => ⟨e.trans eJ, ⟨_, rfl⟩, ys, ws, eJ _ _ hp2, hws.ext eJ, hsub, by omega⟩
      refine s_app (eJ _ _ hp2) (ev_var rfl) (ev_var (i := 2) rfl) (by have := hws.length; omega) fun J2 e2 => ?_
      have tl := Tx.lst (o := .lst (ys ++ [x])) (e2 _ _ (eJ _ _ hp2))
      have e3 := (e.trans eJ).trans e2
      have hp0 : H p = none := hp
      refine ⟨Ex.mut e3 hp0, ⟨_, rfl⟩, ys ++ [x], ws ++ [z], upd_same, ?_, fun y hy => ?_, by rw [List.length_append, List.length_singleton]; omega⟩
      · unfold WVs
        rw [W.os_map, List.map_append, ← W.os_map]
        exact OVs.append (WVs.tx tl (WVs.ext (eJ.trans e2) hws)) (.cons ((hwz.ext (eJ.trans e2)).tx tl) .nil)
      · rcases List.mem_append.mp hy with hy | hy
        · exact hsub y hy
        · obtain rfl : y = z := by simpa using hy
          exact hzm
    · rintro σ' H' ⟨e, ⟨b, rfl⟩, ys, ws, hp2, hws, hsub, hlen⟩
      rw [hw.length] at hlen
      exact s_ret (ev_var (i := 1) rfl) fun J eJ => k p ys ws J hp (e.trans eJ) (eJ _ _ hp2) (hws.ext eJ) hsub hlen
end
end K28

set_option Elab.async false
set_option linter.all false
set_option maxRecDepth 100000
set_option maxHeartbeats 4000000
/-! _law_handed_on. -/
namespace K28
open PySem PySem.Spec PyProof.Rows L2 Evl LamX
section
variable {K : PySem.W.Frag} {σ : L2.St} {H : Hp} {te tl : TE} {tt : TT}
/-- [f(x) for x in words], f(x) a text -/
theorem el_mapW {j : Nat} {l : Addr} {us : List V} {zs : List W} (F : W → Str) (h : Ev tl σ H (.ref l)) (hl : H l = some (.lst us)) (hw : WVs H us zs) (hz : us.length ≤ 1000) (hwp : ∀ x, wipe ((wipe σ [j]).set j (some x)) [j] = wipe σ [j])
    (he : ∀ x z G, Ex H G → z ∈ zs → WV G x z → Ev te ((wipe σ [j]).set j (some x)) G (.str (F z))) : EvL (tLc (iList K tl) (gName j) tYes te [j]) σ H ((zs.map F).map V.str) := fun H1 e Q q => h H1 e _ fun H2 e2 => by
  have e02 := e.trans e2
  refine ⟨l, rfl, ⟨us, sq_of (e02 _ _ hl)⟩, fun Dl hD => ?_⟩
  refine lc_it (walk_list (xs := us)) (fun i G => Ex H2 G ∧ G Dl = some (.lst (((zs.take i).map F).map V.str))) ⟨Ex.new hD, upd_same⟩ (fun i G _ c => sq_of ((e02.trans c.1) _ _ hl)) ?_ fun G c => ?_
  · rintro i x G G' hi ⟨c1, c2⟩ ⟨rfl, hx⟩
    have eG := e02.trans c1
    obtain ⟨z, hz1, hwz⟩ := (hw.ext eG).getv hx
    refine ⟨hwp _, ?_⟩
    unfold tYes
    dsimp only
    rw [if_pos rfl]
    refine he x z G' eG (List.mem_of_getElem? hz1) hwz G' (Ex.refl _) _ fun G3 e3 => ?_
    refine ⟨_, e3 _ _ c2, by rw [List.length_map, List.length_map, List.length_take]; exact sz_lt (by have := hw.length; omega), Ex.mut (c1.trans e3) hD, ?_⟩
    rw [upd_same, take_snoc hz1, List.map_append, List.map_append]
    rfl
  · have hc := c.2
    rw [hw.length, List.take_length] at hc
    exact q Dl G (fresh_back e2 hD) (e2.trans c.1) hc
/-- [x for x in words if ..] -/
theorem el_filW {j : Nat} {l : Addr} {us : List V} {zs : List W} (B : W → Bool) (h : Ev tl σ H (.ref l)) (hl : H l = some (.lst us)) (hw : WVs H us zs) (hz : us.length ≤ 1000) (hwp : ∀ x, wipe ((wipe σ [j]).set j (some x)) [j] = wipe σ [j]) (hwj : ∀ x, ((wipe σ [j]).set j (some x))[j]? = some (some x))
    (he : ∀ x z G, Ex H G → z ∈ zs → WV G x z → EvT tt ((wipe σ [j]).set j (some x)) G (B z)) : EvLP (tLc (iList K tl) (gName j) tt (tVar j) [j]) σ H (fun xs G => xs.length ≤ 1000 ∧ ∀ x ∈ xs, ∃ z, z ∈ zs ∧ WV G x z ∧ B z = true) := fun H1 e Q q => h H1 e _ fun H2 e2 => by
  have e02 := e.trans e2
  refine ⟨l, rfl, ⟨us, sq_of (e02 _ _ hl)⟩, fun Dl hD => ?_⟩
  refine lc_it (walk_list (xs := us)) (fun i G => Ex H2 G ∧ ∃ acc, G Dl = some (.lst acc) ∧ acc.length ≤ i ∧ ∀ x ∈ acc, ∃ z, z ∈ zs ∧ WV G x z ∧ B z = true) ⟨Ex.new hD, [], upd_same, Nat.le_refl _, (fun x hx => nomatch hx)⟩ (fun i G _ c => sq_of ((e02.trans c.1) _ _ hl)) ?_ ?_
  · rintro i x G G' hi ⟨c1, acc, c2, c3, c4⟩ ⟨rfl, hx⟩
    have eG := e02.trans c1
    obtain ⟨z, hz1, hwz⟩ := (hw.ext eG).getv hx
    refine ⟨hwp _, ?_⟩
    refine he x z G' eG (List.mem_of_getElem? hz1) hwz G' (Ex.refl _) _ fun G3 e3 => ?_
    cases hB : B z with
    | true =>
      rw [if_pos rfl]
      have tl := Tx.lst (o := .lst (acc ++ [x])) (e3 _ _ c2)
      refine ⟨x, hwj x, acc, e3 _ _ c2, sz_lt (by omega), Ex.mut (c1.trans e3) hD, acc ++ [x], upd_same, by rw [List.length_append, List.length_singleton]; omega, fun y hy => ?_⟩
      rcases List.mem_append.mp hy with hy | hy
      · obtain ⟨z', a1, a2, a3⟩ := c4 y hy
        exact ⟨z', a1, (a2.ext e3).tx tl, a3⟩
      · obtain rfl : y = x := by simpa using hy
        exact ⟨z, List.mem_of_getElem? hz1, (hwz.ext e3).tx tl, hB⟩
    | false =>
      rw [if_neg (by decide)]
      refine ⟨c1.trans e3, acc, e3 _ _ c2, by omega, fun y hy => ?_⟩
      obtain ⟨z', a1, a2, a3⟩ := c4 y hy
      exact ⟨z', a1, a2.ext e3, a3⟩
  · rintro G ⟨c1, acc, c2, c3, c4⟩
    exact q Dl acc G (fresh_back e2 hD) (e2.trans c1) c2 ⟨by omega, c4⟩
/-- [True for x in xs] -/
theorem el_true {j : Nat} {l : Addr} {xs : List V} (h : Ev tl σ H (.ref l)) (hl : H l = some (.lst xs)) (hz : xs.length ≤ 1000) (hwp : ∀ x, wipe ((wipe σ [j]).set j (some x)) [j] = wipe σ [j])
    (he : ∀ x G, Ex H G → x ∈ xs → Ev te ((wipe σ [j]).set j (some x)) G (.bl true)) : EvL (tLc (iList K tl) (gName j) tYes te [j]) σ H ((List.replicate xs.length true).map V.bl) := fun H1 e Q q => h H1 e _ fun H2 e2 => by
  have e02 := e.trans e2
  refine ⟨l, rfl, ⟨xs, sq_of (e02 _ _ hl)⟩, fun Dl hD => ?_⟩
  refine lc_it (walk_list (xs := xs)) (fun i G => Ex H2 G ∧ G Dl = some (.lst ((List.replicate i true).map V.bl))) ⟨Ex.new hD, upd_same⟩ (fun i G _ c => sq_of ((e02.trans c.1) _ _ hl)) ?_ fun G c => q Dl G (fresh_back e2 hD) (e2.trans c.1) c.2
  rintro i x G G' hi ⟨c1, c2⟩ ⟨rfl, hx⟩
  refine ⟨hwp _, ?_⟩
  unfold tYes
  dsimp only
  rw [if_pos rfl]
  refine he x G' (e02.trans c1) (List.mem_of_getElem? hx) G' (Ex.refl _) _ fun G3 e3 => ?_
  refine ⟨_, e3 _ _ c2, by rw [List.length_map, List.length_replicate]; exact sz_lt (by omega), Ex.mut (c1.trans e3) hD, ?_⟩
  rw [upd_same, List.replicate_succ', List.map_append]
  rfl
theorem ov_strs {H : Hp} : ∀ ss : List Str, OVs H (ss.map V.str) (ss.map O.str)
  | [] => rfl
  | s :: r => .cons rfl (ov_strs r)
theorem strs_dq : ∀ ss : List Str, O.dqs (ss.map O.str) = 0
  | [] => rfl
  | s :: r => by
    show max 0 (O.dqs (r.map O.str)) = 0
    rw [strs_dq r]
    rfl
theorem strs_sz : ∀ ss : List Str, O.szs (ss.map O.str) = ss.length
  | [] => rfl
  | s :: r => by
    show 1 + O.szs (r.map O.str) = r.length + 1
    rw [strs_sz r]
    omega
end
end K28

set_option Elab.async false
set_option linter.all false
set_option maxRecDepth 100000
set_option maxHeartbeats 4000000
/-! _law_handed_on: its text. -/
namespace K28
open PySem PySem.Spec PyProof.Rows L2 Evl LamX
abbrev nHo : List Str := ["_law_stream", "_law_order", "_law_rows", "_law_words", "_law_one", "_law_due_here", "_law_two_here", "_law_lower", "_law_k", "_law_other", "_law_word", "_law_how"]
theorem sc_ho : FnScope nHo ["_law_stream", "_law_order", "_law_rows"] (defScope s__law_handed_on) := ⟨rfl, rfl, rfl, by decide +kernel, rfl, by decide +kernel, by decide +kernel⟩
abbrev XH (P : Program) (w : World) (K : PySem.W.Frag) (mg : Str → Option Value) (base : Heap) (f : Addr) (cdv : Value) (A : Around) (outer : List Env) (s : Shared) (H : Hp) : Cx := (cxOf CX0 P w K mg base nHo "_law_handed_on" (defScope s__law_handed_on) f cdv A outer s H E0).nox
def stH (i : Nat) : Stmt := (defBody s__law_handed_on).getD i (.Pass ⟨0, 0, 0, 0⟩)
theorem call1 {sp : Sp} {dvs : List V} {E : XK} {te : TE} {ta : TA} {σ : L2.St} {H : Hp} {Q : VK} (h : te σ H fun v H1 => ta σ H1 fun vs H2 => sp ((v :: vs) ++ dvs) H2 Q E) : tCall sp dvs E (tCons te ta) σ H Q := h
/-- a word that is handed on -/
structure Hw (z : W) : Prop where
  dw : Dw 2 z
theorem Hw.dz {z : W} (h : Hw z) : Dz z := h.dw.dz (by decide)
section
variable {P : Program} {w : World} {K : PySem.W.Frag} {mg : Str → Option Value} {base : Heap} {C f : Addr} {cdv : Value} {A : Around} {outer : List Env} {s : Shared} {HX : Hp}
theorem hb0 (T : T28 P w K mg base) (hr : Room 43 (XH P w K mg base f cdv A outer s HX).A) : ∃ t, PS (XH P w K mg base f cdv A outer s HX) (stH 0) t ∧
    ∀ (D : Ends) (G : Hp) (c1 c2 c3 c4 c5 c6 c7 c8 c9 c10 c11 : Option V) (p q : Addr) (n : Int), Spr G p q n → n + 300 ≤ 90000 →
      (∀ (J : Hp) (l : Addr) (us : List V) (zs : List W) (n' : Int), But p q G J → Spr J p q n' → n' ≤ n + 200 → J l = some (.lst us) → WVs J us zs → us.length ≤ 100 → (∀ z ∈ zs, Hw z) → D.nx [some (.ref p), c1, c2, some (.ref l), c4, c5, c6, c7, c8, c9, c10, c11] J) →
      t D [some (.ref p), c1, c2, c3, c4, c5, c6, c7, c8, c9, c10, c11] G := by
  obtain ⟨fW, dW, GW, bW, kW, mW⟩ := (ok_d_word T 2).ex
  obtain ⟨fE, dE, GE, bE, kE, mE⟩ := (ok_each_w T).ex
  refine ⟨_, ps_set (i := 3) sc_ho.nd rfl (by first | exact Or.inl rfl | exact Or.inr rfl) (pe_call GE (hr.mono (by decide)) (by rfl) mE kE bE .nil pass0 (pa_cons
    (pe_lc (own := [("_law_k", 8)]) (g := gName 8) (tt := tYes) (te := tCall (spDw 2) [] E0 (tCons (tVar 0) (tCons (tC (.int 2)) (tCons (tLst (tCons (tC (.str "X")) tNil)) tNil)))) rfl sc_ho.nd (pi_range1 (by rfl) T.range (pa_cons pe_int pa_nil)) (blkOk_by (N := nHo) (sc := defScope s__law_handed_on) (by decide +kernel))
      (fun _ _ _ _ _ => pg_name (i := 8) sc_ho.nd rfl (Or.inl rfl)) (fun _ _ _ _ _ => pts_nil) (fun _ _ _ _ _ => pe_call GW (hr.mono (by decide)) (by rfl) mW kW bW .nil pass0 (pa_cons (pv 0) (pa_cons pe_int (pa_cons (pe_lst (pa_cons pe_str pa_nil)) pa_nil))))) pa_nil)), ?_⟩
  intro D G c1 c2 c3 c4 c5 c6 c7 c8 c9 c10 c11 p q n S hn k
  refine ⟨_, rfl, by decide, by decide, fun Dl hD => ?_⟩
  obtain ⟨d1, d2⟩ := S.nep hD
  have x0 : Ex G (upd G Dl (.lst [])) := Ex.new hD
  refine lc_range (lo := 0) (fun i J => ∃ acc n', Spr J p q n' ∧ n' ≤ n + 26 * (i : Nat) ∧ J Dl = some (.lst acc) ∧ acc.length = i ∧ (∃ zs : List W, WVs J acc zs ∧ ∀ z ∈ zs, Hw z) ∧ But p q G J) ?_ ?_ ?_
  · exact ⟨[], n, S.ext x0, by omega, upd_same, rfl, ⟨[], rfl, fun z hz => nomatch hz⟩, But.of x0⟩
  · rintro i J hi ⟨acc, n', SJ, hnJ, hJ, hal, ⟨zs, hzs, hdw⟩, BJ⟩
    refine ⟨rfl, ?_⟩
    unfold tYes
    dsimp only
    rw [if_pos (rfl : true = true)]
    have hi' : i < 7 := by simpa using hi
    refine ⟨.ref p, rfl, by show 1 ≤ sizeLine; rw [sizeLine_eq]; omega, fun vl nvl => ?_⟩
    have y1 : Ex J (upd J vl (.lst (sVs ["X"]))) := Ex.new nvl
    obtain ⟨v1, v2⟩ := SJ.nep nvl
    refine ⟨p, q, vl, n', ["X"], rfl, SJ.ext y1, by rw [kk2]; omega, upd_same, v1, v2, by decide, by decide +kernel, fun u J2 n2 z S2 hn2 B2 hu dz _ => ?_⟩
    rw [kk2] at hn2
    have B2' := (But.of (p := p) (q := q) y1).trans B2
    have hJ2 : J2 Dl = some (.lst acc) := B2' _ _ d1 d2 hJ
    have tJ : Tx J2 (upd J2 Dl (.lst (acc ++ [u]))) := Tx.lst hJ2
    refine ⟨acc, hJ2, sz_lt (by omega), acc ++ [u], n2, S2.keep (fun o h => by rw [upd_ne d1.symm]; exact h) (fun o h => by rw [upd_ne d2.symm]; exact h), by omega, upd_same, by simp [hal], ⟨zs ++ [z], ?_, fun z' hz' => ?_⟩, ?_⟩
    · unfold WVs
      rw [W.os_map, List.map_append, ← W.os_map]
      exact OVs.append (WVs.tx tJ (WVs.tx (SJ.tx B2') hzs)) (.cons (hu.tx tJ) .nil)
    · rcases List.mem_append.mp hz' with h | h
      · exact hdw z' h
      · obtain rfl : z' = z := by simpa using h
        exact ⟨dz⟩
    · intro b o nb1 nb2 e
      rw [upd_ne (ne_of_none e hD)]
      exact B2' _ _ nb1 nb2 (BJ _ _ nb1 nb2 e)
  · rintro J ⟨acc, n', SJ, hnJ, hJ, hal, ⟨zs, hzs, hdw⟩, BJ⟩
    have h7 : ((7 : Int)).toNat = 7 := rfl
    rw [h7] at hnJ hal
    have hzl : zs.length = 7 := by rw [← WVs.length hzs]; exact hal
    refine ⟨Dl, acc, zs, rfl, hJ, hzs, by omega, fun z hz => ⟨(hdw z hz).dw.ss, by have := (hdw z hz).dw.dp; omega⟩, fun pw ys ws G2 npw e2 h2 hws hsub hlen => ?_⟩
    exact k G2 pw ys ws n' (BJ.trans (But.of e2)) (SJ.ext e2) (by omega) h2 hws (by rw [hws.length]; omega) fun z hz => hdw z (hsub z hz)
/-- the body of the outer loop -/
def inH (i : Nat) : Stmt := (forBody (stH 1)).getD i (.Pass ⟨0, 0, 0, 0⟩)
theorem hi0 (T : T28 P w K mg base) (hr : Room 43 (XH P w K mg base f cdv A outer s HX).A) : ∃ t, PS (XH P w K mg base f cdv A outer s HX) (inH 0) t ∧
    ∀ (D : Ends) (G : Hp) (c0 c1 c5 c6 c7 c8 c9 c10 c11 : Option V) (a l : Addr) (xs us : List V) (rs : List (Str × Int)) (u : V) (y : W) (zs : List W), G a = some (.lst xs) → OVs G xs (rs.map rowO) → Al rs → G l = some (.lst us) → WVs G us zs → us.length ≤ 100 → (∀ z ∈ zs, Hw z) → WV G u y → Hw y →
      (∀ (J : Hp) (l5 : Addr), Ex G J → J l5 = some (.lst ((zs.map (cmpS rs y)).map V.str)) → D.nx [c0, c1, some (.ref a), some (.ref l), some u, some (.ref l5), c6, c7, c8, c9, c10, c11] J) →
      t D [c0, c1, some (.ref a), some (.ref l), some u, c5, c6, c7, c8, c9, c10, c11] G := by
  obtain ⟨fD, dD, GD, bD, kD, mD⟩ := (ok_due T).ex
  refine ⟨_, ps_setLc (i := 5) (own := [("_law_other", 9)]) (g := gName 9) (tt := tYes) (te := tCall spDue [] E0 (tCons (tVar 2) (tCons (tVar 4) (tCons (tVar 9) tNil)))) (by rfl) sc_ho.nd rfl rfl (sw_true rfl rfl rfl (by decide +kernel)) (pi_list (pv 3)) (blkOk_by (N := nHo) (sc := defScope s__law_handed_on) (by decide +kernel))
    (fun _ _ _ _ _ => pg_name (i := 9) sc_ho.nd rfl (Or.inl rfl)) (fun _ _ _ _ _ => pts_nil) (fun _ _ _ _ _ => pe_call GD (hr.mono (by decide)) (by rfl) mD kD bD .nil pass0 (pa_cons (pv 2) (pa_cons (pv 4) (pa_cons (pv 9) pa_nil)))), ?_⟩
  intro D G c0 c1 c5 c6 c7 c8 c9 c10 c11 a l xs us rs u y zs ha hR A hl hw hz hzs hu hy k
  refine el_mapW (K := K) (tl := tVar 3) (te := tCall spDue [] E0 (tCons (tVar 2) (tCons (tVar 4) (tCons (tVar 9) tNil)))) (σ := [c0, c1, some (.ref a), some (.ref l), some u, c5, c6, c7, c8, c9, c10, c11]) (j := 9) (cmpS rs y) (ev_var (i := 3) rfl) hl hw (by omega) (fun _ => rfl) (fun x z G1 e1 hzm hwz => ev_call (ea_cons (ev_var (i := 2) rfl) (ea_cons (ev_var (i := 4) rfl) (ea_cons (ev_var (i := 9) rfl) ea_nil))) fun G2 e2 Q q E => ?_) G (Ex.refl _) _ fun l5 H2 _ e2 h2 => k H2 l5 e2 h2
  exact ⟨a, xs, rs, u, x, y, z, rfl, (e1.trans e2) _ _ ha, hR.ext (e1.trans e2), A.ok, hu.ext (e1.trans e2), hwz.ext e2, hy.dz.ww A.all hy.dw.ar, (hzs z hzm).dz.ww A.all (hzs z hzm).dw.ar, q⟩
theorem hi1 (T : TO P w K mg base C) (hr : Room 43 (XH P w K mg base f cdv A outer s HX).A) : ∃ t, PS (XH P w K mg base f cdv A outer s HX) (inH 1) t ∧
    ∀ (D : Ends) (G : Hp) (c0 c2 c6 c7 c8 c9 c10 c11 : Option V) (o dr l l5 : Addr) (us : List V) (rs : List (Str × Int)) (u : V) (y : W) (zs : List W), OrdAt C G o dr rs → Al rs → G l = some (.lst us) → WVs G us zs → us.length ≤ 100 → (∀ z ∈ zs, Hw z) → WV G u y → Hw y → G l5 = some (.lst ((zs.map (cmpS rs y)).map V.str)) →
      (∀ J, Ex G J → D.nx [c0, some (.ref o), c2, some (.ref l), some u, some (.ref l5), c6, c7, c8, c9, c10, c11] J) →
      t D [c0, some (.ref o), c2, some (.ref l), some u, some (.ref l5), c6, c7, c8, c9, c10, c11] G := by
  obtain ⟨fC, dC, GC, bC, kC, mC⟩ := (ok_compare T).ex
  obtain ⟨fS, dS, GS, bS, kS, mS⟩ := (ok_same T.toT28 3).ex
  refine ⟨_, ps_if (pt_not (pt_val (pe_call GS (hr.mono (by decide)) (by rfl) mS kS bS .nil pass0 (pa_cons (pe_lc (own := [("_law_other", 9)]) (g := gName 9) (tt := tYes) (te := tCallS (spCmp K C) (WE fun _ _ _ _ => False) (tCons (tVar 1) (tCons (tVar 4) (tCons (tVar 9) tNil)))) rfl sc_ho.nd (pi_list (pv 3)) (blkOk_by (N := nHo) (sc := defScope s__law_handed_on) (by decide +kernel))
    (fun _ _ _ _ _ => pg_name (i := 9) sc_ho.nd rfl (Or.inl rfl)) (fun _ _ _ _ _ => pts_nil) (fun _ _ _ _ _ => pe_callS (sp := spCmp K C) GC (hr.mono (by decide)) (by rfl) mC kC bC (fun σ => passAt L2.takes0 σ) (pa_cons (pv 1) (pa_cons (pv 4) (pa_cons (pv 9) pa_nil))))) (pa_cons (pv 5) pa_nil))))) (pss_one ps_never) pss_nil, ?_⟩
  intro D G c0 c2 c6 c7 c8 c9 c10 c11 o dr l l5 us rs u y zs hO A hl hw hz hzs hu hy h5 k
  refine s_when (b := false) (et_not (a := true) (et_B fun H1 e1 Q q => ?_)) (fun z => nomatch z) fun _ J e => k J e
  refine call1 (el_mapW (K := K) (tl := tVar 3) (te := tCallS (spCmp K C) (WE fun _ _ _ _ => False) (tCons (tVar 1) (tCons (tVar 4) (tCons (tVar 9) tNil)))) (σ := [c0, some (.ref o), c2, some (.ref l), some u, some (.ref l5), c6, c7, c8, c9, c10, c11]) (j := 9) (cmpS rs y) (ev_var (i := 3) rfl) hl hw (by omega) (fun _ => rfl) (fun x z G1 g1 hzm hwz => ev_cmp (ev_var (i := 1) rfl) (ev_var (i := 4) rfl) (ev_var (i := 9) rfl) (hO.ext g1) A (hy.dz.lw (hu.ext g1) (strip_o y)) ((hzs z hzm).dz.lw hwz (strip_o z)) hy.dw.ar (hzs z hzm).dw.ar) H1 e1 _ fun pl H2 np e2 h2 => ?_)
  have hzl := hw.length
  refine ⟨.ref l5, rfl, .ref pl, .ref l5, .lst ((zs.map (cmpS rs y)).map O.str), rfl, ⟨pl, _, rfl, h2, ov_strs _⟩, ⟨l5, _, rfl, (e1.trans e2) _ _ h5, ov_strs _⟩, ?_, by decide, ?_, fun J e => q J (e2.trans e)⟩
  · show O.dqs _ + 1 < 3
    rw [strs_dq]
    decide
  · show O.szs _ + 1 ≤ 40000
    rw [strs_sz, List.length_map]
    omega
end
end K28

set_option Elab.async false
set_option linter.all false
set_option maxRecDepth 100000
set_option maxHeartbeats 4000000
/-! _law_handed_on, to its end. -/
namespace K28
open PySem PySem.Spec PyProof.Rows L2 Evl LamX
/-- what a loop asks of its iterator -/
def tForI (J : It) (g : TG) (tb : TS) (D : Ends) (σ : L2.St) (H1 : Hp) : Prop := tFor (fun _ H R => R J H) g tb D σ H1
section
variable {K : PySem.W.Frag} {σ : L2.St} {H : Hp} {te tl : TE} {tt : TT}
/-- [x for x, how in zip(words, hows) if how == ..] -/
theorem el_zipW {l l5 : Addr} {us : List V} {zs : List W} (F : W → Str) (s0 : Str) (h3 : σ[3]? = some (some (.ref l))) (h5 : σ[5]? = some (some (.ref l5))) (hl : H l = some (.lst us)) (hw : WVs H us zs) (hl5 : H l5 = some (.lst ((zs.map F).map V.str))) (hz : us.length ≤ 1000)
    (hwp : ∀ x y, wipe (((wipe σ [10, 11]).set 10 (some x)).set 11 (some y)) [10, 11] = wipe σ [10, 11]) (hwj : ∀ x y, (((wipe σ [10, 11]).set 10 (some x)).set 11 (some y))[10]? = some (some x)) (hwk : ∀ x y, (((wipe σ [10, 11]).set 10 (some x)).set 11 (some y))[11]? = some (some y)) :
    EvLP (tLc (RZ.iZipA K (tCons (tVar 3) (tCons (tVar 5) tNil))) (gPair K 10 11) (tTest (tOp rEq (tVar 11) (tC (.str s0)))) (tVar 10) [10, 11]) σ H (fun xs G => xs.length ≤ 1000 ∧ ∀ x ∈ xs, ∃ z, z ∈ zs ∧ WV G x z ∧ F z = s0) := fun H1 e Q q => by
  refine ⟨.ref l, h3, .ref l5, h5, l, l5, us, _, rfl, .inl ⟨sq_of (e _ _ hl), sq_of (e _ _ hl5), fun Dl hD => ?_⟩⟩
  have hlen := hw.length
  refine lc_it (walk_zip (n := us.length) (xs := us) (ys := (zs.map F).map V.str) (by rw [List.length_map, List.length_map]; omega)) (fun i G => Ex H1 G ∧ ∃ acc, G Dl = some (.lst acc) ∧ acc.length ≤ i ∧ ∀ x ∈ acc, ∃ z, z ∈ zs ∧ WV G x z ∧ F z = s0) ⟨Ex.new hD, [], upd_same, Nat.le_refl _, (fun x hx => nomatch hx)⟩ (fun i G _ c => ⟨sq_of ((e.trans c.1) _ _ hl), sq_of ((e.trans c.1) _ _ hl5)⟩) ?_ ?_
  · rintro i x G G' hi ⟨c1, acc, c2, c3, c4⟩ ⟨t, x1, x2, rfl, ht, rfl, hx1, hx2⟩
    have eT : Ex G (upd G t (.tup [x1, x2])) := Ex.new ht
    have hx2 : ((zs.map F).map V.str)[i]? = some x2 := hx2
    rw [List.getElem?_map, List.getElem?_map] at hx2
    obtain ⟨s1, hs1, rfl⟩ := Option.map_eq_some_iff.mp hx2
    obtain ⟨z', hz', rfl⟩ := Option.map_eq_some_iff.mp hs1
    obtain ⟨z, hz1, hwz⟩ := (hw.ext ((e.trans c1).trans eT)).getv hx1
    obtain rfl : z = z' := Option.some.inj (hz1.symm.trans hz')
    refine ⟨t, _, rfl, st_of upd_same, rfl, _, _, rfl, _, _, rfl, rfl, hwp _ _, ?_⟩
    refine (et_test (ev_op (ev_var (i := 11) (hwk _ _)) ev_c (rv_eq rfl))) _ (Ex.refl _) _ fun G3 e3 => ?_
    by_cases hB : F z = s0
    · rw [hB, decide_eq_true rfl, if_pos rfl]
      have c2' := e3 _ _ (eT _ _ c2)
      have tl := Tx.lst (o := .lst (acc ++ [x1])) c2'
      refine ⟨x1, hwj _ _, acc, c2', sz_lt (by omega), Ex.mut ((c1.trans eT).trans e3) hD, acc ++ [x1], upd_same, by rw [List.length_append, List.length_singleton]; omega, fun y hy => ?_⟩
      rcases List.mem_append.mp hy with hy | hy
      · obtain ⟨z', a1, a2, a3⟩ := c4 y hy
        exact ⟨z', a1, (a2.ext (eT.trans e3)).tx tl, a3⟩
      · obtain rfl : y = x1 := by simpa using hy
        exact ⟨z, List.mem_of_getElem? hz1, (hwz.ext e3).tx tl, hB⟩
    · rw [decide_eq_false (fun q => hB (V.str.inj q)), if_neg (by decide)]
      refine ⟨(c1.trans eT).trans e3, acc, e3 _ _ (eT _ _ c2), by omega, fun y hy => ?_⟩
      obtain ⟨z', a1, a2, a3⟩ := c4 y hy
      exact ⟨z', a1, a2.ext (eT.trans e3), a3⟩
  · rintro G ⟨c1, acc, c2, c3, c4⟩
    exact q Dl acc G hD c1 c2 ⟨by omega, c4⟩
theorem for1 {te : TE} {g : TG} {tb : TS} {D : Ends} (h : te σ H fun x H1 => ∃ a, x = V.ref a ∧ (∃ xs, SqL K H1 a xs) ∧ tForI (Itl K a) g tb D σ H1) : tFor (iList K te) g tb D σ H := h
theorem ev_allL {bs : List Bool} (h : EvL te σ H (bs.map V.bl)) : Ev (tCB (rAll K) (tCons te tNil)) σ H (.bl (bs.all id)) := fun H1 e Q q => h H1 e _ fun p H2 _ e2 h2 => ⟨p, bs, rfl, sq_of h2, q H2 e2⟩
end
section
variable {P : Program} {w : World} {K : PySem.W.Frag} {mg : Str → Option Value} {base : Heap} {C f : Addr} {cdv : Value} {A : Around} {outer : List Env} {s : Shared} {HX : Hp}
theorem hi2 (T : T28 P w K mg base) (hr : Room 43 (XH P w K mg base f cdv A outer s HX).A) : ∃ t, PS (XH P w K mg base f cdv A outer s HX) (inH 2) t ∧
    ∀ (D : Ends) (G : Hp) (c0 c1 c6 c7 c8 c9 c10 c11 : Option V) (a l l5 : Addr) (xs us : List V) (rs : List (Str × Int)) (u : V) (y : W) (zs : List W), G a = some (.lst xs) → OVs G xs (rs.map rowO) → Al rs → G l = some (.lst us) → WVs G us zs → us.length ≤ 100 → (∀ z ∈ zs, Hw z) → WV G u y → Hw y → G l5 = some (.lst ((zs.map (cmpS rs y)).map V.str)) →
      (∀ J c6' c7', Ex G J → D.nx [c0, c1, some (.ref a), some (.ref l), some u, some (.ref l5), c6', c7', c8, c9, c10, c11] J) →
      t D [c0, c1, some (.ref a), some (.ref l), some u, some (.ref l5), c6, c7, c8, c9, c10, c11] G := by
  obtain ⟨fD, dD, GD, bD, kD, mD⟩ := (ok_due T).ex
  refine ⟨_, ps_for PassesOwn.never rfl (pi_list (pe_lc (own := [("_law_word", 10), ("_law_how", 11)]) (g := gPair K 10 11) (tt := tTest (tOp rEq (tVar 11) (tC (.str "above")))) (te := tVar 10) rfl sc_ho.nd (RZ.pi_zipA (by rfl) T.zip (pa_cons (pv 3) (pa_cons (pv 5) pa_nil))) (blkOk_by (N := nHo) (sc := defScope s__law_handed_on) (by decide +kernel))
      (fun _ _ _ _ _ => pg_tup rfl (pgs_cons (pg_name (i := 10) sc_ho.nd rfl (Or.inl rfl)) (pgs_cons (pg_name (i := 11) sc_ho.nd rfl (Or.inl rfl)) pgs_nil))) (fun _ _ _ _ _ => pts_one (pt_cmpR op_eq (pv 11) pe_str (nomark _))) (fun _ _ _ _ _ => pv 10))) (pg_name (i := 6) sc_ho.nd rfl (by first | exact Or.inl rfl | exact Or.inr rfl))
    (pss_cons (ps_setLc (i := 7) (own := [("_law_word", 10)]) (g := gName 10) (tt := tTest (tOp rEq (tCall spDue [] E0 (tCons (tVar 2) (tCons (tVar 6) (tCons (tVar 10) tNil)))) (tC (.str "above")))) (te := tVar 10) (by rfl) sc_ho.nd rfl rfl (sw_true rfl rfl rfl (by decide +kernel)) (pi_list (pv 3)) (blkOk_by (N := nHo) (sc := defScope s__law_handed_on) (by decide +kernel))
      (fun _ _ _ _ _ => pg_name (i := 10) sc_ho.nd rfl (Or.inl rfl)) (fun _ _ _ _ _ => pts_one (pt_cmpR op_eq (pe_call GD (hr.mono (by decide)) (by rfl) mD kD bD .nil pass0 (pa_cons (pv 2) (pa_cons (pv 6) (pa_cons (pv 10) pa_nil)))) pe_str (nomark _))) (fun _ _ _ _ _ => pv 10))
    (pss_one (ps_if (pt_not (pt_val (pe_callB (cr_all rfl) (by rfl) T.all (by decide +kernel) (pa_cons (pe_lc (own := [("_law_word", 10)]) (g := gName 10) (tt := tYes) (te := tOp rEq (tCall spDue [] E0 (tCons (tVar 2) (tCons (tVar 4) (tCons (tVar 10) tNil)))) (tC (.str "above"))) rfl sc_ho.nd (pi_list (pv 7)) (blkOk_by (N := nHo) (sc := defScope s__law_handed_on) (by decide +kernel))
      (fun _ _ _ _ _ => pg_name (i := 10) sc_ho.nd rfl (Or.inl rfl)) (fun _ _ _ _ _ => pts_nil) (fun _ _ _ _ _ => pe_cmpR op_eq (pe_call GD (hr.mono (by decide)) (by rfl) mD kD bD .nil pass0 (pa_cons (pv 2) (pa_cons (pv 4) (pa_cons (pv 10) pa_nil)))) pe_str (nomark _))) pa_nil)))) (pss_one ps_never) pss_nil))), ?_⟩
  intro D G c0 c1 c6 c7 c8 c9 c10 c11 a l l5 xs us rs u y zs ha hR A hl hw hz hzs hu hy h5 k
  refine for1 (el_zipW (K := K) (σ := [c0, c1, some (.ref a), some (.ref l), some u, some (.ref l5), c6, c7, c8, c9, c10, c11]) (cmpS rs y) "above" rfl rfl hl hw h5 (by omega) (fun _ _ => rfl) (fun _ _ => rfl) (fun _ _ => rfl) G (Ex.refl _) _ fun pz vs2 G1 npz e1 hpz ⟨hv1, hv2⟩ => ?_)
  refine ⟨pz, rfl, ⟨_, sq_of hpz⟩, for_list (xs := vs2) (fun i σ' J => (∃ c6' c7' : Option V, σ' = [c0, c1, some (.ref a), some (.ref l), some u, some (.ref l5), c6', c7', c8, c9, c10, c11]) ∧ Ex G1 J) ⟨⟨_, _, rfl⟩, Ex.refl _⟩ (fun i σ' J _ c => sq_of (c.2 _ _ hpz)) ?_ ?_⟩
  · rintro i x σ' J hx ⟨⟨c6', c7', rfl⟩, eJ⟩
    obtain ⟨z2, hz2, hwx, habv⟩ := hv2 x (List.mem_of_getElem? hx)
    have e0 := e1.trans eJ
    have hwx := hwx.ext eJ
    have h2 := hzs z2 hz2
    unfold gName
    dsimp only
    refine q_asgLP (i := 7) (el_filW (K := K) (tl := tVar 3) (σ := [c0, c1, some (.ref a), some (.ref l), some u, some (.ref l5), some x, c7', c8, c9, c10, c11]) (j := 10) (tt := tTest (tOp rEq (tCall spDue [] E0 (tCons (tVar 2) (tCons (tVar 6) (tCons (tVar 10) tNil)))) (tC (.str "above")))) (fun z => decide (V.str (cmpS rs z2 z) = V.str "above")) (ev_var (i := 3) rfl) (e0 _ _ hl) (WVs.ext e0 hw) (by omega) (fun _ => rfl) (fun _ => rfl) (fun x3 z3 G3 e3 hz3 hw3 => et_test (ev_op (x := .str (cmpS rs z2 z3)) (ev_call (ea_cons (ev_var (i := 2) rfl) (ea_cons (ev_var (i := 6) rfl) (ea_cons (ev_var (i := 10) rfl) ea_nil))) fun G4 e4 Q q E => ⟨a, xs, rs, x, x3, z2, z3, rfl, ((e0.trans e3).trans e4) _ _ ha, hR.ext ((e0.trans e3).trans e4), A.ok, hwx.ext (e3.trans e4), hw3.ext e4, h2.dz.ww A.all h2.dw.ar, (hzs z3 hz3).dz.ww A.all (hzs z3 hz3).dw.ar, q⟩) ev_c (rv_eq rfl)))) fun p7 xs7 J2 np7 e2 h7 ⟨g1, g2⟩ => ?_
    have e02 := e0.trans e2
    refine s_when (b := false) (et_not (a := true) (et_B (ev_is (ev_allL (bs := List.replicate xs7.length true) ?_) (by rw [all_true])))) (fun z => nomatch z) fun _ J3 e3 => ⟨⟨_, _, rfl⟩, (eJ.trans e2).trans e3⟩
    refine el_true (K := K) (tl := tVar 7) (σ := [c0, c1, some (.ref a), some (.ref l), some u, some (.ref l5), some x, some (.ref p7), c8, c9, c10, c11]) (j := 10) (te := tOp rEq (tCall spDue [] E0 (tCons (tVar 2) (tCons (tVar 4) (tCons (tVar 10) tNil)))) (tC (.str "above"))) (ev_var (i := 7) rfl) h7 g1 (fun _ => rfl) fun x3 G3 e3 hx3 => ?_
    obtain ⟨z3, hz3, hw3, hB⟩ := g2 x3 hx3
    have hB : cmpS rs z2 z3 = "above" := V.str.inj (of_decide_eq_true hB)
    have h3 := hzs z3 hz3
    have htr : cmpS rs y z3 = "above" := cmp_of (abv_trans (y.dp + 1) y z2 z3 (Nat.lt_succ_self _) hy.dw.ar h2.dw.ar h3.dw.ar (cmp_above habv) (cmp_above hB))
    refine ev_is (ev_op (x := .str (cmpS rs y z3)) (ev_call (ea_cons (ev_var (i := 2) rfl) (ea_cons (ev_var (i := 4) rfl) (ea_cons (ev_var (i := 10) rfl) ea_nil))) fun G4 e4 Q q E => ⟨a, xs, rs, u, x3, y, z3, rfl, ((e02.trans e3).trans e4) _ _ ha, hR.ext ((e02.trans e3).trans e4), A.ok, hu.ext ((e02.trans e3).trans e4), hw3.ext (e3.trans e4), hy.dz.ww A.all hy.dw.ar, h3.dz.ww A.all h3.dw.ar, q⟩) ev_c (rv_eq rfl)) (by rw [htr, decide_eq_true rfl])
  · rintro σ' J ⟨⟨c6', c7', rfl⟩, eJ⟩
    exact k J c6' c7' (e1.trans eJ)
end
end K28

set_option Elab.async false
set_option linter.all false
set_option maxRecDepth 100000
set_option maxHeartbeats 4000000
/-! _law_handed_on, whole. -/
namespace K28
open PySem PySem.Spec PyProof.Rows L2 Evl LamX
section
variable {P : Program} {w : World} {K : PySem.W.Frag} {mg : Str → Option Value} {base : Heap} {C : Addr}
def spHo (C : Addr) : Sp := fun vs H Q _ => ∃ (p q o a dr : Addr) (xs : List V) (rs : List (Str × Int)) (n : Int), vs = [.ref p, .ref o, .ref a] ∧ Spr H p q n ∧ n + 1000 ≤ 90000 ∧ Sg C H p q a o dr xs rs ∧ Al rs ∧
  ∀ (G : Hp) (n' : Int), Spr G p q n' → n' ≤ n + 300 → But p q H G → Q (.bl true) G
theorem ok_handed (T : TO P w K mg base C) : Ok P w K mg base CX0 "_law_handed_on" ["_law_stream", "_law_order", "_law_rows"] 44 (spHo C) := by
  refine T.toT28.ok 53 rfl sc_ho (fun vs H Q E h => ?_) (fun kV doc pm an cdv ct us hl => match us, hl with | [_, _, _], _ => rfl) (fun f cdv A outer s H vs Q E hr h => ?_)
  · obtain ⟨p, q, o, a, dr, xs, rs, n, rfl, _⟩ := h
    rfl
  · obtain ⟨p, q, o, a, dr, xs, rs, n, rfl, S, hn, G0, A0, k⟩ := h
    obtain ⟨t0, p0, h0⟩ := hb0 (HX := H) (f := f) (cdv := cdv) (A := A) (outer := outer) (s := s) T.toT28 hr
    obtain ⟨t1, p1, h1⟩ := hi0 (HX := H) (f := f) (cdv := cdv) (A := A) (outer := outer) (s := s) T.toT28 hr
    obtain ⟨t2, p2, h2⟩ := hi1 (HX := H) (f := f) (cdv := cdv) (A := A) (outer := outer) (s := s) T hr
    obtain ⟨t3, p3, h3⟩ := hi2 (HX := H) (f := f) (cdv := cdv) (A := A) (outer := outer) (s := s) T.toT28 hr
    refine ⟨_, pss_cons p0 (pss_cons (ps_for PassesOwn.never rfl (pi_list (pv 3)) (pg_name (i := 4) sc_ho.nd rfl (by first | exact Or.inl rfl | exact Or.inr rfl)) (pss_cons p1 (pss_cons p2 (pss_one p3)))) (pss_one (ps_ret pe_bl))), ?_⟩
    refine h0 _ H (some (.ref o)) (some (.ref a)) none none none none none none none none none p q n S (by omega) fun J l us zs n' B SJ hnJ hl hw hz hzs => ?_
    have GJ := G0.but B S
    refine q_forL (xs := us) (ev_var rfl) (sq_of hl) (fun i σ' J' => Ex J J' ∧ ∃ c4 c5 c6 c7 c8 c9 c10 c11 : Option V, σ' = [some (.ref p), some (.ref o), some (.ref a), some (.ref l), c4, c5, c6, c7, c8, c9, c10, c11]) ?_ ?_ ?_ ?_
    · intro J2 e2
      exact ⟨e2, _, _, _, _, _, _, _, _, rfl⟩
    · rintro i σ' J' hi ⟨e, _⟩
      exact sq_of (e _ _ hl)
    · rintro i x σ' J' hx ⟨e, c4, c5, c6, c7, c8, c9, c10, c11, rfl⟩
      obtain ⟨y, hy, hxy⟩ := (hw.ext e).getv hx
      have hyw := hzs y (List.mem_of_getElem? hy)
      have Ge := GJ.ext e
      refine h1 _ _ _ _ _ _ _ _ _ _ _ a l xs us rs x y zs Ge.a1 Ge.a2 A0 (e _ _ hl) (hw.ext e) hz hzs hxy hyw fun J3 l5 e3 h5 => ?_
      have e3' := e.trans e3
      have Ge3 := GJ.ext e3'
      refine h2 _ _ _ _ _ _ _ _ _ _ o dr l l5 us rs x y zs Ge3.od A0 (e3' _ _ hl) (hw.ext e3') hz hzs (hxy.ext e3) hyw h5 fun J4 e4 => ?_
      have e4' := e3'.trans e4
      have Ge4 := GJ.ext e4'
      refine h3 _ _ _ _ _ _ _ _ _ _ a l l5 xs us rs x y zs Ge4.a1 Ge4.a2 A0 (e4' _ _ hl) (hw.ext e4') hz hzs (hxy.ext (e3.trans e4)) hyw (e4 _ _ h5) fun J5 c6' c7' e5 => ?_
      exact ⟨e4'.trans e5, _, _, _, _, _, _, _, _, rfl⟩
    · rintro σ' J' ⟨e, c4, c5, c6, c7, c8, c9, c10, c11, rfl⟩
      exact k J' n' (SJ.ext e) (by omega) (B.trans (But.of e))
end
end K28

set_option Elab.async false
set_option linter.all false
set_option maxRecDepth 100000
set_option maxHeartbeats 4000000
/-! _law_order_right, whole. -/
namespace K28
open PySem PySem.Spec PyProof.Rows L2 Evl LamX
theorem rows_strips : ∀ rs : List (Str × Int), O.strips (rs.map rowO) = rs.map rowO
  | [] => rfl
  | r :: rs => by
    show (rowO r).strip :: O.strips (rs.map rowO) = _
    rw [rows_strips rs]
    rfl
theorem rows_szs : ∀ rs : List (Str × Int), O.szs (rs.map rowO) = 3 * rs.length
  | [] => rfl
  | r :: rs => by
    show (rowO r).sz + O.szs (rs.map rowO) = _
    rw [rows_szs rs, List.length_cons]
    show 3 + _ = _
    omega
theorem rows_dps : ∀ rs : List (Str × Int), O.dps (rs.map rowO) ≤ 1
  | [] => Nat.zero_le _
  | r :: rs => Nat.max_le.mpr ⟨Nat.le_refl _, rows_dps rs⟩
theorem rows_hx {p q : Addr} {G : Hp} {n : Int} (S : Spr G p q n) : ∀ {rs : List (Str × Int)} {xs : List V}, OVs G xs (rs.map rowO) → OVs (Hx (PQ p q) G) xs (rs.map rowO)
  | [], _, h => h
  | r :: rs, _, h => by
    obtain ⟨v, us, rfl, h1, h2⟩ := h
    obtain ⟨t, ws, rfl, ht, hov⟩ := h1
    obtain ⟨sx, sy, hp, hq⟩ := S.lst
    have n1 : ¬ PQ p q t := fun z => by
      rcases z with rfl | rfl
      · rw [hp] at ht; cases ht
      · rw [hq] at ht; cases ht
    exact .cons ⟨t, ws, rfl, hx_of n1 tup_tbl ht, hov⟩ (rows_hx S h2)
section
variable {K : PySem.W.Frag} {C : Addr}
/-- an order is made of right rows, at a heap -/
theorem mk_at {E : XK} {Q : VK} {v : V} {G : Hp} {o : O} {rs : List (Str × Int)} (ho : OV G v o) (hs : o.strip = rowsO rs) (R : RowsOk rs) (k : ∀ (x dr : Addr) (J : Hp), G dr = none → Ex G J → OrdAt C J x dr rs → Q (.ref x) J) :
    ∀ x dx, G x = none → G dx = none → dx ≠ x → spInit K C (.ref x :: [v]) (upd (upd G dx (.own x)) x (.ins C dx [])) (fun v H2 => v = .non ∧ Q (.ref x) H2) E := fun x dx nx ndx hne => by
  have e1 : Ex G (upd G dx (.own x)) := Ex.new ndx
  have nx1 : (upd G dx (.own x)) x = none := by rw [upd_ne hne.symm]; exact nx
  have e2 : Ex G (upd (upd G dx (.own x)) x (.ins C dx [])) := e1.trans (Ex.new nx1)
  refine ⟨x, dx, v, o, rfl, upd_same, ho.ext e2, (rows_ss R hs).1, by rw [(rows_ss R hs).2]; have := R.len; omega, .inr ⟨rs, hs, R, fun J dr hO ndr hk => ⟨rfl, k x dr J ?_ (fun b u hb => ?_) hO⟩⟩⟩
  · cases q : G dr with
    | none => rfl
    | some u => rw [e2 _ _ q] at ndr; cases ndr
  · exact hk b u (e2 _ _ hb) (ne_of_none hb nx)
end
section
variable {P : Program} {w : World} {K : PySem.W.Frag} {mg : Str → Option Value} {base : Heap} {C f : Addr} {cdv : Value} {A : Around} {outer : List Env} {s : Shared} {HX : Hp}
theorem ob0 (T : TO P w K mg base C) (hr : Room 45 (XO P w K mg base f cdv A outer s HX).A) : ∃ t, PS (XO P w K mg base f cdv A outer s HX) (stO 0) t ∧
    ∀ (D : Ends) (G : Hp) (c2 c3 c4 c5 c6 c7 c8 c9 c10 c11 c12 c13 : Option V) (p q a : Addr) (n : Int) (xs : List V) (rs : List (Str × Int)), Spr G p q n → n + 100 ≤ 90000 → G a = some (.lst xs) → OVs G xs (rs.map rowO) → a ≠ p → a ≠ q → Al rs →
      (∀ (o dr : Addr) (J : Hp) (n' : Int), Spr J p q n' → n' ≤ n + 100 → But p q G J → Sg C J p q a o dr xs rs → D.nx [some (.ref p), some (.ref a), some (.ref o), c3, c4, c5, c6, c7, c8, c9, c10, c11, c12, c13] J) →
      t D [some (.ref p), some (.ref a), c2, c3, c4, c5, c6, c7, c8, c9, c10, c11, c12, c13] G := by
  obtain ⟨fL, dL, GL, bL, kL, mL⟩ := (ok_loose2 T.toT28 5).ex
  obtain ⟨fI, fdI, M, FI⟩ := T.mkI
  have GI := ok_oinit T FI
  have bI := FI.bindsN (ps := ["self", "rows"]) fun kV doc pm an cdv ct us hl => match us, hl with | [_, _], _ => rfl
  refine ⟨_, ps_set (i := 2) sc_or.nd rfl (by first | exact Or.inl rfl | exact Or.inr rfl) (pe_makeS (sp := spInit K C) M GI (hr.mono (by decide)) (by rfl) T.mgO bI (fun σ => passAt L2.takes0 σ) (pa_cons (pe_call GL (hr.mono (by decide)) (by rfl) mL kL bL .nil pass0 (pa_cons (pv 0) (pa_cons (pv 1) pa_nil))) pa_nil)), ?_⟩
  intro D G c2 c3 c4 c5 c6 c7 c8 c9 c10 c11 c12 c13 p q a n xs rs S hn ha hov np nq A k
  have hz : (O.lst (rs.map rowO)).sz ≤ 100 := by
    show O.szs _ + 1 ≤ 100
    rw [rows_szs]
    have := A.ok.len
    omega
  have hd : (O.lst (rs.map rowO)).dp < 5 := by
    show O.dps _ + 1 < 5
    have := rows_dps rs
    omega
  have npq : ¬ PQ p q a := fun z => z.elim np nq
  refine ⟨.ref p, rfl, .ref a, rfl, p, q, .ref a, n, .lst (rs.map rowO), rfl, S, by omega, ⟨a, xs, rfl, hx_of npq lst_tbl ha, rows_hx S hov⟩, hd, by omega, fun r J n' o' SJ hn' B hov' hst => ?_⟩
  have hv : OV J r o' := hov'.ext hx_ex
  have hs : o'.strip = rowsO rs := by
    rw [hst]
    show O.tup (O.strips _) = _
    rw [rows_strips]
    rfl
  refine mk_at (Q := fun x H1 => gName 2 x [some (.ref p), some (.ref a), c2, c3, c4, c5, c6, c7, c8, c9, c10, c11, c12, c13] H1 D.nx) hv hs A.ok fun x dr J2 ndr e2 hO => ?_
  obtain ⟨d1, d2⟩ := SJ.nep ndr
  have B2 := B.trans (But.of e2)
  exact k x dr J2 n' (SJ.ext e2) (by omega) B2 ⟨B2 _ _ np nq ha, OVs.tx (S.tx B2) (rows_noL _) (rows_nod _) hov, np, nq, hO, d1, d2⟩
def spOr : Sp := fun vs H Q _ => ∃ (p q a : Addr) (xs : List V) (rs : List (Str × Int)) (n : Int), vs = [.ref p, .ref a] ∧ Spr H p q n ∧ n + 12000 ≤ 90000 ∧ H a = some (.lst xs) ∧ OVs H xs (rs.map rowO) ∧ a ≠ p ∧ a ≠ q ∧ Al rs ∧
  ∀ (G : Hp) (n' : Int), Spr G p q n' → n' ≤ n + 12000 → But p q H G → Q (.bl true) G
theorem ok_order_right (T : TO P w K mg base C) : Ok P w K mg base CX0 "_law_order_right" ["_law_stream", "_law_rows"] 46 spOr := by
  obtain ⟨fH, dH, GH, bH, kH, mH⟩ := (ok_handed T).ex
  refine T.toT28.ok 52 rfl sc_or (fun vs H Q E h => ?_) (fun kV doc pm an cdv ct us hl => match us, hl with | [_, _], _ => rfl) (fun f cdv A outer s H vs Q E hr h => ?_)
  · obtain ⟨p, q, a, xs, rs, n, rfl, _⟩ := h
    rfl
  · obtain ⟨p, q, a, xs, rs, n, rfl, S, hn, ha, hov, np, nq, A0, k⟩ := h
    obtain ⟨tb, pb, hb⟩ := ob0 (HX := H) (f := f) (cdv := cdv) (A := A) (outer := outer) (s := s) T hr
    obtain ⟨t0, p0, h0⟩ := oi0 (HX := H) (f := f) (cdv := cdv) (A := A) (outer := outer) (s := s) T.toT28 hr
    obtain ⟨t1, p1, h1⟩ := oi1 (HX := H) (f := f) (cdv := cdv) (A := A) (outer := outer) (s := s) T.toT28 hr
    obtain ⟨t2, p2, h2⟩ := oi2 (C := C) (HX := H) (f := f) (cdv := cdv) (A := A) (outer := outer) (s := s) T.toT28 hr
    obtain ⟨t3, p3, h3⟩ := oi3 (HX := H) (f := f) (cdv := cdv) (A := A) (outer := outer) (s := s) T hr
    obtain ⟨t4, p4, h4⟩ := oi4 (HX := H) (f := f) (cdv := cdv) (A := A) (outer := outer) (s := s) T.toT28 hr
    obtain ⟨t5, p5, h5⟩ := oi5 (HX := H) (f := f) (cdv := cdv) (A := A) (outer := outer) (s := s) T.toT28 hr
    obtain ⟨t6, p6, h6⟩ := oi6 (HX := H) (f := f) (cdv := cdv) (A := A) (outer := outer) (s := s) T.toT28 hr
    obtain ⟨t7, p7, h7⟩ := oi7 (HX := H) (f := f) (cdv := cdv) (A := A) (outer := outer) (s := s) T hr
    obtain ⟨t8, p8, h8⟩ := oi8 (HX := H) (f := f) (cdv := cdv) (A := A) (outer := outer) (s := s) T hr
    obtain ⟨t9, p9, h9⟩ := oi9 (HX := H) (f := f) (cdv := cdv) (A := A) (outer := outer) (s := s) T hr
    refine ⟨_, pss_cons pb (pss_cons (ps_for PassesOwn.never rfl (pi_range1 (by rfl) T.range (pa_cons pe_int pa_nil)) (pg_name (i := 3) sc_or.nd rfl (by first | exact Or.inl rfl | exact Or.inr rfl)) (pss_cons p0 (pss_cons p1 (pss_cons p2 (pss_cons p3 (pss_cons p4 (pss_cons p5 (pss_cons p6 (pss_cons p7 (pss_cons p8 (pss_one p9)))))))))))
      (pss_one (ps_ret (pe_call GH (hr.mono (by decide)) (by rfl) mH kH bH .nil pass0 (pa_cons (pv 0) (pa_cons (pv 2) (pa_cons (pv 1) pa_nil))))))), ?_⟩
    refine hb _ H none none none none none none none none none none none none p q a n xs rs S (by omega) ha hov np nq A0 fun o dr J n1 SJ hn1 BJ GJ => ?_
    refine s_forR1 (n := 12) (ea_cons ev_c ea_nil) (by decide) (fun i σ' G' => (∃ c3 c4 c5 c6 c7 c8 c9 c10 c11 c12 c13 : Option V, σ' = [some (.ref p), some (.ref a), some (.ref o), c3, c4, c5, c6, c7, c8, c9, c10, c11, c12, c13]) ∧ ∃ n', Spr G' p q n' ∧ n' ≤ n + 100 + 800 * (i : Nat) ∧ Sg C G' p q a o dr xs rs ∧ But p q H G') ?_ ?_ ?_
    · intro G1 e1
      exact ⟨⟨_, _, _, _, _, _, _, _, _, _, _, rfl⟩, n1, SJ.ext e1, by omega, GJ.ext e1, BJ.trans (But.of e1)⟩
    · rintro i σ' G' hi ⟨⟨c3, c4, c5, c6, c7, c8, c9, c10, c11, c12, c13, rfl⟩, n', S', hn', g', B'⟩
      have hi' : (i : Int) < 12 := by omega
      refine h0 _ G' _ _ _ _ _ _ _ _ _ _ _ _ _ p q n' S' (by omega) fun va J0 vs S0 B0 V0 => ?_
      refine h1 _ J0 _ _ _ _ _ _ _ _ _ _ _ _ p q va (n' + 1) vs S0 (by omega) V0 fun u v J1 n2 y z hu hv ty tz S1 hn2 B1 => ?_
      have g1 := (g'.but B0 S').but B1 S0
      have V1 := V0.but B1
      refine h2 _ J1 _ _ _ _ _ _ _ _ _ _ p q a o dr xs rs u v y z vs g1 A0 hu hv ty tz fun J2 e2 => ?_
      refine h3 _ J2 _ _ _ _ _ _ _ _ _ p q a o dr n2 xs rs u v y z vs (g1.ext e2) A0 (hu.ext e2) (hv.ext e2) ty tz (S1.ext e2) (by omega) fun J3 lf n3 B3 S3 hn3 l1 l2 hlf => ?_
      have g3 := (g1.ext e2).but B3 (S1.ext e2)
      have tx3 := (S1.ext e2).tx B3
      refine h4 _ J3 _ _ _ _ _ _ _ _ _ _ _ _ _ (cmpS rs y z) fun J4 e4 => ?_
      have V4 := (V1.but (But.of e2)).but (B3.trans (But.of e4))
      rw [cmp_back ty.ar tz.ar] at hlf
      refine h5 _ J4 _ _ _ _ _ _ _ _ _ _ p q va lf vs (cmpS rs y z) V4 (e4 _ _ hlf) (fun hnil => ?_) fun J5 e5 => ?_
      · subst hnil
        exact cmp_ground ty.ar tz.ar (vin_nil y ty.vin) (vin_nil z tz.vin) (ar_fu A0.all y ty.ar) (ar_fu A0.all z tz.ar)
      have e45 := e4.trans e5
      refine h6 _ J5 _ _ _ _ _ _ _ _ _ _ _ _ _ p q n3 (S3.ext e45) (by omega) fun J6 d n4 z1 z2 B6 S6 hn4 hP => ?_
      have g6 := (g3.ext e45).but B6 (S3.ext e45)
      have tx6 := (S3.ext e45).tx B6
      have hu6 := ((((hu.ext e2).tx tx3).ext e45).tx tx6)
      have hv6 := ((((hv.ext e2).tx tx3).ext e45).tx tx6)
      refine h7 _ J6 _ _ _ _ _ _ _ _ _ p q a o dr d xs rs u v y z z1 z2 vs g6 A0 hu6 hv6 ty tz hP fun J7 e7 => ?_
      refine h8 _ J7 _ _ _ _ _ _ _ _ _ _ p q a o dr xs rs u v y z vs (g6.ext e7) A0 (hu6.ext e7) (hv6.ext e7) ty tz fun J8 e8 => ?_
      have e78 := e7.trans e8
      refine h9 _ J8 _ _ _ _ _ _ _ _ _ _ _ _ p q a o dr xs rs u y vs (g6.ext e78) A0 (hu6.ext e78) ty fun J9 c11' c12' e9 => ?_
      have e79 := e78.trans e9
      refine ⟨⟨_, _, _, _, _, _, _, _, _, _, _, rfl⟩, n4, S6.ext e79, by omega, g6.ext e79, ?_⟩
      exact ((((((B'.trans B0).trans B1).trans (But.of e2)).trans B3).trans (But.of e45)).trans B6).trans (But.of e79)
    · rintro σ' G' ⟨⟨c3, c4, c5, c6, c7, c8, c9, c10, c11, c12, c13, rfl⟩, n', S', hn', g', B'⟩
      exact ⟨.ref p, rfl, .ref o, rfl, .ref a, rfl, p, q, o, a, dr, xs, rs, n', rfl, S', by omega, g', A0, fun G2 n2 S2 hn2 B2 => k G2 n2 S2 (by omega) (B'.trans B2)⟩
end
end K28

set_option Elab.async false
set_option linter.all false
set_option maxRecDepth 100000
set_option maxHeartbeats 4000000
/-! What is refused: lambdas asked, pairs told. -/
namespace K28
open PySem PySem.Spec PyProof.Rows L2 Evl LamX
def tabT (K : PySem.W.Frag) : List (Addr × Str) := tf.map fun p => ((He.cT K p).2, (p.1 ++ ("." : Str) ++ ("<locals>." : Str)) ++ ("<lambda>" : Str))
/-- the table of the def that makes lambdas -/
structure TabF (K : PySem.W.Frag) (mg : Str → Option Value) (base : Heap) : Prop where
  tb : ∀ p ∈ tf, TabB base mg (He.cT K p).1 (He.cT K p).2
theorem cod_lst {c : Addr} {q : Str} {xs : List V} : CodeO c q ≠ .lst xs := fun z => by
  unfold CodeO at z
  cases z
theorem cod_dk {c : Addr} {q : Str} {xs : List (Key × V)} : CodeO c q ≠ .dK xs := fun z => by
  unfold CodeO at z
  cases z
theorem tabs_but {T : List (Addr × Str)} {H G : Hp} {p q : Addr} {n : Int} (h : Tabs T H) (B : But p q H G) (S : Spr H p q n) : Tabs T G := fun z hz => by
  obtain ⟨xs, ys, hp, hq⟩ := S.lst
  obtain ⟨ps, y1, y2, y3⟩ := h z hz
  refine ⟨ps, ?_, y2, fun pos cv hc => ?_⟩
  · exact B _ _ (fun e => by rw [e, hp] at y1; cases y1) (fun e => by rw [e, hq] at y1; cases y1) y1
  · obtain ⟨c, c1, c2⟩ := y3 pos cv hc
    exact ⟨c, c1, B _ _ (fun e => by rw [e, hp] at c2; exact absurd (Option.some.inj c2).symm cod_lst) (fun e => by rw [e, hq] at c2; exact absurd (Option.some.inj c2).symm cod_lst) c2⟩
theorem tabs_put {T : List (Addr × Str)} {G : Hp} {p : Addr} {L L' : List V} (h : Tabs T G) (gp : G p = some (.lst L)) : Tabs T (upd G p (.lst L')) := fun z hz => by
  obtain ⟨ps, y1, y2, y3⟩ := h z hz
  refine ⟨ps, ?_, y2, fun pos cv hc => ?_⟩
  · rw [upd_ne fun q => by rw [q, gp] at y1; cases y1]
    exact y1
  · obtain ⟨c, c1, c2⟩ := y3 pos cv hc
    refine ⟨c, c1, ?_⟩
    rw [upd_ne fun q => by rw [q, gp] at c2; exact absurd (Option.some.inj c2).symm cod_lst]
    exact c2
section
variable {X : Cx}
/-- _law_d_met(lambda: ..) -/
theorem pe_met {c Pt : Addr} {k : Nat} {params : Arguments} {body : Expr} {scope : Scope} {t : XK → TE} {p lpos pos : Pos} (T : T28 X.prog X.w X.K X.mg X.base) (hg : Gl X "_law_d_met") (TB : TabB X.base X.mg c Pt) (hcode : X.env.code = .ref c)
    (hm : (Pt, X.env.qual ++ "<lambda>") ∈ tabT X.K) (hr : Room (k + 2) X.A) (L : LamS X.env.scope scope) (hdef : defaultsOf params X.env = ([], []))
    (hbind : ∀ (q : Str) (cl : List (Str × Addr)) (pm cv ctv : Value), bindArgs (PySem.W.kla_fn "<lambda>" q params body scope cl pm cv ctv) ⟨[], []⟩ = pure [])
    (hbody : ∀ (A : Around) (outer : List Env) (s : Shared) (H : Hp) (E : XK) (f c' : Addr), Room k (A.deeper (lamEnv X scope s.heap.objs.size f c')) → PE (lamCx X A outer s H E scope f c') body (t E)) :
    PE X (.Call (.Name "_law_d_met" p) [.Lambda params body scope lpos] [] pos) (tLam (tabT X.K) (TTmet X.K) t) := by
  obtain ⟨⟨fd, F⟩, m⟩ := T.df 39 "_law_d_met" s__law_d_met rfl
  have hb := F.bindsN (ps := ["_law_ask"]) fun kV doc pm an cdv ct us hl => match us, hl with | [_], _ => rfl
  obtain ⟨oc, od, dV, kV, doc, pm, an, cdv, ct, osl, rfl, lk, hcd, _, _⟩ := F.ex
  have hu : ∀ p ∈ tabT X.K, p.1 = Pt → p.2 = X.env.qual ++ "<lambda>" := fun p hp e => by
    have h1 : tabT X.K = [((He.cT X.K ("_law_refused_right", none)).2, ("_law_refused_right.<locals>.<lambda>" : Str))] := rfl
    rw [h1] at hp hm
    obtain rfl := List.mem_singleton.mp hp
    exact ((Prod.mk.inj (List.mem_singleton.mp hm)).2).symm
  exact pe_lamcall hg m F.kp lk hcd hb sc_me rfl (.inl rfl) (met_gives T) TB hcode hm hu hr L hdef hbind hbody
end
/-- what is asked meets x's error, which keeps v as z -/
theorem lam_bad {T : List (Addr × Str)} {K : PySem.W.Frag} {t : XK → TE} {σ : L2.St} {H : Hp} {Q : VK} {x z s : Str} {v : V} (hx : (x, z, s) ∈ mets) (hT : Tabs T H)
    (ht : ∀ (H1 : Hp) (E : XK) (Q' : VK), ExtN H H1 → BadZ K x z v H1 E → t E σ H1 Q')
    (k : ∀ (a : Addr) (G : Hp), ExtN H G → Tabs T G → G a = some (.tup [.str s, v]) → Q (.ref a) G) : tLam T (TTmet K) t σ H Q := by
  refine ⟨hT, fun H1 e1 T1 => ht H1 _ _ e1 fun d G e hd => ⟨(x, z, s), hx, rfl, d, v, rfl, hd, by show 2 ≤ sizeLine; rw [sizeLine_eq]; omega, fun a ha => ?_⟩⟩
  have x2 : Ex G (upd G a (.tup [.str s, v])) := Ex.new ha
  exact k a _ ((e1.trans (ExtN.of e)).trans (ExtN.of x2)) ((T1.ext e).ext x2) upd_same
mutual
theorem OV.hxn {H : Hp} : ∀ {o : O} {v : V}, OV H v o → OV (Hx (fun _ => False) H) v o
  | .non, _, h => h
  | .bl _, _, h => h
  | .int _, _, h => h
  | .str _, _, h => h
  | .dct, _, ⟨a, h1, h2⟩ => ⟨a, h1, hx_of (fun z => z) (fun _ z => nomatch z) h2⟩
  | .lst _, _, ⟨a, vs, h1, h2, h3⟩ => ⟨a, vs, h1, hx_of (fun z => z) lst_tbl h2, OVs.hxn h3⟩
  | .tup _, _, ⟨a, vs, h1, h2, h3⟩ => ⟨a, vs, h1, hx_of (fun z => z) tup_tbl h2, OVs.hxn h3⟩
theorem OVs.hxn {H : Hp} : ∀ {os : List O} {vs : List V}, OVs H vs os → OVs (Hx (fun _ => False) H) vs os
  | [], _, h => h
  | _ :: _, _, ⟨v, us, h1, h2, h3⟩ => ⟨v, us, h1, OV.hxn h2, OVs.hxn h3⟩
end
theorem OV.extN {H G : Hp} {v : V} {o : O} (h : OV H v o) (e : ExtN H G) : OV G v o := (h.hxn.ext (Go.ofN e).ex).ext hx_ex
theorem OVs.extN {H G : Hp} {vs : List V} {os : List O} (h : OVs H vs os) (e : ExtN H G) : OVs G vs os := (h.hxn.ext (Go.ofN e).ex).ext hx_ex
/-- nothing stands there but perhaps a table -/
def NT (H : Hp) (a : Addr) : Prop := ∀ o, (∀ ps, o ≠ .tbl ps) → H a ≠ some o
theorem go_extN {G J J' : Hp} {Dl : Addr} (e : ExtN G J) (g : Go (fun b => b = Dl) J J') (n : NT G Dl) : ExtN G J' := fun b o h t => g b o (fun z => n o t (by rw [← z]; exact h)) t (e b o h t)
/-- the pairs (s, o) -/
def prO (s : Str) (o : O) : O := .tup [.str s, o]
theorem Go.ovs {s : Str} {o : O} {G : Hp} {x : V} {t : Addr} (h : OV G x o) (e : G t = some (.tup [.str s, x])) : OV G (.ref t) (prO s o) := ⟨t, _, rfl, e, .cons rfl (.cons h .nil)⟩
/-- the pairs (s, x) -/
def Prs (s : Str) (G : Hp) (x : V) (acc : List V) (n : Nat) : Prop := acc.length = n ∧ ∀ a ∈ acc, ∃ t, a = .ref t ∧ G t = some (.tup [.str s, x])
theorem Prs.extN {s : Str} {G G' : Hp} {x : V} {acc : List V} {n : Nat} (h : Prs s G x acc n) (e : ExtN G G') : Prs s G' x acc n := ⟨h.1, fun a ha => by
  obtain ⟨t, h1, h2⟩ := h.2 a ha
  exact ⟨t, h1, e _ _ h2 tup_tbl⟩⟩
theorem Prs.tx {s : Str} {G G' : Hp} {x : V} {acc : List V} {n : Nat} (h : Prs s G x acc n) (e : Tx G G') : Prs s G' x acc n := ⟨h.1, fun a ha => by
  obtain ⟨t, h1, h2⟩ := h.2 a ha
  exact ⟨t, h1, e _ _ h2⟩⟩
theorem Prs.snoc {s : Str} {G : Hp} {x : V} {acc : List V} {n : Nat} {t : Addr} (h : Prs s G x acc n) (e : G t = some (.tup [.str s, x])) : Prs s G x (acc ++ [.ref t]) (n + 1) := ⟨by simp [h.1], fun a ha => by
  rcases List.mem_append.mp ha with ha | ha
  · exact h.2 a ha
  · exact ⟨t, by simpa using ha, e⟩⟩
theorem Prs.ov {s : Str} {G : Hp} {x : V} {o : O} (hx : OV G x o) : ∀ {acc : List V} {n : Nat}, Prs s G x acc n → OVs G acc (List.replicate n (prO s o))
  | [], n, h => by obtain rfl : 0 = n := h.1; exact .nil
  | a :: acc, n, h => by
    obtain rfl : acc.length + 1 = n := h.1
    obtain ⟨t, rfl, ht⟩ := h.2 a List.mem_cons_self
    exact .cons (Go.ovs hx ht) (Prs.ov hx ⟨rfl, fun b hb => h.2 b (List.mem_cons_of_mem _ hb)⟩)
theorem ov_rep {H : Hp} {v : V} {o : O} (h : OV H v o) : ∀ n, OVs H (List.replicate n v) (List.replicate n o)
  | 0 => .nil
  | n + 1 => .cons h (ov_rep h n)
theorem flat_rep (n : Nat) (x : V) : (List.replicate n [x]).flatten = List.replicate n x := by
  induction n with
  | zero => rfl
  | succ n ih => rw [List.replicate_succ, List.flatten_cons, ih]; rfl
section
variable {K : PySem.W.Frag} {σ : L2.St} {H : Hp}
abbrev tMet (K : PySem.W.Frag) (t : XK → TE) : TE := tLam (tabT K) (TTmet K) t
/-- [("..", x)] * n -/
theorem evlp_rep {i n : Nat} {v : V} {s : Str} {o : O} (h : σ[i]? = some (some v)) (ho : OV H v o) (hn : n ≤ 100) : EvLP (tOp rRep (tLst (tCons (tTup (tCons (tC (.str s)) (tCons (tVar i) tNil))) tNil)) (tC (.int (n : Nat)))) σ H (fun xs G => OVs G xs (List.replicate n (prO s o))) := fun H1 e Q q =>
  ⟨v, h, by show 2 ≤ sizeLine; rw [sizeLine_eq]; omega, fun t ht => ⟨by show 1 ≤ sizeLine; rw [sizeLine_eq]; omega, fun l hl => ⟨l, (n : Nat), [.ref t], rfl, rfl, upd_same, by omega, by omega, sz_of (by simp; omega), fun p hp => by
    have x1 : Ex H1 (upd H1 t (.tup [.str s, v])) := Ex.new ht
    have x2 := (Ex.new (H := upd H1 t (.tup [.str s, v])) (o := .lst [.ref t]) hl)
    have x3 := (Ex.new (H := upd (upd H1 t (.tup [.str s, v])) l (.lst [.ref t])) (o := .lst (List.replicate ((n : Nat) : Int).toNat [V.ref t]).flatten) hp)
    have x23 := x2.trans x3
    have e1 : (List.replicate ((n : Nat) : Int).toNat [V.ref t]).flatten = List.replicate n (V.ref t) := flat_rep n _
    rw [e1] at x3 x23 ⊢
    have ht2 := Go.ovs (s := s) ((ho.ext e).ext (x1.trans x23)) (x23 _ _ upd_same)
    exact q p _ _ (fresh_back (x1.trans x2) hp) (x1.trans x23) upd_same (ov_rep ht2 n)⟩⟩⟩
/-- found.append(_law_d_met(lambda: ..)) -/
theorem s_applam {J : Hp} {D : Ends} {i : Nat} {tk : XK → TE} {x : V} {y z s : Str} {acc : List V} {n : Nat} {Dl : Addr} (hb : (y, z, s) ∈ mets) (h6 : σ[i]? = some (some (.ref Dl))) (hD : J Dl = some (.lst acc)) (hP : Prs s J x acc n) (hn : n ≤ 50) (hT : Tabs (tabT K) J)
    (ht : ∀ (H1 : Hp) (E : XK) (Q' : VK), ExtN J H1 → BadZ K y z x H1 E → tk E σ H1 Q')
    (k : ∀ (J' : Hp) (acc' : List V), Go (fun b => b = Dl) J J' → Tabs (tabT K) J' → J' Dl = some (.lst acc') → Prs s J' x acc' (n + 1) → D.nx σ J') : tDrop (tBM K "list" rAppend (tVar i) (tCons (tMet K tk) tNil)) D σ J := by
  refine ⟨.ref Dl, h6, .inl ⟨rfl, _, sq_of hD⟩, ?_⟩
  refine lam_bad hb hT ht fun ta G2 e2 T2 h2 => ?_
  have hD2 : G2 Dl = some (.lst acc) := e2 _ _ hD lst_tbl
  have hl := hP.1
  refine ⟨Dl, acc, .ref ta, rfl, rfl, hD2, sz_lt (by omega), ?_⟩
  have tx : Tx G2 (upd G2 Dl (.lst (acc ++ [.ref ta]))) := Tx.lst hD2
  exact k _ _ ((Go.ofN e2).trans (Go.upd rfl)) (tabs_put T2 hD2) upd_same ((hP.extN e2).snoc h2 |>.tx tx)
theorem q_applam {J : Hp} {D : Ends} {i : Nat} {tz : TS} {tk : XK → TE} {x : V} {y z s : Str} {acc : List V} {n : Nat} {Dl : Addr} (hb : (y, z, s) ∈ mets) (h6 : σ[i]? = some (some (.ref Dl))) (hD : J Dl = some (.lst acc)) (hP : Prs s J x acc n) (hn : n ≤ 50) (hT : Tabs (tabT K) J)
    (ht : ∀ (H1 : Hp) (E : XK) (Q' : VK), ExtN J H1 → BadZ K y z x H1 E → tk E σ H1 Q')
    (k : ∀ (J' : Hp) (acc' : List V), Go (fun b => b = Dl) J J' → Tabs (tabT K) J' → J' Dl = some (.lst acc') → Prs s J' x acc' (n + 1) → tz D σ J') : tSeq (tDrop (tBM K "list" rAppend (tVar i) (tCons (tMet K tk) tNil))) tz D σ J :=
  s_applam (D := { D with nx := tz D }) hb h6 hD hP hn hT ht k
/-- found = [_law_d_met(lambda: ..)] -/
theorem q_foundlam {J : Hp} {D : Ends} {i : Nat} {tz : TS} {tk : XK → TE} {x : V} {y z s : Str} (hb : (y, z, s) ∈ mets) (hT : Tabs (tabT K) J)
    (ht : ∀ (H1 : Hp) (E : XK) (Q' : VK), ExtN J H1 → BadZ K y z x H1 E → tk E σ H1 Q')
    (k : ∀ (J' : Hp) (Dl : Addr) (acc : List V), NT J Dl → ExtN J J' → Tabs (tabT K) J' → J' Dl = some (.lst acc) → Prs s J' x acc 1 → tz D (σ.set i (some (.ref Dl))) J') : tSeq (tAsg (tLst (tCons (tMet K tk) tNil)) (gName i)) tz D σ J := by
  refine lam_bad hb hT ht fun ta G2 e2 T2 h2 => ?_
  refine ⟨by show 1 ≤ sizeLine; rw [sizeLine_eq]; omega, fun l nl => ?_⟩
  have x3 : Ex G2 (upd G2 l (.lst [.ref ta])) := Ex.new nl
  exact k _ l _ (fun o ho z => by
    have := e2 _ _ z ho
    rw [nl] at this
    cases this) (e2.trans (ExtN.of x3)) (T2.ext x3) upd_same ⟨rfl, fun a ha => ⟨ta, by simpa using ha, x3 _ _ h2⟩⟩
end
end K28

set_option Elab.async false
set_option linter.all false
set_option maxRecDepth 100000
set_option maxHeartbeats 4000000
/-! _law_refused_right: what is no word. -/
namespace K28
open PySem PySem.Spec PyProof.Rows L2 Evl LamX
abbrev WEe (E : XK) : L2.St → XK := fun σ => WE (fun cls d _ H => E cls d H) σ
abbrev nRf : List Str := ["_law_stream", "_law_rows", "_law_odds", "_law_odd", "_law_found", "_law_made", "_law_order", "_law_held", "_law_index"]
theorem sc_rf : FnScope nRf ["_law_stream", "_law_rows"] (defScope s__law_refused_right) := ⟨rfl, rfl, rfl, by decide +kernel, rfl, by decide +kernel, by decide +kernel⟩
abbrev XR (P : Program) (w : World) (K : PySem.W.Frag) (mg : Str → Option Value) (base : Heap) (f c : Addr) (A : Around) (outer : List Env) (s : Shared) (H : Hp) : Cx := (cxOf CX0 P w K mg base nRf "_law_refused_right" (defScope s__law_refused_right) f (.ref c) A outer s H E0).nox
def stR (i : Nat) : Stmt := (defBody s__law_refused_right).getD i (.Pass ⟨0, 0, 0, 0⟩)
theorem odds_small : odds.all (fun o => decide (o.dq ≤ 3) && decide (o.sz ≤ 100)) = true := by decide +kernel
theorem OrdAt.extN {C : Addr} {H G : Hp} {o dr : Addr} {rs : List (Str × Int)} (h : OrdAt C H o dr rs) (e : ExtN H G) : OrdAt C G o dr rs := by
  obtain ⟨dx, dw, dk, fs, xs, h1, h0, h2, h3, h4, h5, h6, h7⟩ := h.ex
  exact ⟨dx, dw, dk, fs, xs, e _ _ h1 (fun _ z => nomatch z), h0, h2, h3, e _ _ h4 (fun _ z => nomatch z), e _ _ h5 (fun _ z => nomatch z), e _ _ h6 lst_tbl, h7.extN e⟩
theorem pr_dq {s : Str} {o : O} (h : o.dq ≤ 3) : ∀ n, O.dqs (List.replicate n (prO s o)) ≤ 4
  | 0 => Nat.zero_le _
  | n + 1 => Nat.max_le.mpr ⟨Nat.succ_le_succ (Nat.max_le.mpr ⟨Nat.zero_le _, Nat.max_le.mpr ⟨h, Nat.zero_le _⟩⟩), pr_dq h n⟩
theorem pr_sz {s : Str} {o : O} (h : o.sz ≤ 100) : ∀ n, O.szs (List.replicate n (prO s o)) ≤ 102 * n
  | 0 => Nat.zero_le _
  | n + 1 => by
    have := pr_sz (s := s) h n
    show (1 + (o.sz + 0)) + 1 + O.szs (List.replicate n (prO s o)) ≤ _
    omega
def wA : W := .n "a" []
theorem dzA : Dz wA := ⟨by decide +kernel, by decide +kernel, by decide +kernel, by decide +kernel⟩
theorem arA : wA.ar = true := by decide +kernel
abbrev tC0 (K : PySem.W.Frag) (C : Addr) : XK → TE := fun E => tCallS (spCmp K C) (WEe E) (tCons (tVar 6) (tCons (tVar 3) (tCons (tC .non) tNil)))
abbrev tC1 (K : PySem.W.Frag) (C : Addr) : XK → TE := fun E => tCallS (spCmp K C) (WEe E) (tCons (tVar 6) (tCons (tTup (tCons (tC (.str "a")) tNil)) (tCons (tVar 3) tNil)))
section
variable {P : Program} {w : World} {K : PySem.W.Frag} {mg : Str → Option Value} {base : Heap} {C f c : Addr} {A : Around} {outer : List Env} {s : Shared} {HX : Hp}
theorem rb5 (T : TO P w K mg base C) (t2 : TabF K mg base) (hc : He.codeOf K ("_law_refused_right", none) = c) (hr : Room 45 (XR P w K mg base f c A outer s HX).A) : ∃ t, PS (XR P w K mg base f c A outer s HX) (stR 5) t ∧
    ∀ (D : Ends) (G : Hp) (c0 c1 c2 c3 c4 c5 c7 c8 : Option V) (o dr : Addr) (rs : List (Str × Int)), Tabs (tabT K) G → OrdAt C G o dr rs → Al rs →
      (∀ G' c3' c4', Tabs (tabT K) G' → ExtN G G' → D.nx [c0, c1, c2, c3', c4', c5, some (.ref o), c7, c8] G') →
      t D [c0, c1, c2, c3, c4, c5, some (.ref o), c7, c8] G := by
  obtain ⟨fS, dS, GS, bS, kS, mS⟩ := (ok_same T.toT28 9).ex
  obtain ⟨fO, dO, GO, bO, kO, mO⟩ := (ok_odd T.toT28).ex
  obtain ⟨fC, dC, GC, bC, kC, mC⟩ := (ok_compare T).ex
  have tb := t2.tb ("_law_refused_right", none) (List.mem_of_getElem? (i := 0) rfl)
  have ecd : (He.cT K ("_law_refused_right", none)).1 = c := hc
  rw [ecd] at tb
  have hm : ((He.cT K ("_law_refused_right", none)).2, ("_law_refused_right.<locals>.<lambda>" : Str)) ∈ tabT K := List.mem_of_getElem? (i := 0) (by rfl)
  refine ⟨_, ps_for PassesOwn.never rfl (pi_list (pe_call0 GO (hr.mono (by decide)) (by rfl) mO kO bO .nil pass0)) (pg_name (i := 3) sc_rf.nd rfl (Or.inr rfl))
    (pss_cons (ps_set (i := 4) sc_rf.nd rfl (by first | exact Or.inl rfl | exact Or.inr rfl) (pe_lst (pa_cons (pe_met (k := 35) (t := tC0 K C) T.toT28 (by rfl) tb rfl hm (hr.mono (by decide)) (lamS_by (sc := defScope s__law_refused_right) (by decide +kernel)) rfl (fun _ _ _ _ _ => rfl)
        (fun A outer s H E f c' hr2 => pe_callS (sp := spCmp K C) GC (hr2.mono (by decide)) (by rfl) mC kC bC (fun σ => passAt (takes_of rfl rfl rfl rfl) σ) (pa_cons (pv 6) (pa_cons (pv 3) (pa_cons pe_non pa_nil))))) pa_nil)))
    (pss_cons (ps_expr (pe_bm PySem.F.plainAttrs_list PySem.F.slot_list_append PySem.F.type_list_append mt_append (pv 4) (pa_cons (pe_met (k := 35) (t := tC1 K C) T.toT28 (by rfl) tb rfl hm (hr.mono (by decide)) (lamS_by (sc := defScope s__law_refused_right) (by decide +kernel)) rfl (fun _ _ _ _ _ => rfl)
        (fun A outer s H E f c' hr2 => pe_callS (sp := spCmp K C) GC (hr2.mono (by decide)) (by rfl) mC kC bC (fun σ => passAt (takes_of rfl rfl rfl rfl) σ) (pa_cons (pv 6) (pa_cons (pe_tup (pa_cons pe_str pa_nil)) (pa_cons (pv 3) pa_nil))))) pa_nil)))
    (pss_one (ps_if (pt_not (pt_val (pe_call GS (hr.mono (by decide)) (by rfl) mS kS bS .nil pass0 (pa_cons (pv 4) (pa_cons (pe_op op_rep (pe_lst (pa_cons (pe_tup (pa_cons pe_str (pa_cons (pv 3) pa_nil))) pa_nil)) pe_int) pa_nil))))) (pss_one ps_never) pss_nil)))), ?_⟩
  intro D G c0 c1 c2 c3 c4 c5 c7 c8 ob dr rs hT hO A0 k
  refine ⟨rfl, fun lp xs G1 np e1 h1 hov => ?_⟩
  have hodds := List.all_eq_true.mp odds_odd
  have hsmall := List.all_eq_true.mp odds_small
  have hov1 := hov.ext hx_ex
  refine ⟨lp, rfl, ⟨_, sq_of h1⟩, for_list (xs := xs) (fun i σ' G' => (∃ c3' c4', σ' = [c0, c1, c2, c3', c4', c5, some (.ref ob), c7, c8]) ∧ Tabs (tabT K) G' ∧ ExtN G1 G') ⟨⟨_, _, rfl⟩, hT.ext e1, ExtN.refl _⟩ ?_ ?_ ?_⟩
  · rintro i σ' G' hi ⟨_, _, e⟩
    exact sq_of (e _ _ h1 lst_tbl)
  · rintro i x σ' G' hi ⟨⟨c3', c4', rfl⟩, T', eN⟩
    obtain ⟨o, ho, hxo⟩ := (hov1.extN eN).get hi
    have hom := List.mem_of_getElem? ho
    have hs1 := hsmall o hom
    rw [Bool.and_eq_true] at hs1
    have hq := of_decide_eq_true hs1.1
    have hz := of_decide_eq_true hs1.2
    have noW : ∀ J, ExtN G' J → NoW J x := fun J e => oddB_no (hodds o hom) (hxo.extN e)
    have hO' := (hO.ext e1).extN eN
    unfold gName
    dsimp only
    refine q_foundlam (x := x) (y := "BadWord") (z := "thing") (s := "word") (by decide) T' (fun H1 E Q' e hbad => ⟨.ref ob, rfl, x, rfl, _, _, _, rfl, .inr ⟨ob, dr, rs, rfl, hO'.extN e, A0.ok, .inl ⟨noW H1 e, hbad⟩⟩⟩) fun G2 Dl acc nDl e2 T2 hDl hP => ?_
    have nDl' : NT G' Dl := nDl
    refine q_applam (x := x) (n := 1) (y := "BadWord") (z := "thing") (s := "word") (by decide) rfl hDl hP (by decide) T2 (fun H3 E Q' e3 hbad => ⟨.ref ob, rfl, by show 1 ≤ sizeLine; rw [sizeLine_eq]; omega, fun t nt => ⟨x, rfl, _, _, _, rfl, .inr ⟨ob, dr, rs, rfl, (hO'.extN (e2.trans e3)).ext (Ex.new nt), A0.ok, .inr ⟨wA, ?_, .inr ⟨ar_fu A0.all wA arA, .inl ⟨(noW H3 (e2.trans e3)).ext (Ex.new nt), hbad.mono (Ex.new nt)⟩⟩⟩⟩⟩⟩) fun J2 acc2 g2 T2' hacc2 hP2 => ?_
    · exact dzA.lw (show OV _ (.ref t) wA.o from ⟨t, _, rfl, upd_same, .cons rfl .nil⟩) (strip_o wA)
    · have eJ2 := go_extN e2 g2 nDl'
      have hxJ := hxo.extN eJ2
      refine s_when (b := false) (et_not (a := true) (et_B fun H1 e1' Q q => ⟨.ref Dl, rfl, evlp_rep (i := 3) (n := 2) (s := "word") (v := x) rfl (hxJ.ext e1') (by decide) H1 (Ex.refl _) _ fun p ys H2 np e2' hp hPr => ⟨.ref Dl, .ref p, .lst (List.replicate 2 (prO "word" o)), rfl, ⟨Dl, _, rfl, e2' _ _ (e1' _ _ hacc2), Prs.ov (hxJ.ext (e1'.trans e2')) (hP2.tx (Tx.of (e1'.trans e2')))⟩, ⟨p, _, rfl, hp, hPr⟩, ?_, by decide, ?_, fun H3 e3 => q H3 (e2'.trans e3)⟩⟩)) (fun z => nomatch z) fun _ J4 eJ4 => ?_
      · show O.dqs _ + 1 < 9
        have := pr_dq (s := "word") (o := o) (by omega) 2
        omega
      · show O.szs _ + 1 ≤ 40000
        have := pr_sz (s := "word") (o := o) (by omega) 2
        omega
      · exact ⟨⟨_, _, rfl⟩, T2'.ext eJ4, (eN.trans eJ2).trans (ExtN.of eJ4)⟩
  · rintro σ' G' ⟨⟨c3', c4', rfl⟩, T', e⟩
    exact k G' c3' c4' T' ((ExtN.of e1).trans e)
end
end K28

set_option Elab.async false
set_option linter.all false
set_option maxRecDepth 100000
set_option maxHeartbeats 4000000
/-! _law_refused_right: what is no order. -/
namespace K28
open PySem PySem.Spec PyProof.Rows L2 Evl LamX
/-- values that are data -/
def EvO (te : TE) (σ : L2.St) (H : Hp) (o : O) : Prop := ∀ H1, Ex H H1 → ∀ Q : VK, (∀ v H2, Ex H1 H2 → OV H2 v o → Q v H2) → te σ H1 Q
def EvAO (ta : TA) (σ : L2.St) (H : Hp) (os : List O) : Prop := ∀ H1, Ex H H1 → ∀ Q : List V → Hp → Prop, (∀ vs H2, Ex H1 H2 → OVs H2 vs os → Q vs H2) → ta σ H1 Q
section
variable {H : Hp} {σ : L2.St} {te : TE} {ta : TA}
theorem eo_int {i : Int} : EvO (tC (.int i)) σ H (.int i) := fun H1 e Q q => q _ _ (Ex.refl _) rfl
theorem eo_str {i : Str} : EvO (tC (.str i)) σ H (.str i) := fun H1 e Q q => q _ _ (Ex.refl _) rfl
theorem eo_bl {i : Bool} : EvO (tC (.bl i)) σ H (.bl i) := fun H1 e Q q => q _ _ (Ex.refl _) rfl
theorem eo_non : EvO (tC .non) σ H .non := fun H1 e Q q => q _ _ (Ex.refl _) rfl
theorem eo_var {i : Nat} {v : V} {o : O} (h : σ[i]? = some (some v)) (k : OV H v o) : EvO (tVar i) σ H o := fun H1 e Q q => ⟨v, h, q _ _ (Ex.refl _) (k.ext e)⟩
theorem eao_nil : EvAO tNil σ H [] := fun H1 e Q q => q _ _ (Ex.refl _) rfl
theorem eao_cons {o : O} {os : List O} (h : EvO te σ H o) (k : EvAO ta σ H os) : EvAO (tCons te ta) σ H (o :: os) := fun H1 e Q q =>
  h H1 e _ fun v H2 e2 hv => k H2 (e.trans e2) _ fun vs H3 e3 hvs => q (v :: vs) H3 (e2.trans e3) (.cons (hv.ext e3) hvs)
theorem eo_tup {os : List O} (h : EvAO ta σ H os) (n : os.length ≤ 1000) : EvO (tTup ta) σ H (.tup os) := fun H1 e Q q =>
  h H1 e _ fun vs H2 e2 hvs => ⟨sz_of (by rw [hvs.length]; omega), fun p hp => q (.ref p) _ (e2.trans (Ex.new hp)) ⟨p, vs, rfl, upd_same, hvs.ext (Ex.new hp)⟩⟩
theorem eo_lst {os : List O} (h : EvAO ta σ H os) (n : os.length ≤ 1000) : EvO (tLst ta) σ H (.lst os) := fun H1 e Q q =>
  h H1 e _ fun vs H2 e2 hvs => ⟨sz_of (by rw [hvs.length]; omega), fun p hp => q (.ref p) _ (e2.trans (Ex.new hp)) ⟨p, vs, rfl, upd_same, hvs.ext (Ex.new hp)⟩⟩
theorem eo_dct : EvO tDNewK σ H .dct := fun H1 e Q q => fun p hp => q (.ref p) _ (Ex.new hp) ⟨p, rfl, upd_same⟩
end
theorem forT1 {K : PySem.W.Frag} {σ : L2.St} {H : Hp} {te : TE} {g : TG} {tb : TS} {D : Ends} (h : te σ H fun x H1 => ∃ a, x = V.ref a ∧ (∃ xs, SqT K H1 a xs) ∧ tForI (Itt K a) g tb D σ H1) : tFor (iTup K te) g tb D σ H := h
def ords (rs : List (Str × Int)) : List O := [.non, .int 5, .str "a", .lst [], .dct, .lst (rs.map rowO), .bl true]
theorem rows_dqs : ∀ rs : List (Str × Int), O.dqs (rs.map rowO) ≤ 1
  | [] => Nat.zero_le _
  | r :: rs => Nat.max_le.mpr ⟨Nat.le_refl _, rows_dqs rs⟩
theorem ords_small {rs : List (Str × Int)} (h : rs.length ≤ 20) : ∀ o ∈ ords rs, o.dq ≤ 3 ∧ o.sz ≤ 100 := fun o ho => by
  have r1 : (O.lst (rs.map rowO)).dq ≤ 3 := by
    show O.dqs _ + 1 ≤ 3
    have := rows_dqs rs
    omega
  have r2 : (O.lst (rs.map rowO)).sz ≤ 100 := by
    show O.szs _ + 1 ≤ 100
    rw [rows_szs]
    omega
  simp only [ords, List.mem_cons, List.not_mem_nil, or_false] at ho
  rcases ho with rfl | rfl | rfl | rfl | rfl | rfl | rfl
  · exact ⟨by decide, by decide⟩
  · exact ⟨by decide, by decide⟩
  · exact ⟨by decide, by decide⟩
  · exact ⟨by decide, by decide⟩
  · exact ⟨by decide, by decide⟩
  · exact ⟨r1, r2⟩
  · exact ⟨by decide, by decide⟩
abbrev tD0 (K : PySem.W.Frag) (C : Addr) : XK → TE := fun E => tCallS (spCmp K C) (WEe E) (tCons (tVar 3) (tCons (tC .non) (tCons (tC .non) tNil)))
section
variable {P : Program} {w : World} {K : PySem.W.Frag} {mg : Str → Option Value} {base : Heap} {C f c : Addr} {A : Around} {outer : List Env} {s : Shared} {HX : Hp}
theorem rb4 (T : TO P w K mg base C) (t2 : TabF K mg base) (hc : He.codeOf K ("_law_refused_right", none) = c) (hr : Room 45 (XR P w K mg base f c A outer s HX).A) : ∃ t, PS (XR P w K mg base f c A outer s HX) (stR 4) t ∧
    ∀ (D : Ends) (G : Hp) (c0 c2 c3 c4 c5 c6 c7 c8 : Option V) (a : Addr) (xs : List V) (rs : List (Str × Int)), Tabs (tabT K) G → G a = some (.lst xs) → OVs G xs (rs.map rowO) → rs.length ≤ 20 →
      (∀ G' c3', Tabs (tabT K) G' → ExtN G G' → D.nx [c0, some (.ref a), c2, c3', c4, c5, c6, c7, c8] G') →
      t D [c0, some (.ref a), c2, c3, c4, c5, c6, c7, c8] G := by
  obtain ⟨fS, dS, GS, bS, kS, mS⟩ := (ok_same T.toT28 9).ex
  obtain ⟨fC, dC, GC, bC, kC, mC⟩ := (ok_compare T).ex
  have tb := t2.tb ("_law_refused_right", none) (List.mem_of_getElem? (i := 0) rfl)
  have ecd : (He.cT K ("_law_refused_right", none)).1 = c := hc
  rw [ecd] at tb
  have hm : ((He.cT K ("_law_refused_right", none)).2, ("_law_refused_right.<locals>.<lambda>" : Str)) ∈ tabT K := List.mem_of_getElem? (i := 0) (by rfl)
  refine ⟨_, ps_for PassesOwn.never rfl (pi_tup (pe_tup (pa_cons pe_non (pa_cons pe_int (pa_cons pe_str (pa_cons (pe_lst pa_nil) (pa_cons pe_dnewK (pa_cons (pv 1) (pa_cons pe_bl pa_nil))))))))) (pg_name (i := 3) sc_rf.nd rfl (Or.inr rfl))
    (pss_one (ps_if (pt_not (pt_val (pe_call GS (hr.mono (by decide)) (by rfl) mS kS bS .nil pass0 (pa_cons (pe_met (k := 35) (t := tD0 K C) T.toT28 (by rfl) tb rfl hm (hr.mono (by decide)) (lamS_by (sc := defScope s__law_refused_right) (by decide +kernel)) rfl (fun _ _ _ _ _ => rfl)
        (fun A outer s H E f c' hr2 => pe_callS (sp := spCmp K C) GC (hr2.mono (by decide)) (by rfl) mC kC bC (fun σ => passAt (takes_of rfl rfl rfl rfl) σ) (pa_cons (pv 3) (pa_cons pe_non (pa_cons pe_non pa_nil))))) (pa_cons (pe_tup (pa_cons pe_str (pa_cons (pv 3) pa_nil))) pa_nil))))) (pss_one ps_never) pss_nil)), ?_⟩
  intro D G c0 c2 c3 c4 c5 c6 c7 c8 a xs rs hT ha hov hl k
  refine forT1 (eo_tup (σ := [c0, some (.ref a), c2, c3, c4, c5, c6, c7, c8]) (H := G) (os := ords rs) (eao_cons eo_non (eao_cons eo_int (eao_cons eo_str (eao_cons (eo_lst eao_nil (by decide)) (eao_cons eo_dct (eao_cons (eo_var (i := 1) rfl ⟨a, xs, rfl, ha, hov⟩) (eao_cons eo_bl eao_nil))))))) (by show 7 ≤ 1000; decide) G (Ex.refl _) _ fun v G1 e1 hv => ?_)
  obtain ⟨tt, us, rfl, htt, hus⟩ := hv
  refine ⟨tt, rfl, ⟨_, st_of htt⟩, for_tup (xs := us) (fun i σ' G' => (∃ c3', σ' = [c0, some (.ref a), c2, c3', c4, c5, c6, c7, c8]) ∧ Tabs (tabT K) G' ∧ ExtN G1 G') ⟨⟨_, rfl⟩, hT.ext e1, ExtN.refl _⟩ ?_ ?_ ?_⟩
  · rintro i σ' G' hi ⟨_, _, e⟩
    exact st_of (e _ _ htt tup_tbl)
  · rintro i x σ' G' hi ⟨⟨c3', rfl⟩, T', eN⟩
    obtain ⟨o, ho, hxo⟩ := (hus.extN eN).get hi
    obtain ⟨hq, hz⟩ := ords_small hl o (List.mem_of_getElem? ho)
    unfold gName
    dsimp only
    refine lam_bad (x := "BadOrder") (z := "thing") (s := "order") (v := x) (by decide) T' (fun H1 E Q' e hbad => ⟨x, rfl, _, _, _, rfl, .inl ⟨o, hxo.extN e, hbad⟩⟩) fun ta G2 e2 T2 h2 => ?_
    refine ⟨x, rfl, by show 2 ≤ sizeLine; rw [sizeLine_eq]; omega, fun t nt => ?_⟩
    have x3 : Ex G2 (upd G2 t (.tup [.str "order", x])) := Ex.new nt
    have hx2 := hxo.extN e2
    refine ⟨.ref ta, .ref t, prO "order" o, rfl, (Go.ovs hx2 h2).ext x3, Go.ovs (hx2.ext x3) upd_same, ?_, by decide, ?_, fun J e4 => ⟨true, rfl, ?_⟩⟩
    · show max 0 (max o.dq 0) + 1 < 9
      omega
    · show (1 + (o.sz + 0)) + 1 ≤ 40000
      omega
    · exact ⟨⟨_, rfl⟩, T2.ext (x3.trans e4), (eN.trans e2).trans (ExtN.of (x3.trans e4))⟩
  · rintro σ' G' ⟨⟨c3', rfl⟩, T', e⟩
    exact k G' c3' T' ((ExtN.of e1).trans e)
end
end K28

set_option Elab.async false
set_option linter.all false
set_option maxRecDepth 100000
set_option maxHeartbeats 4000000
/-! _law_refused_right: what is not ordered. -/
namespace K28
open PySem PySem.Spec PyProof.Rows L2 Evl LamX
section
variable {K : PySem.W.Frag} {σ : L2.St} {H : Hp}
/-- found.append(_law_d_met(lambda: ..)), a text kept -/
theorem q_applamS {J : Hp} {D : Ends} {tz : TS} {tk : XK → TE} {r : Str} {y z s : Str} {acc : List V} {os : List O} {i : Nat} {Dl : Addr} (hb : (y, z, s) ∈ mets) (h6 : σ[i]? = some (some (.ref Dl))) (hD : J Dl = some (.lst acc)) (hP : OVs J acc os) (hno : O.hasLs os = false) (hnd : O.nods os = true) (hn : os.length ≤ 50) (hT : Tabs (tabT K) J)
    (ht : ∀ (H1 : Hp) (E : XK) (Q' : VK), ExtN J H1 → BadZ K y z (.str r) H1 E → tk E σ H1 Q')
    (k : ∀ (J' : Hp) (acc' : List V), Go (fun b => b = Dl) J J' → Tabs (tabT K) J' → J' Dl = some (.lst acc') → OVs J' acc' (os ++ [prO s (.str r)]) → tz D σ J') : tSeq (tDrop (tBM K "list" rAppend (tVar i) (tCons (tMet K tk) tNil))) tz D σ J := by
  refine ⟨.ref Dl, h6, .inl ⟨rfl, _, sq_of hD⟩, ?_⟩
  refine lam_bad hb hT ht fun ta G2 e2 T2 h2 => ?_
  have hD2 : G2 Dl = some (.lst acc) := e2 _ _ hD lst_tbl
  have hl := hP.length
  refine ⟨Dl, acc, .ref ta, rfl, rfl, hD2, sz_lt (by omega), ?_⟩
  have tx : Tx G2 (upd G2 Dl (.lst (acc ++ [.ref ta]))) := Tx.lst hD2
  exact k _ _ ((Go.ofN e2).trans (Go.upd rfl)) (tabs_put T2 hD2) upd_same (OVs.append (OVs.tx tx hno hnd (hP.extN e2)) (.cons (Go.ovs (o := .str r) rfl (tx _ _ h2)) .nil))
end
def wU : W := .n "g" [.v "X", .n "f" [.n "u" []]]
def wW : W := .n "w" []
def wV : W := .n "g" [.n "v" [.n "u" []], .n "w" []]
def wE : W := .n "=" [.v "X", .v "X"]
theorem dzU : Dz wU := ⟨by decide +kernel, by decide +kernel, by decide +kernel, by decide +kernel⟩
theorem dzV : Dz wV := ⟨by decide +kernel, by decide +kernel, by decide +kernel, by decide +kernel⟩
theorem dzE : Dz wE := ⟨by decide +kernel, by decide +kernel, by decide +kernel, by decide +kernel⟩
theorem not_nm {rs : List (Str × Int)} (R : RowsOk rs) {s : Str} (h : s ∉ N10) : s ∉ nms rs := fun z => by
  obtain ⟨x, hx, e⟩ := List.mem_map.mp z
  exact h (e ▸ R.n10 x hx)
abbrev tE0 (K : PySem.W.Frag) (C : Addr) : XK → TE := fun E => tCallS (spCmp K C) (WEe E) (tCons (tVar 6) (tCons (tTup (tCons (tC (.str "g")) (tCons (tC (.str "X")) (tCons (tTup (tCons (tC (.str "f")) (tCons (tTup (tCons (tC (.str "u")) tNil)) tNil))) tNil)))) (tCons (tTup (tCons (tC (.str "w")) tNil)) tNil)))
abbrev tE1 (K : PySem.W.Frag) (C : Addr) : XK → TE := fun E => tCallS (spCmp K C) (WEe E) (tCons (tVar 6) (tCons (tTup (tCons (tC (.str "a")) tNil)) (tCons (tTup (tCons (tC (.str "g")) (tCons (tTup (tCons (tC (.str "v")) (tCons (tTup (tCons (tC (.str "u")) tNil)) tNil))) (tCons (tTup (tCons (tC (.str "w")) tNil)) tNil)))) tNil)))
abbrev tE2 (K : PySem.W.Frag) (C : Addr) : XK → TE := fun E => tCallS (spCmp K C) (WEe E) (tCons (tVar 6) (tCons (tTup (tCons (tC (.str "=")) (tCons (tC (.str "X")) (tCons (tC (.str "X")) tNil)))) (tCons (tC .non) tNil)))
section
variable {rs : List (Str × Int)}
theorem fu_u (A : Al rs) : fu (nms rs) wU = some "u" := by
  have g := A.all "g" (by decide +kernel)
  have f := A.all "f" (by decide +kernel)
  have u := not_nm A.ok (s := "u") (by decide +kernel)
  simp [wU, fu, fus, g, f, u]
theorem fu_v (A : Al rs) : fu (nms rs) wV = some "v" := by
  have g := A.all "g" (by decide +kernel)
  have u := not_nm A.ok (s := "v") (by decide +kernel)
  simp [wV, fu, fus, g, u]
theorem fu_e (A : Al rs) : fu (nms rs) wE = some "=" := by
  have u := not_nm A.ok (s := "=") (by decide +kernel)
  simp [wE, fu, fus, u]
end
section
variable {P : Program} {w : World} {K : PySem.W.Frag} {mg : Str → Option Value} {base : Heap} {C f c : Addr} {A : Around} {outer : List Env} {s : Shared} {HX : Hp}
theorem rb6 (T : TO P w K mg base C) (t2 : TabF K mg base) (hc : He.codeOf K ("_law_refused_right", none) = c) (hr : Room 45 (XR P w K mg base f c A outer s HX).A) : ∃ t0 t1 t2 t3, PS (XR P w K mg base f c A outer s HX) (stR 6) t0 ∧ PS (XR P w K mg base f c A outer s HX) (stR 7) t1 ∧ PS (XR P w K mg base f c A outer s HX) (stR 8) t2 ∧ PS (XR P w K mg base f c A outer s HX) (stR 9) t3 ∧
    ∀ (D : Ends) (tz : TS) (G : Hp) (c0 c1 c2 c3 c4 c5 c7 c8 : Option V) (o dr : Addr) (rs : List (Str × Int)), Tabs (tabT K) G → OrdAt C G o dr rs → Al rs →
      (∀ G' c4', ExtN G G' → tz D [c0, c1, c2, c3, c4', c5, some (.ref o), c7, c8] G') →
      tSeq t0 (tSeq t1 (tSeq t2 (tSeq t3 tz))) D [c0, c1, c2, c3, c4, c5, some (.ref o), c7, c8] G := by
  obtain ⟨fS, dS, GS, bS, kS, mS⟩ := (ok_same T.toT28 9).ex
  obtain ⟨fC, dC, GC, bC, kC, mC⟩ := (ok_compare T).ex
  have tb := t2.tb ("_law_refused_right", none) (List.mem_of_getElem? (i := 0) rfl)
  have ecd : (He.cT K ("_law_refused_right", none)).1 = c := hc
  rw [ecd] at tb
  have hm : ((He.cT K ("_law_refused_right", none)).2, ("_law_refused_right.<locals>.<lambda>" : Str)) ∈ tabT K := List.mem_of_getElem? (i := 0) (by rfl)
  refine ⟨_, _, _, _, ps_set (i := 4) sc_rf.nd rfl (by first | exact Or.inl rfl | exact Or.inr rfl) (pe_lst (pa_cons (pe_met (k := 35) (t := tE0 K C) T.toT28 (by rfl) tb rfl hm (hr.mono (by decide)) (lamS_by (sc := defScope s__law_refused_right) (by decide +kernel)) rfl (fun _ _ _ _ _ => rfl)
        (fun A outer s H E f c' hr2 => pe_callS (sp := spCmp K C) GC (hr2.mono (by decide)) (by rfl) mC kC bC (fun σ => passAt (takes_of rfl rfl rfl rfl) σ) (pa_cons (pv 6) (pa_cons (pe_tup (pa_cons pe_str (pa_cons pe_str (pa_cons (pe_tup (pa_cons pe_str (pa_cons (pe_tup (pa_cons pe_str pa_nil)) pa_nil))) pa_nil)))) (pa_cons (pe_tup (pa_cons pe_str pa_nil)) pa_nil))))) pa_nil)),
    ps_expr (pe_bm PySem.F.plainAttrs_list PySem.F.slot_list_append PySem.F.type_list_append mt_append (pv 4) (pa_cons (pe_met (k := 35) (t := tE1 K C) T.toT28 (by rfl) tb rfl hm (hr.mono (by decide)) (lamS_by (sc := defScope s__law_refused_right) (by decide +kernel)) rfl (fun _ _ _ _ _ => rfl)
        (fun A outer s H E f c' hr2 => pe_callS (sp := spCmp K C) GC (hr2.mono (by decide)) (by rfl) mC kC bC (fun σ => passAt (takes_of rfl rfl rfl rfl) σ) (pa_cons (pv 6) (pa_cons (pe_tup (pa_cons pe_str pa_nil)) (pa_cons (pe_tup (pa_cons pe_str (pa_cons (pe_tup (pa_cons pe_str (pa_cons (pe_tup (pa_cons pe_str pa_nil)) pa_nil))) (pa_cons (pe_tup (pa_cons pe_str pa_nil)) pa_nil)))) pa_nil))))) pa_nil)),
    ps_expr (pe_bm PySem.F.plainAttrs_list PySem.F.slot_list_append PySem.F.type_list_append mt_append (pv 4) (pa_cons (pe_met (k := 35) (t := tE2 K C) T.toT28 (by rfl) tb rfl hm (hr.mono (by decide)) (lamS_by (sc := defScope s__law_refused_right) (by decide +kernel)) rfl (fun _ _ _ _ _ => rfl)
        (fun A outer s H E f c' hr2 => pe_callS (sp := spCmp K C) GC (hr2.mono (by decide)) (by rfl) mC kC bC (fun σ => passAt (takes_of rfl rfl rfl rfl) σ) (pa_cons (pv 6) (pa_cons (pe_tup (pa_cons pe_str (pa_cons pe_str (pa_cons pe_str pa_nil)))) (pa_cons pe_non pa_nil))))) pa_nil)),
    ps_if (pt_not (pt_val (pe_call GS (hr.mono (by decide)) (by rfl) mS kS bS .nil pass0 (pa_cons (pv 4) (pa_cons (pe_lst (pa_cons (pe_tup (pa_cons pe_str (pa_cons pe_str pa_nil))) (pa_cons (pe_tup (pa_cons pe_str (pa_cons pe_str pa_nil))) (pa_cons (pe_tup (pa_cons pe_str (pa_cons pe_str pa_nil))) pa_nil)))) pa_nil))))) (pss_one ps_never) pss_nil, ?_⟩
  intro D tz G c0 c1 c2 c3 c4 c5 c7 c8 ob dr rs hT hO A0 k
  refine q_foundlam (x := .str "u") (y := "NotOrdered") (z := "name") (s := "name") (by decide) hT (fun H1 E Q' e hbad => ⟨.ref ob, rfl, eo_tup (os := [.str "g", .str "X", .tup [.str "f", .tup [.str "u"]]]) (eao_cons eo_str (eao_cons eo_str (eao_cons (eo_tup (eao_cons eo_str (eao_cons (eo_tup (eao_cons eo_str eao_nil) (by decide)) eao_nil)) (by decide)) eao_nil))) (by decide) H1 (Ex.refl _) _ fun v H2 e2 hv => eo_tup (os := [.str "w"]) (eao_cons eo_str eao_nil) (by decide) H2 (Ex.refl _) _ fun u H3 e3 hu => ⟨_, _, _, rfl, .inr ⟨ob, dr, rs, rfl, (hO.extN e).ext (e2.trans e3), A0.ok, .inr ⟨wU, dzU.lw (show OV H3 v wU.o from hv.ext e3) (strip_o wU), .inl ⟨"u", fu_u A0, hbad.mono (e2.trans e3)⟩⟩⟩⟩⟩) fun G2 Dl acc nDl e2 T2 hDl hP => ?_
  refine q_applamS (r := "v") (os := [prO "name" (.str "u")]) (y := "NotOrdered") (z := "name") (s := "name") (by decide) rfl hDl (Prs.ov (o := .str "u") rfl hP) (by decide) (by decide) (by decide) T2 (fun H1 E Q' e hbad => ⟨.ref ob, rfl, eo_tup (os := [.str "a"]) (eao_cons eo_str eao_nil) (by decide) H1 (Ex.refl _) _ fun v H2 e3 hv => eo_tup (os := [.str "g", .tup [.str "v", .tup [.str "u"]], .tup [.str "w"]]) (eao_cons eo_str (eao_cons (eo_tup (eao_cons eo_str (eao_cons (eo_tup (eao_cons eo_str eao_nil) (by decide)) eao_nil)) (by decide)) (eao_cons (eo_tup (eao_cons eo_str eao_nil) (by decide)) eao_nil))) (by decide) H2 (Ex.refl _) _ fun u H3 e4 hu => ⟨_, _, _, rfl, .inr ⟨ob, dr, rs, rfl, (hO.extN (e2.trans e)).ext (e3.trans e4), A0.ok, .inr ⟨wA, dzA.lw (show OV H3 v wA.o from hv.ext e4) (strip_o wA), .inr ⟨ar_fu A0.all wA arA, .inr ⟨wV, dzV.lw (show OV H3 u wV.o from hu) (strip_o wV), .inl ⟨"v", fu_v A0, hbad.mono (e3.trans e4)⟩⟩⟩⟩⟩⟩⟩) fun J2 acc2 g2 T2' hacc2 hP2 => ?_
  have eJ2 := go_extN e2 g2 nDl
  refine q_applamS (r := "=") (os := [prO "name" (.str "u"), prO "name" (.str "v")]) (y := "NotOrdered") (z := "name") (s := "name") (by decide) rfl hacc2 hP2 (by decide) (by decide) (by decide) T2' (fun H1 E Q' e hbad => ⟨.ref ob, rfl, eo_tup (os := [.str "=", .str "X", .str "X"]) (eao_cons eo_str (eao_cons eo_str (eao_cons eo_str eao_nil))) (by decide) H1 (Ex.refl _) _ fun v H2 e3 hv => ⟨_, _, _, rfl, .inr ⟨ob, dr, rs, rfl, (hO.extN (eJ2.trans e)).ext e3, A0.ok, .inr ⟨wE, dzE.lw (show OV H2 v wE.o from hv) (strip_o wE), .inl ⟨"=", fu_e A0, hbad.mono e3⟩⟩⟩⟩⟩) fun J3 acc3 g3 T3 hacc3 hP3 => ?_
  have eJ3 := go_extN eJ2 g3 nDl
  refine q_when (b := false) (et_not (a := true) (et_B fun H1 e1' Q q => ⟨.ref Dl, rfl, eo_lst (os := [prO "name" (.str "u"), prO "name" (.str "v"), prO "name" (.str "=")]) (eao_cons (eo_tup (eao_cons eo_str (eao_cons eo_str eao_nil)) (by decide)) (eao_cons (eo_tup (eao_cons eo_str (eao_cons eo_str eao_nil)) (by decide)) (eao_cons (eo_tup (eao_cons eo_str (eao_cons eo_str eao_nil)) (by decide)) eao_nil))) (by decide) H1 (Ex.refl _) _ fun u H2 e2' hu => ⟨.ref Dl, u, .lst [prO "name" (.str "u"), prO "name" (.str "v"), prO "name" (.str "=")], rfl, ⟨Dl, _, rfl, e2' _ _ (e1' _ _ hacc3), hP3.ext (e1'.trans e2')⟩, hu, by decide, by decide, by decide, fun H3 e3 => q H3 (e2'.trans e3)⟩⟩)) (fun z => nomatch z) fun _ J4 eJ4 => ?_
  exact k J4 _ (eJ3.trans (ExtN.of eJ4))
end
end K28

set_option Elab.async false
set_option linter.all false
set_option maxRecDepth 100000
set_option maxHeartbeats 4000000
/-! _law_refused_right: the order; what is no rows. -/
namespace K28
open PySem PySem.Spec PyProof.Rows L2 Evl LamX
/-- what is no rows, and where it breaks -/
def rodds : List (O × Int) := [(.non, 0), (.int 5, 0), (.str "ab", 0), (.dct, 0), (.lst [.non], 0), (.lst [.tup [.str "a"]], 0), (.lst [.tup [.str "a", .int 0]], 0), (.lst [.tup [.str "a", .bl true]], 0),
  (.lst [.tup [.str "a", .int 1], .tup [.str "a", .int 2]], 1), (.lst [.tup [.str "a", .int 1], .tup [.str "X", .int 2]], 1), (.lst [.tup [.str "a", .int 1], .tup [.str "not", .int 1]], 1), (.lst [.tup [.int 5, .int 1]], 0)]
def roddB (p : O × Int) : Bool := (match badR p.1 with | some i => decide ((i : Int) = p.2) | none => false) && (rowsS p.1 && (decide (p.1.items.length ≤ 100) && (decide (p.1.dq ≤ 3) && decide (p.1.sz ≤ 100))))
theorem rodds_bad : rodds.all roddB = true := by decide +kernel
section
variable {P : Program} {w : World} {K : PySem.W.Frag} {mg : Str → Option Value} {base : Heap} {C f c : Addr} {A : Around} {outer : List Env} {s : Shared} {HX : Hp}
theorem rb0 (T : TO P w K mg base C) (hr : Room 45 (XR P w K mg base f c A outer s HX).A) : ∃ t, PS (XR P w K mg base f c A outer s HX) (stR 0) t ∧
    ∀ (D : Ends) (G : Hp) (c0 c2 c3 c4 c5 c6 c7 c8 : Option V) (a : Addr) (xs : List V) (rs : List (Str × Int)), G a = some (.lst xs) → OVs G xs (rs.map rowO) → RowsOk rs →
      (∀ (G' : Hp) (o dr hd l1 l2 : Addr), Ex G G' → OrdAt C G' o dr rs → G' hd = some (.lst [.ref l1, .ref l2]) → G' l1 = some (.lst [.str "a", .int 1]) → G' l2 = some (.lst [.str "b", .int 2]) → D.nx [c0, some (.ref a), c2, c3, c4, c5, some (.ref o), some (.ref hd), c8] G') →
      t D [c0, some (.ref a), c2, c3, c4, c5, c6, c7, c8] G := by
  obtain ⟨fI, fdI, M, FI⟩ := T.mkI
  have GI := ok_oinit T FI
  have bI := FI.bindsN (ps := ["self", "rows"]) fun kV doc pm an cdv ct us hl => match us, hl with | [_, _], _ => rfl
  refine ⟨_, ps_asg (pe_tup (pa_cons (pe_makeS (sp := spInit K C) M GI (hr.mono (by decide)) (by rfl) T.mgO bI (fun σ => passAt L2.takes0 σ) (pa_cons (pv 1) pa_nil)) (pa_cons (pe_lst (pa_cons (pe_lst (pa_cons pe_str (pa_cons pe_int pa_nil))) (pa_cons (pe_lst (pa_cons pe_str (pa_cons pe_int pa_nil))) pa_nil))) pa_nil))) (pg_tup rfl (pgs_cons (pg_name (i := 6) sc_rf.nd rfl (by first | exact Or.inl rfl | exact Or.inr rfl)) (pgs_cons (pg_name (i := 7) sc_rf.nd rfl (by first | exact Or.inl rfl | exact Or.inr rfl)) pgs_nil))), ?_⟩
  intro D G c0 c2 c3 c4 c5 c6 c7 c8 a xs rs ha hov R k
  have hs : (O.lst (rs.map rowO)).strip = rowsO rs := by
    show O.tup (O.strips _) = _
    rw [rows_strips]
    rfl
  refine ⟨.ref a, rfl, fun x dx nx ndx hne => ?_⟩
  have e1 : Ex G (upd G dx (.own x)) := Ex.new ndx
  have nx1 : (upd G dx (.own x)) x = none := by rw [upd_ne hne.symm]; exact nx
  have e2 : Ex G (upd (upd G dx (.own x)) x (.ins C dx [])) := e1.trans (Ex.new nx1)
  refine ⟨x, dx, .ref a, .lst (rs.map rowO), rfl, upd_same, ⟨a, xs, rfl, e2 _ _ ha, hov.ext e2⟩, (rows_ss R hs).1, by rw [(rows_ss R hs).2]; have := R.len; omega, .inr ⟨rs, hs, R, fun J dr hO ndr hk => ⟨rfl, ?_⟩⟩⟩
  have eJ : Ex G J := fun b u hb => hk b u (e2 _ _ hb) (ne_of_none hb nx)
  refine ⟨by show 2 ≤ sizeLine; rw [sizeLine_eq]; omega, fun l1 n1 => ⟨by show 2 ≤ sizeLine; rw [sizeLine_eq]; omega, fun l2 n2 => ⟨by show 2 ≤ sizeLine; rw [sizeLine_eq]; omega, fun hd n3 => ⟨by show 2 ≤ sizeLine; rw [sizeLine_eq]; omega, fun t n4 => ?_⟩⟩⟩⟩
  have y1 := Ex.new (o := .lst [.str "a", .int 1]) n1
  have y2 := Ex.new (o := .lst [.str "b", .int 2]) n2
  have y3 := Ex.new (o := .lst [.ref l1, .ref l2]) n3
  have y4 := Ex.new (o := .tup [.ref x, .ref hd]) n4
  refine ⟨t, _, rfl, st_of upd_same, rfl, _, _, rfl, _, _, rfl, rfl, k _ x dr hd l1 l2 (((eJ.trans y1).trans y2).trans (y3.trans y4)) (((hO.ext y1).ext y2).ext (y3.trans y4)) (y4 _ _ upd_same) ((y2.trans (y3.trans y4)) _ _ upd_same) ((y3.trans y4) _ _ upd_same)⟩
end
end K28

set_option Elab.async false
set_option linter.all false
set_option maxRecDepth 100000
set_option maxHeartbeats 4000000
/-! Data written out: its readings told by the data; the odd rows. -/
namespace K28
open PySem PySem.Spec PyProof.Rows L2 Evl LamX
mutual
def teO : O → TE
  | .non => tC .non | .bl b => tC (.bl b) | .int i => tC (.int i) | .str s => tC (.str s) | .dct => tDNewK | .lst os => tLst (taO os) | .tup os => tTup (taO os)
def taO : List O → TA
  | [] => tNil
  | o :: os => tCons (teO o) (taO os)
end
theorem taO_len : ∀ os : List O, os.length ≤ O.szs os
  | [] => Nat.le_refl _
  | o :: os => by
    have h1 := taO_len os
    have h2 : 1 ≤ o.sz := by cases o <;> (first | exact Nat.le_refl _ | exact Nat.succ_le_succ (Nat.zero_le _))
    show os.length + 1 ≤ o.sz + O.szs os
    omega
mutual
theorem eo_te {σ : L2.St} {H : Hp} : ∀ o : O, o.sz ≤ 1000 → EvO (teO o) σ H o
  | .non, _ => eo_non
  | .bl _, _ => eo_bl
  | .int _, _ => eo_int
  | .str _, _ => eo_str
  | .dct, _ => eo_dct
  | .lst os, h => by
    have h : O.szs os + 1 ≤ 1000 := h
    have := taO_len os
    exact eo_lst (eao_te os (by omega)) (by omega)
  | .tup os, h => by
    have h : O.szs os + 1 ≤ 1000 := h
    have := taO_len os
    exact eo_tup (eao_te os (by omega)) (by omega)
theorem eao_te {σ : L2.St} {H : Hp} : ∀ os : List O, O.szs os ≤ 1000 → EvAO (taO os) σ H os
  | [], _ => eao_nil
  | o :: os, h => by
    have h : o.sz + O.szs os ≤ 1000 := h
    exact eao_cons (eo_te o (by omega)) (eao_te os (by omega))
end
mutual
theorem eox_te {H0 : Hp} {σ : L2.St} {H : Hp} (h0 : Ex H0 H) : ∀ o : O, o.sz ≤ 1000 → EvOx H0 (teO o) σ H o
  | .non, _ => eox_non
  | .bl _, _ => eox_bl
  | .int _, _ => eox_int
  | .str _, _ => eox_str
  | .dct, _ => eox_dct h0
  | .lst os, h => by
    have h : O.szs os + 1 ≤ 1000 := h
    have := taO_len os
    exact eox_lst h0 (eax_te h0 os (by omega)) (by omega)
  | .tup os, h => by
    have h : O.szs os + 1 ≤ 1000 := h
    have := taO_len os
    exact eox_tup h0 (eax_te h0 os (by omega)) (by omega)
theorem eax_te {H0 : Hp} {σ : L2.St} {H : Hp} (h0 : Ex H0 H) : ∀ os : List O, O.szs os ≤ 1000 → EvAx H0 (taO os) σ H os
  | [], _ => eax_nil
  | o :: os, h => by
    have h : o.sz + O.szs os ≤ 1000 := h
    exact eax_cons (eox_te h0 o (by omega)) (eax_te h0 os (by omega))
end
/-- xs = [..]; xs.extend([..]) -/
theorem s_two {K : PySem.W.Frag} {D : Ends} {tz : TS} {σ : L2.St} {G : Hp} {i : Nat} {ta tb : TA} {os1 os2 : List O} (hi : ∀ v, (σ.set i (some v))[i]? = some (some v)) (hl : os1.length + os2.length ≤ 1000) (A : EvAO ta σ G os1) (B : ∀ l G1, Ex G G1 → EvAx G1 tb (σ.set i (some (.ref l))) G1 os2)
    (k : ∀ (G' : Hp) (l : Addr) (xs : List V), Ex G G' → G' l = some (.lst xs) → OVs G' xs (os1 ++ os2) → tz D (σ.set i (some (.ref l))) G') :
    tSeq (tAsg (tLst ta) (gName i)) (tSeq (tDrop (tBM K "list" rExtend (tVar i) (tCons (tLst tb) tNil))) tz) D σ G :=
  A G (Ex.refl _) _ fun vs G1 e1 hv => ⟨sz_of (by rw [hv.length]; omega), fun l nl => by
    have x1 : Ex G1 (upd G1 l (.lst vs)) := Ex.new nl
    have e01 := e1.trans x1
    refine ⟨.ref l, hi _, .inl ⟨rfl, _, sq_of upd_same⟩, ?_⟩
    refine B l _ e01 _ (Ex.refl _) _ fun ys G2 e2 hy => ⟨sz_of (by rw [hy.length]; omega), fun b nb => ?_⟩
    have x3 : Ex G2 (upd G2 b (.lst ys)) := Ex.new nb
    have hl3 := (e2.trans x3) _ _ (upd_same (H := G1) (a := l) (o := .lst vs))
    refine ⟨l, b, vs, ys, rfl, rfl, hl3, upd_same, sz_of (by rw [hv.length, hy.length]; omega), ?_⟩
    have e4 : Ex G1 (upd (upd G2 b (.lst ys)) l (.lst (vs ++ ys))) := Ex.mut (x1.trans (e2.trans x3)) nl
    refine k _ l _ (e1.trans e4) upd_same (OVs.append (hv.ext e4) ?_)
    have g : Go (Old (upd G1 l (.lst vs))) G2 (upd (upd G2 b (.lst ys)) l (.lst (vs ++ ys))) := (Go.of x3).trans (Go.upd ⟨vs, upd_same⟩)
    exact (hy.ext g.ex).ext hx_ex⟩
theorem pe_as {X : Cx} {e : Expr} {t t' : TE} (h : PE X e t) (q : t = t') : PE X e t' := q ▸ h
/-- odds as data -/
def pO (p : O × Int) : O := .tup [p.1, .int p.2]
def odA : List O := [.tup [.non, .int 0], .tup [.int 5, .int 0], .tup [.str "ab", .int 0], .tup [.dct, .int 0], .tup [.lst [.non], .int 0], .tup [.lst [.tup [.str "a"]], .int 0], .tup [.lst [.tup [.str "a", .int 0]], .int 0], .tup [.lst [.tup [.str "a", .bl true]], .int 0]]
def odB : List O := [.tup [.lst [.tup [.str "a", .int 1], .tup [.str "a", .int 2]], .int 1], .tup [.lst [.tup [.str "a", .int 1], .tup [.str "X", .int 2]], .int 1], .tup [.lst [.tup [.str "a", .int 1], .tup [.str "not", .int 1]], .int 1], .tup [.lst [.tup [.int 5, .int 1]], .int 0]]
theorem odAB : odA ++ odB = rodds.map pO := rfl
section
variable {P : Program} {w : World} {K : PySem.W.Frag} {mg : Str → Option Value} {base : Heap} {C f c : Addr} {A : Around} {outer : List Env} {s : Shared} {HX : Hp}
theorem rb1p : PS (XR P w K mg base f c A outer s HX) (stR 1) (tAsg (tLst (taO odA)) (gName 2)) := by
  refine ps_set (i := 2) sc_rf.nd rfl (by first | exact Or.inl rfl | exact Or.inr rfl) (pe_as (pe_lst (pa_cons (pe_tup (pa_cons pe_non (pa_cons pe_int pa_nil))) (pa_cons (pe_tup (pa_cons pe_int (pa_cons pe_int pa_nil))) (pa_cons (pe_tup (pa_cons pe_str (pa_cons pe_int pa_nil))) (pa_cons (pe_tup (pa_cons pe_dnewK (pa_cons pe_int pa_nil)))
      (pa_cons (pe_tup (pa_cons (pe_lst (pa_cons pe_non pa_nil)) (pa_cons pe_int pa_nil))) (pa_cons (pe_tup (pa_cons (pe_lst (pa_cons (pe_tup (pa_cons pe_str pa_nil)) pa_nil)) (pa_cons pe_int pa_nil))) (pa_cons (pe_tup (pa_cons (pe_lst (pa_cons (pe_tup (pa_cons pe_str (pa_cons pe_int pa_nil))) pa_nil)) (pa_cons pe_int pa_nil))) (pa_cons (pe_tup (pa_cons (pe_lst (pa_cons (pe_tup (pa_cons pe_str (pa_cons pe_bl pa_nil))) pa_nil)) (pa_cons pe_int pa_nil))) pa_nil))))))))) ?_)
  rfl
theorem rb2p : PS (XR P w K mg base f c A outer s HX) (stR 2) (tDrop (tBM K "list" rExtend (tVar 2) (tCons (tLst (taO odB)) tNil))) := by
  refine ps_expr (pe_bm PySem.F.plainAttrs_list PySem.F.slot_list_extend PySem.F.type_list_extend mt_extend (pv 2) (pa_cons (pe_as (pe_lst (pa_cons (pe_tup (pa_cons (pe_lst (pa_cons (pe_tup (pa_cons pe_str (pa_cons pe_int pa_nil))) (pa_cons (pe_tup (pa_cons pe_str (pa_cons pe_int pa_nil))) pa_nil))) (pa_cons pe_int pa_nil))) (pa_cons (pe_tup (pa_cons (pe_lst (pa_cons (pe_tup (pa_cons pe_str (pa_cons pe_int pa_nil))) (pa_cons (pe_tup (pa_cons pe_str (pa_cons pe_int pa_nil))) pa_nil))) (pa_cons pe_int pa_nil))) (pa_cons (pe_tup (pa_cons (pe_lst (pa_cons (pe_tup (pa_cons pe_str (pa_cons pe_int pa_nil))) (pa_cons (pe_tup (pa_cons pe_str (pa_cons pe_int pa_nil))) pa_nil))) (pa_cons pe_int pa_nil))) (pa_cons (pe_tup (pa_cons (pe_lst (pa_cons (pe_tup (pa_cons pe_int (pa_cons pe_int pa_nil))) pa_nil)) (pa_cons pe_int pa_nil))) pa_nil))))) ?_) pa_nil))
  rfl
theorem rb1 (D : Ends) (tz : TS) (G : Hp) (c0 c1 c2 c3 c4 c5 c6 c7 c8 : Option V)
    (k : ∀ (G' : Hp) (l : Addr) (xs : List V), Ex G G' → G' l = some (.lst xs) → OVs G' xs (rodds.map pO) → tz D [c0, c1, some (.ref l), c3, c4, c5, c6, c7, c8] G') :
    tSeq (tAsg (tLst (taO odA)) (gName 2)) (tSeq (tDrop (tBM K "list" rExtend (tVar 2) (tCons (tLst (taO odB)) tNil))) tz) D [c0, c1, c2, c3, c4, c5, c6, c7, c8] G := by
  refine s_two (fun _ => rfl) (by decide) (eao_te odA (by decide)) (fun l G1 e1 => eax_te (Ex.refl _) odB (by decide)) fun G' l xs e hl hov => ?_
  rw [odAB] at hov
  exact k G' l xs e hl hov
end
end K28

set_option Elab.async false
set_option linter.all false
set_option maxRecDepth 100000
set_option maxHeartbeats 4000000
/-! _law_refused_right: what is no rows. -/
namespace K28
open PySem PySem.Spec PyProof.Rows L2 Evl LamX
abbrev tR0 (K : PySem.W.Frag) (C : Addr) : XK → TE := fun E => tMakeS C (spInit K C) (WEe E) (tCons (tVar 3) tNil)
section
variable {P : Program} {w : World} {K : PySem.W.Frag} {mg : Str → Option Value} {base : Heap} {C f c : Addr} {A : Around} {outer : List Env} {s : Shared} {HX : Hp}
theorem rb3 (T : TO P w K mg base C) (t2 : TabF K mg base) (hc : He.codeOf K ("_law_refused_right", none) = c) (hr : Room 45 (XR P w K mg base f c A outer s HX).A) : ∃ t, PS (XR P w K mg base f c A outer s HX) (stR 3) t ∧
    ∀ (D : Ends) (G : Hp) (c0 c1 c3 c4 c5 c6 c7 c8 : Option V) (l : Addr) (xs : List V), Tabs (tabT K) G → G l = some (.lst xs) → OVs G xs (rodds.map pO) →
      (∀ G', Tabs (tabT K) G' → ExtN G G' → D.nx [c0, c1, some (.ref l), c3, c4, c5, c6, c7, c8] G') →
      t D [c0, c1, some (.ref l), c3, c4, c5, c6, c7, c8] G := by
  obtain ⟨fS, dS, GS, bS, kS, mS⟩ := (ok_same T.toT28 9).ex
  obtain ⟨fI, fdI, M, FI⟩ := T.mkI
  have GI := ok_oinit T FI
  have bI := FI.bindsN (ps := ["self", "rows"]) fun kV doc pm an cdv ct us hl => match us, hl with | [_, _], _ => rfl
  have tb := t2.tb ("_law_refused_right", none) (List.mem_of_getElem? (i := 0) rfl)
  have ecd : (He.cT K ("_law_refused_right", none)).1 = c := hc
  rw [ecd] at tb
  have hm : ((He.cT K ("_law_refused_right", none)).2, ("_law_refused_right.<locals>.<lambda>" : Str)) ∈ tabT K := List.mem_of_getElem? (i := 0) (by rfl)
  refine ⟨_, ps_if (pt_not (pt_val (pe_callB (cr_all rfl) (by rfl) T.all (by decide +kernel) (pa_cons (pe_lc (own := [("_law_odd", 3), ("_law_index", 8)]) (g := gPair K 3 8) (tt := tYes) (te := tCall (spSa 9) [] E0 (tCons (tMet K (tR0 K C)) (tCons (tTup (tCons (tC (.str "rows")) (tCons (tVar 8) tNil))) tNil))) rfl sc_rf.nd (pi_list (pv 2)) (blkOk_by (N := nRf) (sc := defScope s__law_refused_right) (by decide +kernel))
      (fun _ _ _ _ _ => pg_tup rfl (pgs_cons (pg_name (i := 3) sc_rf.nd rfl (Or.inr rfl)) (pgs_cons (pg_name (i := 8) sc_rf.nd rfl (Or.inl rfl)) pgs_nil))) (fun _ _ _ _ _ => pts_nil)
      (fun s1 H1 C1 cl fp => pe_call GS (hr.mono (by decide)) (by rfl) mS kS bS .nil pass0 (pa_cons (pe_met (k := 35) (t := tR0 K C) T.toT28 (by rfl) tb rfl hm (hr.mono (by decide)) (lamS_by (sc := { kind := .function, names := [(".0", .local), ("_law_odd", .cell), ("_law_index", .local), ("_law_same", .globalImplicit), ("_law_d_met", .globalImplicit)], isGenerator := false, isCoroutine := false }) (by decide +kernel)) rfl (fun _ _ _ _ _ => rfl)
        (fun A outer s H E f c' hr2 => pe_makeS (sp := spInit K C) M GI (hr2.mono (by decide)) (by rfl) T.mgO bI (fun σ => passAt (takes_of rfl rfl rfl rfl) σ) (pa_cons (pv 3) pa_nil))) (pa_cons (pe_tup (pa_cons pe_str (pa_cons (pv 8) pa_nil))) pa_nil)))) pa_nil)))) (pss_one ps_never) pss_nil, ?_⟩
  intro D G c0 c1 c3 c4 c5 c6 c7 c8 l xs hT hl hov k
  have hlen : xs.length = 12 := by rw [hov.length]; rfl
  have hrb := List.all_eq_true.mp rodds_bad
  refine ⟨.ref l, rfl, l, rfl, ⟨xs, sq_of hl⟩, fun Dl hD => ?_⟩
  refine lc_list (xs := xs) (fun i J => ExtN G J ∧ Tabs (tabT K) J ∧ J Dl = some (.lst ((List.replicate i true).map V.bl))) ⟨ExtN.of (Ex.new hD), hT.ext (Ex.new hD), upd_same⟩ (fun i J _ c => sq_of (c.1 _ _ hl lst_tbl)) (fun i x J hi c => ?_) (fun J c => ?_)
  · obtain ⟨eN, TJ, hJ⟩ := c
    have hil := (List.getElem?_eq_some_iff.mp hi).1
    obtain ⟨o, ho, hxo⟩ := (hov.extN eN).get hi
    rw [List.getElem?_map] at ho
    obtain ⟨p, hp, rfl⟩ := Option.map_eq_some_iff.mp ho
    have hb := hrb p (List.mem_of_getElem? hp)
    obtain ⟨t, ws, rfl, ht, v1, w1, rfl, hv1, v2, w2, rfl, hv2, h0⟩ := hxo
    obtain rfl : w2 = [] := h0
    obtain rfl : v2 = .int p.2 := hv2
    unfold roddB at hb
    obtain ⟨hb1, hb⟩ := Bool.and_eq_true_iff.mp hb
    obtain ⟨hb2, hb⟩ := Bool.and_eq_true_iff.mp hb
    obtain ⟨hb3, hb⟩ := Bool.and_eq_true_iff.mp hb
    obtain ⟨hb4, hb5⟩ := Bool.and_eq_true_iff.mp hb
    obtain ⟨j, hj, hj2⟩ : ∃ j : Nat, badR p.1 = some j ∧ (j : Int) = p.2 := by
      cases q : badR p.1 with
      | none => rw [q] at hb1; cases hb1
      | some j => rw [q] at hb1; exact ⟨j, rfl, of_decide_eq_true hb1⟩
    refine ⟨t, _, rfl, st_of ht, rfl, _, _, rfl, _, _, rfl, rfl, rfl, ?_⟩
    unfold tYes
    dsimp only
    rw [if_pos rfl]
    refine lam_bad (x := "BadRows") (z := "index") (s := "rows") (v := .int p.2) (by decide) TJ (fun H1 E Q' e hbad => ⟨v1, rfl, fun x dx nx ndx hne => ?_⟩) fun ta G2 e2 T2 h2 => ?_
    · have e1 : Ex H1 (upd H1 dx (.own x)) := Ex.new ndx
      have nx1 : (upd H1 dx (.own x)) x = none := by rw [upd_ne hne.symm]; exact nx
      have e2 : Ex H1 (upd (upd H1 dx (.own x)) x (.ins C dx [])) := e1.trans (Ex.new nx1)
      refine ⟨x, dx, v1, p.1, rfl, upd_same, (hv1.extN e).ext e2, hb2, of_decide_eq_true hb3, .inl ⟨j, hj, ?_⟩⟩
      rw [hj2]
      exact hbad.mono e2
    · refine ⟨.int p.2, rfl, by show 2 ≤ sizeLine; rw [sizeLine_eq]; omega, fun t3 nt => ?_⟩
      have x3 : Ex G2 (upd G2 t3 (.tup [.str "rows", .int p.2])) := Ex.new nt
      have hJ2 := e2 _ _ hJ lst_tbl
      refine ⟨.ref ta, .ref t3, prO "rows" (.int p.2), rfl, (Go.ovs (o := .int p.2) rfl h2).ext x3, Go.ovs (o := .int p.2) rfl upd_same, by show 1 < 9; decide, by decide, by show 3 ≤ 40000; decide, fun J2 e4 => ?_⟩
      have e24 := x3.trans e4
      refine ⟨_, e24 _ _ hJ2, sz_lt (by simp; omega), ?_, tabs_put (T2.ext e24) (e24 _ _ hJ2), ?_⟩
      · exact go_extN ((eN.trans e2).trans (ExtN.of e24)) (Go.upd rfl) (fun o _ z => by rw [hD] at z; cases z)
      · rw [upd_same, List.replicate_succ']
        simp
  · obtain ⟨eN, TJ, hJ⟩ := c
    refine ⟨Dl, List.replicate xs.length true, rfl, sq_of hJ, true, by rw [all_true], ?_⟩
    exact k J TJ eN
end
end K28

set_option Elab.async false
set_option linter.all false
set_option maxRecDepth 100000
set_option maxHeartbeats 4000000
/-! An order's own ==, its rows. -/
namespace L2
open PySem PySem.Spec PyProof.Rows
section
variable {X : Cx} {CX : CXT} {n : Nat} {C f : Addr} {fd : FuncData} {ps : List Str} {sp : Sp} {E : XK}
/-- what stands right of an own == -/
def Rt (C : Addr) (H : Hp) (y : V) : Prop := ∃ b, y = .ref b ∧ ((∃ dy gs, H b = some (.ins C dy gs)) ∨ ∃ xs, H b = some (.lst xs))
def rOwn (C : Addr) (sp : Sp) (E : XK) : R2 := fun x y H Q => ∃ a dx fs, x = .ref a ∧ H a = some (.ins C dx fs) ∧ Rt C H y ∧ sp [x, y] H (fun v H' => ∃ b, v = .bl b ∧ Q v H') E
theorem op_own (F : FnOk X.prog X.w X.K X.mg X.base CX n f fd ps sp) (hr : Room n X.A) (hs : PySem.W.findIn X.K (.ref C) "__eq__" = some (some (.ref f))) (hf : PySem.W.isFn X.K (.ref f) = true) (hb : Binds X.K fd ps []) (hx : Passes CX X E) : OpR X (compareOp .Eq) (rOwn C sp E) := by
  intro pins s σ H x y v u Q I rx ry hq
  obtain ⟨a, dx, fs, rfl, ha, ⟨b, rfl, hy⟩, hsp⟩ := hq
  cases rx
  cases ry
  obtain ⟨mA, J, _⟩ := ins_get I.hok ha
  obtain ⟨od, J, _⟩ := J.look
  obtain ⟨m, hF⟩ := I.fr
  have hl := F.len _ _ _ _ hsp
  have r2 : Vals [V.ref a, V.ref b] [Value.ref a, Value.ref b] := .cons rfl (.cons rfl .nil)
  have go : ∀ tb, PySem.W.Looks (model X.prog X.w) s.heap (typeOf (.ref b)) tb → PySem.W.notFirst X.K C tb = true → wpAny (model X.prog X.w) X.A (richCompare .Eq (.ref a) (.ref b)) (EP X pins σ Q) X.xe s := fun tb ht hn => by
    refine PySem.W.cmp_K (op := .Eq) (tb := tb) hr.units0 hF I.ok.mod.kin J ht hn hs hf ?_
    refine wpAny_call (codeAny_mono (F.run X.A X.stack s H ⟨[.ref a, .ref b], []⟩ [.ref a, .ref b] [.ref a, .ref b] _ E hr I.env0 (by
      have := hb s [.ref a, .ref b] I.kIn (by simpa using hl)
      simpa using this) r2 hsp) fun r s' hq => ?_)
    cases r with
    | error e => exact hx pins σ H s e s' I hq
    | ok fl =>
      cases fl with
      | ret w =>
        obtain ⟨z, H', I', rz, bb, ez, q⟩ := I.after hq
        subst ez
        cases rz
        exact ⟨.bl bb, H', I', rfl, q⟩
      | next => exact False.elim hq
      | brk => exact False.elim hq
      | cont => exact False.elim hq
  show wpAny (model X.prog X.w) X.A (richCompare .Eq (.ref a) (.ref b)) (EP X pins σ Q) X.xe s
  rcases hy with ⟨dy, gs, hy⟩ | ⟨xs, hy⟩
  · obtain ⟨mB, J', _⟩ := ins_get I.hok hy
    obtain ⟨od', J', _⟩ := J'.look
    exact go _ J'.type (by simp [PySem.W.notFirst])
  · obtain ⟨_, its, nn, _, _, e⟩ := I.lstM hy
    refine go (.type "list") ((PySem.W.Looks.ld e).andThen .now) ?_
    rfl
end
end L2
namespace K28
open PySem PySem.Spec PyProof.Rows L2 Evl LamX
def rowPy (r : Str × Int) : PyData := .tuple [.str r.1, .int r.2]
def rowsPy (rs : List (Str × Int)) : PyData := .list (rs.map rowPy)
theorem rows_dp {K : PySem.W.Frag} {H : Hp} : ∀ {rs : List (Str × Int)} {xs : List V}, OVs H xs (rs.map rowO) → DpAll K H xs (rs.map rowPy)
  | [], xs, h => by
    obtain rfl : xs = [] := h
    exact .nil
  | r :: rs, xs, ⟨v, us, e, h1, h2⟩ => by
    subst e
    obtain ⟨r', e1, c, rfl, hc⟩ := rows_at (H := H) (xs := [v]) (rs := [r]) (.cons h1 .nil) (i := 0) rfl
    obtain rfl : r = r' := Option.some.inj e1
    exact .cons (.tup (st_of hc) (.cons (.str _) (.cons (.int _) .nil))) (rows_dp h2)
theorem rows_lay : ∀ {rs : List (Str × Int)}, (∀ r ∈ rs, r.1 ∈ N10) → PyData.canLayAll0 (rs.map rowPy) = true
  | [], _ => by simp [PyData.canLayAll0]
  | r :: rs, h => by
    have h1 := n10_ok r.1 (h r (by simp))
    have h2 := rows_lay (rs := rs) fun x hx => h x (by simp [hx])
    simp [rowPy, PyData.canLayAll0, PyData.canLay0, h1, h2]
theorem rows_pdp : ∀ (rs : List (Str × Int)), PyData.depthAll (rs.map rowPy) ≤ 1
  | [] => by simp [PyData.depthAll]
  | r :: rs => by
    have := rows_pdp rs
    simp only [List.map_cons, rowPy, PyData.depthAll, PyData.depth]
    omega
theorem rows_shaped {rs : List (Str × Int)} (R : RowsOk rs) : SeqAt.shaped (rowsPy rs) = true := by
  show (PyData.canLay0 (rowsPy rs) && decide (PyData.depth (rowsPy rs) ≤ 64)) = true
  rw [Bool.and_eq_true]
  refine ⟨by unfold rowsPy; simp only [PyData.canLay0]; exact rows_lay R.n10, decide_eq_true ?_⟩
  have := rows_pdp rs
  unfold rowsPy
  simp only [PyData.depth]
  omega
theorem rows_eqv : ∀ (rs qs : List (Str × Int)), PyData.eqvAll (rs.map rowPy) (qs.map rowPy) = decide (rs = qs)
  | [], [] => by simp [PyData.eqvAll]
  | [], _ :: _ => by simp [PyData.eqvAll]
  | _ :: _, [] => by simp [PyData.eqvAll]
  | (s, i) :: rs, (t, j) :: qs => by
    simp only [List.map_cons, PyData.eqvAll, rows_eqv rs qs, rowPy, PyData.eqv]
    by_cases h1 : s = t <;> by_cases h2 : i = j <;> by_cases h3 : rs = qs <;> simp [h1, h2, h3]
section
variable {K : PySem.W.Frag} {H : Hp}
theorem rv_eqR {a b : Addr} {xs ys : List V} {rs qs : List (Str × Int)} (ha : H a = some (.lst xs)) (hb : H b = some (.lst ys)) (h1 : OVs H xs (rs.map rowO)) (h2 : OVs H ys (qs.map rowO)) (R : RowsOk rs) (S : RowsOk qs) : RV (rEqD K) (.ref a) (.ref b) H (.bl (decide (rs = qs))) := fun H1 e Q q =>
  ⟨rowsPy rs, rowsPy qs, .lst (sq_of (e _ _ ha)) (rows_dp (h1.ext e)), .lst (sq_of (e _ _ hb)) (rows_dp (h2.ext e)), rows_shaped R, rows_shaped S, by
    unfold rowsPy
    simp only [PyData.eqv, rows_eqv]
    exact q H1 (Ex.refl _)⟩
end
section
variable {P : Program} {w : World} {K : PySem.W.Frag} {mg : Str → Option Value} {base : Heap} {C : Addr}
def spOE (C : Addr) : Sp := fun vs H Q _ => ∃ a da ra v, vs = [.ref a, v] ∧ OrdAt C H a da ra ∧ RowsOk ra ∧ ((∃ b db rb, v = .ref b ∧ OrdAt C H b db rb ∧ RowsOk rb ∧ RetV (.bl (decide (ra = rb))) H Q) ∨ (∃ o, OV H v o ∧ RetV (.bl false) H Q))
theorem sc_oe : FnScope ["self", "other"] ["self", "other"] (defScope s_eq) := ⟨rfl, rfl, rfl, by decide +kernel, rfl, by decide +kernel, by decide +kernel⟩
theorem ok_oeq {f : Addr} {fd : FuncData} (T : TO P w K mg base C) (F : FunD K "__eq__" "Order.__eq__" (defArgs s_eq) (defBody s_eq) (defScope s_eq) [] [] f fd) : FnOk P w K mg base CX0 2 f fd ["self", "other"] (spOE C) := by
  refine F.ok sc_oe (fun vs H Q E h => ?_) (fun cdv A outer s H vs Q E hr h => ?_)
  · obtain ⟨a, da, ra, v, rfl, _⟩ := h
    rfl
  · obtain ⟨a, da, ra, v, rfl, ho, R, k⟩ := h
    obtain ⟨dx, dw, dk, fs, xs, h1, l0, l1, l2, h2, h3, h4, h5⟩ := ho.ex
    refine ⟨_, pss_one (ps_ret (pe_and (pe_callB call_isi (by rfl) T.isi PyProof.Rows.boot_isinstance (pa_cons (pv 1) (pa_cons (pe_glob (v := .ref C) rfl T.mgO rfl) pa_nil)))
      (pe_one (pe_cmpR (op_eqD hr.units) (pe_fld (pv 0) rfl) (pe_fld (pv 1) rfl) (nomark _))))), ?_⟩
    rcases k with ⟨b, db, rb, rfl, hb, S, k⟩ | ⟨o, hv, k⟩
    · obtain ⟨ex, ew, ek, gs, ys, g1, m0, m1, m2, g2, g3, g4, g5⟩ := hb.ex
      refine s_ret (ev_andV (a := true) (ev_cb (ea_cons (ev_var rfl) (ea_cons ev_c ea_nil)) fun H1 x Q q => ⟨.ref b, .ref C, .ref C, .ref C, true, rfl, .own C, .base (.ins (x _ _ g1) T.clO T.ha T.hn T.htk T.hm), kit_self, q H1 (Ex.refl H1)⟩) fun _ => ?_) k
      exact ev_op (ev_fld (ev_var rfl) h1 T.clO T.nR l0.1) (ev_fld (ev_var rfl) g1 T.clO T.nR m0.1) (rv_eqR h4 g4 h5 g5 R S)
    · exact s_ret (ev_andV (a := false) (b := false) (ev_cb (ea_cons (ev_var rfl) (ea_cons ev_c ea_nil)) fun H1 x Q q => ⟨v, .ref C, _, .ref C, false, rfl, .own C, (hv.ext x).tyx, kit_no T.hm T.tyO, q H1 (Ex.refl H1)⟩) fun z => nomatch z) k
def spORw (C : Addr) : Sp := fun vs H Q _ => ∃ a da ra, vs = [.ref a] ∧ OrdAt C H a da ra ∧ ∀ p xs G, H p = none → Ex H G → G p = some (.lst xs) → OVs G xs (ra.map rowO) → Q (.ref p) G
theorem sc_orw : FnScope ["self"] ["self"] (defScope s_rows) := ⟨rfl, rfl, rfl, by decide +kernel, rfl, by decide +kernel, by decide +kernel⟩
theorem ok_orows {f : Addr} {fd : FuncData} (T : TO P w K mg base C) (F : FunD K "rows" "Order.rows" (defArgs s_rows) (defBody s_rows) (defScope s_rows) [] [] f fd) : FnOk P w K mg base CX0 2 f fd ["self"] (spORw C) := by
  refine F.ok sc_orw (fun vs H Q E h => ?_) (fun cdv A outer s H vs Q E hr h => ?_)
  · obtain ⟨a, da, ra, rfl, _⟩ := h
    rfl
  · obtain ⟨a, da, ra, rfl, ho, k⟩ := h
    obtain ⟨dx, dw, dk, fs, xs, h1, l0, l1, l2, h2, h3, h4, h5⟩ := ho.ex
    refine ⟨_, pss_one (ps_ret (pe_callTy call_list_of (by rfl) T.list PyProof.Rows.boot_list (pa_cons (pe_fld (pv 0) rfl) pa_nil))), ?_⟩
    exact ev_fld (te := tVar 0) (ev_var rfl) h1 T.clO T.nR l0.1 H (Ex.refl H) _ fun H1 e1 => ⟨da, xs, rfl, .inl (sq_of (e1 _ _ h4)), fun l hl => k l xs _ (fresh_back e1 hl) (e1.trans (Ex.new hl)) upd_same ((h5.ext e1).ext (Ex.new hl))⟩
end
end K28

set_option Elab.async false
set_option linter.all false
set_option maxRecDepth 100000
set_option maxHeartbeats 4000000
/-! Orders compared, their rows told: readings. -/
namespace K28
open PySem PySem.Spec PyProof.Rows L2 Evl LamX
theorem OrdAt.put {C : Addr} {H : Hp} {o dr a : Addr} {rs : List (Str × Int)} {L L' : List V} (h : OrdAt C H o dr rs) (ha : H a = some (.lst L)) (n : dr ≠ a) : OrdAt C (upd H a (.lst L')) o dr rs := by
  obtain ⟨dx, dw, dk, fs, xs, h1, h0, h2, h3, h4, h5, h6, h7⟩ := h.ex
  have keep : ∀ {b : Addr} {u : HO}, H b = some u → (∀ zs, u ≠ .lst zs) → (upd H a (.lst L')) b = some u := fun {b u} hb hu => by
    rw [upd_ne fun z => hu L (by rw [z, ha] at hb; exact (Option.some.inj hb).symm)]
    exact hb
  exact ⟨dx, dw, dk, fs, xs, keep h1 (fun _ z => nomatch z), h0, h2, h3, keep h4 (fun _ z => nomatch z), keep h5 (fun _ z => nomatch z), by rw [upd_ne n]; exact h6, OVs.tx (Tx.lst ha) (rows_noL _) (rows_nod _) h7⟩
section
variable {P : Program} {w : World} {K : PySem.W.Frag} {mg : Str → Option Value} {base : Heap} {C : Addr} {σ : L2.St} {H : Hp} {te : TE}
/-- order.rows() -/
theorem eo_rows (cl : Cls K C) {i : Nat} {o dr : Addr} {rs : List (Str × Int)} (h : σ[i]? = some (some (.ref o))) (ho : OrdAt C H o dr rs) : EvO (tMeth C "rows" (spORw C) [] E0 (tVar i) tNil) σ H (.lst (rs.map rowO)) := fun H1 e Q q => by
  have ho1 := ho.ext e
  obtain ⟨dx, dw, dk, fs, xs, h1, h0, h2, h3, h4, h5, h6, h7⟩ := ho1.ex
  exact ⟨.ref o, h, o, dx, fs, rfl, h1, h0.2, o, dr, rs, rfl, ho1, fun p xs G hp e2 hx hov => q (.ref p) G e2 ⟨p, xs, rfl, hx, hov⟩⟩
/-- order == Order(..) -/
theorem ev_ownMk {E : L2.St → XK} {i : Nat} {o dr : Addr} {rs qs : List (Str × Int)} {od : O} (h : σ[i]? = some (some (.ref o))) (ho : OrdAt C H o dr rs) (R : RowsOk rs) (hte : EvO te σ H od) (hs : od.strip = rowsO qs) (S : RowsOk qs) : Ev (tOp (rOwn C (spOE C) E0) (tVar i) (tMakeS C (spInit K C) E (tCons te tNil))) σ H (.bl (decide (rs = qs))) := fun H1 e Q q =>
  ⟨.ref o, h, hte H1 e _ fun v G eG hv => mk_at (Q := fun y J => rOwn C (spOE C) E0 (.ref o) y J Q) hv hs S fun x dr2 J ndr eJ hO2 => by
    have hoJ := ho.ext ((e.trans eG).trans eJ)
    obtain ⟨dx, dw, dk, fs, xs, h1, _⟩ := hoJ.ex
    obtain ⟨ex, ew, ek, gs, ys, g1, _⟩ := hO2.ex
    exact ⟨o, dx, fs, rfl, h1, ⟨x, rfl, .inl ⟨ex, gs, g1⟩⟩, o, dr, rs, .ref x, rfl, hoJ, R, .inl ⟨x, dr2, qs, rfl, hO2, S, fun J2 e2 => ⟨_, rfl, q J2 ((eG.trans eJ).trans e2)⟩⟩⟩⟩
/-- order == other -/
theorem ev_ownV {i j : Nat} {o dr b db : Addr} {rs qs : List (Str × Int)} (h : σ[i]? = some (some (.ref o))) (hj : σ[j]? = some (some (.ref b))) (ho : OrdAt C H o dr rs) (R : RowsOk rs) (hb : OrdAt C H b db qs) (S : RowsOk qs) : Ev (tOp (rOwn C (spOE C) E0) (tVar i) (tVar j)) σ H (.bl (decide (rs = qs))) := fun H1 e Q q =>
  ⟨.ref o, h, .ref b, hj, by
    have hoJ := ho.ext e
    have hbJ := hb.ext e
    obtain ⟨dx, dw, dk, fs, xs, h1, _⟩ := hoJ.ex
    obtain ⟨ex, ew, ek, gs, ys, g1, _⟩ := hbJ.ex
    exact ⟨o, dx, fs, rfl, h1, ⟨b, rfl, .inl ⟨ex, gs, g1⟩⟩, o, dr, rs, .ref b, rfl, hoJ, R, .inl ⟨b, db, qs, rfl, hbJ, S, fun J2 e2 => ⟨_, rfl, q J2 e2⟩⟩⟩⟩
/-- order == rows -/
theorem ev_ownL {i j : Nat} {o dr b : Addr} {rs qs : List (Str × Int)} {xs : List V} (h : σ[i]? = some (some (.ref o))) (hj : σ[j]? = some (some (.ref b))) (ho : OrdAt C H o dr rs) (R : RowsOk rs) (hb : H b = some (.lst xs)) (hx : OVs H xs (qs.map rowO)) : Ev (tOp (rOwn C (spOE C) E0) (tVar i) (tVar j)) σ H (.bl false) := fun H1 e Q q =>
  ⟨.ref o, h, .ref b, hj, by
    have hoJ := ho.ext e
    obtain ⟨dx, dw, dk, fs, xs', h1, _⟩ := hoJ.ex
    exact ⟨o, dx, fs, rfl, h1, ⟨b, rfl, .inr ⟨xs, e _ _ hb⟩⟩, o, dr, rs, .ref b, rfl, hoJ, R, .inr ⟨.lst (qs.map rowO), ⟨b, xs, rfl, e _ _ hb, hx.ext e⟩, fun J2 e2 => ⟨_, rfl, q J2 e2⟩⟩⟩⟩
/-- two data the same -/
theorem ev_sameO {ta tb : TE} {m : Nat} {o : O} (ha : EvO ta σ H o) (hb : EvO tb σ H o) (hq : o.dq < m) (hm : m ≤ 40) (hs : o.sz ≤ 40000) : Ev (tCall (spSa m) [] E0 (tCons ta (tCons tb tNil))) σ H (.bl true) := fun H1 e Q q =>
  ha H1 e _ fun u H2 e2 hu => hb H2 (e.trans e2) _ fun v H3 e3 hv => ⟨u, v, o, rfl, hu.ext e3, hv, hq, hm, hs, fun J e4 => q J ((e2.trans e3).trans e4)⟩
end
def rsAB : List (Str × Int) := [("a", 1), ("b", 2)]
theorem okAB : RowsOk rsAB := ⟨by decide +kernel, by decide +kernel, by decide +kernel, by decide⟩
def abT : O := .lst [.tup [.str "a", .int 1], .tup [.str "b", .int 2]]
def abL : O := .lst [.lst [.str "a", .int 1], .lst [.str "b", .int 2]]
section
variable {P : Program} {w : World} {K : PySem.W.Frag} {mg : Str → Option Value} {base : Heap} {C f c : Addr} {A : Around} {outer : List Env} {s : Shared} {HX : Hp}
theorem rbE (T : TO P w K mg base C) (hr : Room 45 (XR P w K mg base f c A outer s HX).A) : ∃ t, PSs (XR P w K mg base f c A outer s HX) [stR 10, stR 11, stR 12, stR 13] t ∧
    ∀ (D : Ends) (G : Hp) (c0 c1 c2 c3 c4 c5 c6 c8 : Option V) (hd l1 l2 : Addr), G hd = some (.lst [.ref l1, .ref l2]) → G l1 = some (.lst [.str "a", .int 1]) → G l2 = some (.lst [.str "b", .int 2]) → (∀ G', D.rt (.bl true) G') →
      t D [c0, c1, c2, c3, c4, c5, c6, some (.ref hd), c8] G := by
  obtain ⟨fS, dS, GS, bS, kS, mS⟩ := (ok_same T.toT28 9).ex
  obtain ⟨fI, fdI, M, FI⟩ := T.mkI
  have GI := ok_oinit T FI
  have bI := FI.bindsN (ps := ["self", "rows"]) fun kV doc pm an cdv ct us hl => match us, hl with | [_, _], _ => rfl
  obtain ⟨fR, fdR, MR, FR⟩ := T.mRows
  have GR := ok_orows T FR
  have bR := FR.bindsN (ps := ["self"]) fun kV doc pm an cdv ct us hl => match us, hl with | [_], _ => rfl
  obtain ⟨fQ, fdQ, MQ, FQ⟩ := T.mEq
  have GQ := ok_oeq T FQ
  have bQ := FQ.bindsN (ps := ["self", "other"]) fun kV doc pm an cdv ct us hl => match us, hl with | [_, _], _ => rfl
  refine ⟨_, pss_cons (ps_set (i := 5) sc_rf.nd rfl (by first | exact Or.inl rfl | exact Or.inr rfl) (pe_makeS (sp := spInit K C) M GI (hr.mono (by decide)) (by rfl) T.mgO bI (fun σ => passAt L2.takes0 σ) (pa_cons (pv 7) pa_nil)))
    (pss_cons (ps_asg pe_int (pg_sub (pe_ix ix_list (pv 7) pe_int (fun _ _ => rfl)) pe_int set_list))
    (pss_cons (ps_expr (pe_bm0 PySem.F.plainAttrs_list PySem.F.slot_list_pop PySem.F.type_list_pop mt_pop (pv 7)))
    (pss_one (ps_ret (pe_and (pe_call GS (hr.mono (by decide)) (by rfl) mS kS bS .nil pass0 (pa_cons (pe_meth0 (pv 5) T.clO MR GR (hr.mono (by decide)) bR .nil pass0) (pa_cons (pe_as (t' := teO abT) (pe_lst (pa_cons (pe_tup (pa_cons pe_str (pa_cons pe_int pa_nil))) (pa_cons (pe_tup (pa_cons pe_str (pa_cons pe_int pa_nil))) pa_nil))) (by rfl)) pa_nil)))
      (pe_one (pe_cmpR (op_own GQ (hr.mono (by decide)) MQ.at_ MQ.fn bQ pass0) (pv 5) (pe_makeS (sp := spInit K C) M GI (hr.mono (by decide)) (by rfl) T.mgO bI (fun σ => passAt L2.takes0 σ) (pa_cons (pe_as (t' := teO abT) (pe_lst (pa_cons (pe_tup (pa_cons pe_str (pa_cons pe_int pa_nil))) (pa_cons (pe_tup (pa_cons pe_str (pa_cons pe_int pa_nil))) pa_nil))) (by rfl)) pa_nil)) (nomark _)))))))), ?_⟩
  intro D G c0 c1 c2 c3 c4 c5 c6 c8 hd l1 l2 h1 h2 h3 k
  have hov : OV G (.ref hd) abL := ⟨hd, _, rfl, h1, .cons ⟨l1, _, rfl, h2, .cons rfl (.cons rfl .nil)⟩ (.cons ⟨l2, _, rfl, h3, .cons rfl (.cons rfl .nil)⟩ .nil)⟩
  refine ⟨.ref hd, rfl, mk_at (Q := fun x H1 => gName 5 x [c0, c1, c2, c3, c4, c5, c6, some (.ref hd), c8] H1 _) (rs := rsAB) hov rfl okAB fun x dr J ndr eJ hO => ?_⟩
  have ne1 : dr ≠ l1 := fun z => by rw [z, h2] at ndr; cases ndr
  have ne2 : dr ≠ hd := fun z => by rw [z, h1] at ndr; cases ndr
  have g1 := eJ _ _ h1
  have g2 := eJ _ _ h2
  show tSeq _ _ _ [c0, c1, c2, c3, c4, some (.ref x), c6, some (.ref hd), c8] J
  refine ev_op (x := .ref hd) (y := .int 0) (ev_var rfl) ev_c (rv_ixL (sq_of g1) (atI_nat (j := 0) rfl)) J (Ex.refl _) _ fun J1 e1 => ⟨l1, _, 1, 1, rfl, rfl, e1 _ _ g2, ixN_nat (j := 1) (by decide), ?_⟩
  have hO1 := (hO.ext e1).put (L' := [V.str "a", V.int 1].set 1 (.int 9)) (e1 _ _ g2) ne1
  have nl : hd ≠ l1 := fun z => by rw [z, h2] at h1; cases h1
  have g3 : (upd J1 l1 (.lst ([V.str "a", V.int 1].set 1 (.int 9)))) hd = some (.lst [.ref l1, .ref l2]) := by rw [upd_ne nl]; exact e1 _ _ g1
  generalize upd J1 l1 (.lst ([V.str "a", V.int 1].set 1 (.int 9))) = J2 at hO1 g3 ⊢
  refine ⟨.ref hd, rfl, .inl ⟨rfl, _, sq_of g3⟩, hd, _, .ref l2, rfl, rfl, g3, rfl, ?_⟩
  have hO3 := hO1.put (L' := [V.ref l1, V.ref l2].dropLast) g3 ne2
  generalize upd J2 hd (.lst ([V.ref l1, V.ref l2].dropLast)) = J3 at hO3 ⊢
  refine s_ret (ev_andV (a := true) (b := true) (ev_sameO (o := abT) (eo_rows T.clO (i := 5) rfl hO3) (eo_te abT (by decide)) (by decide) (by decide) (by decide)) fun _ => ev_is (ev_ownMk (i := 5) rfl hO3 okAB (eo_te abT (by decide)) (qs := rsAB) rfl okAB) rfl) fun J4 _ => k J4
end
end K28

set_option Elab.async false
set_option linter.all false
set_option maxRecDepth 100000
set_option maxHeartbeats 4000000
/-! _law_refused_right whole. -/
namespace K28
open PySem PySem.Spec PyProof.Rows L2 Evl LamX
def spRf (K : PySem.W.Frag) : Sp := fun vs H Q _ => ∃ (u : V) (a : Addr) (xs : List V) (rs : List (Str × Int)), vs = [u, .ref a] ∧ H a = some (.lst xs) ∧ OVs H xs (rs.map rowO) ∧ Al rs ∧ Tabs (tabT K) H ∧ ∀ G, Q (.bl true) G
section
variable {P : Program} {w : World} {K : PySem.W.Frag} {mg : Str → Option Value} {base : Heap} {C : Addr}
theorem ok_refused (T : TO P w K mg base C) (t2 : TabF K mg base) {fd : FuncData} (F : FnP K "_law_refused_right" s__law_refused_right (He.ga K "_law_refused_right") fd) :
    FnG P w K mg base 46 (He.ga K "_law_refused_right") fd ["_law_stream", "_law_rows"] (spRf K) := by
  refine FnG.of F sc_rf (fun vs H Q E h => ?_) (fun c ⟨oc, od, osl, lk, ec⟩ A outer s H vs Q hg hr h => ?_)
  · obtain ⟨u, a, xs, rs, rfl, _⟩ := h
    rfl
  obtain ⟨u, a, xs, rs, rfl, ha, hov, A0, hT, kf⟩ := h
  have hc : He.codeOf K ("_law_refused_right", none) = c := He.codeOf_eq (p := ("_law_refused_right", none)) lk ec
  obtain ⟨u0, p0, k0⟩ := rb0 (f := He.ga K "_law_refused_right") (c := c) (outer := outer) (s := s) (HX := H) T hr
  obtain ⟨u3, p3, k3⟩ := rb3 (outer := outer) (s := s) (HX := H) T t2 hc hr
  obtain ⟨u4, p4, k4⟩ := rb4 (outer := outer) (s := s) (HX := H) T t2 hc hr
  obtain ⟨u5, p5, k5⟩ := rb5 (outer := outer) (s := s) (HX := H) T t2 hc hr
  obtain ⟨v0, v1, v2, v3, q0, q1, q2, q3, k6⟩ := rb6 (outer := outer) (s := s) (HX := H) T t2 hc hr
  obtain ⟨uE, pE, kE⟩ := rbE (f := He.ga K "_law_refused_right") (c := c) (outer := outer) (s := s) (HX := H) T hr
  refine ⟨_, PSs.nox (pss_cons p0 (pss_cons rb1p (pss_cons rb2p (pss_cons p3 (pss_cons p4 (pss_cons p5 (pss_cons q0 (pss_cons q1 (pss_cons q2 (pss_cons q3 pE)))))))))), ?_⟩
  refine k0 _ H _ _ _ _ _ _ _ _ a xs rs ha hov A0.ok fun G1 o dr hd l1 l2 e1 hO h1 h2 h3 => ?_
  refine rb1 _ _ G1 _ _ _ _ _ _ _ _ _ fun G2 l ys e2 hl hy => ?_
  have e12 := e1.trans e2
  refine k3 _ G2 _ _ _ _ _ _ _ _ l ys (hT.ext e12) hl hy fun G3 T3 e3 => ?_
  have ha3 := e3 _ _ (e12 _ _ ha) lst_tbl
  have hov3 := (hov.ext e12).extN e3
  refine k4 _ G3 _ _ _ _ _ _ _ _ a xs rs T3 ha3 hov3 (by have := A0.ok.len; omega) fun G4 c3 T4 e4 => ?_
  have e24 := e3.trans e4
  have hO4 := (hO.ext e2).extN e24
  refine k5 _ G4 _ _ _ _ _ _ _ _ o dr rs T4 hO4 A0 fun G5 c3' c4' T5 e5 => ?_
  refine k6 _ _ G5 _ _ _ _ _ _ _ _ o dr rs T5 (hO4.extN e5) A0 fun G6 c4'' e6 => ?_
  have e26 := (e24.trans e5).trans e6
  exact kE _ G6 _ _ _ _ _ _ _ _ hd l1 l2 (e26 _ _ (e2 _ _ h1) lst_tbl) (e26 _ _ (e2 _ _ h2) lst_tbl) (e26 _ _ (e2 _ _ h3) lst_tbl) kf
end
end K28

set_option Elab.async false
set_option linter.all false
set_option maxRecDepth 100000
set_option maxHeartbeats 4000000
/-! The law, its first statements. -/
namespace K28
open PySem PySem.Spec PyProof.Rows L2 Evl LamX
abbrev nLw : List Str := ["_law_script", "_law_stream", "_law_turn", "_law_rows", "_law_order", "_law_other", "_law_told", "_law_found"]
theorem sc_lw : FnScope nLw ["_law_script"] (defScope s_law) := ⟨rfl, rfl, rfl, by decide +kernel, rfl, by decide +kernel, by decide +kernel⟩
abbrev XL (P : Program) (w : World) (K : PySem.W.Frag) (mg : Str → Option Value) (base : Heap) (f c : Addr) (A : Around) (outer : List Env) (s : Shared) (H : Hp) : Cx := (cxOf CX0 P w K mg base nLw "law" (defScope s_law) f (.ref c) A outer s H E0).nox
def stL (i : Nat) : Stmt := (defBody s_law).getD i (.Pass ⟨0, 0, 0, 0⟩)
theorem OVs.rev {G : Hp} : ∀ {os : List O} {xs : List V}, OVs G xs os → OVs G xs.reverse os.reverse
  | [], xs, h => by
    obtain rfl : xs = [] := h
    exact .nil
  | o :: os, xs, ⟨v, us, e, h1, h2⟩ => by
    subst e
    rw [List.reverse_cons, List.reverse_cons]
    exact OVs.append (OVs.rev h2) (.cons h1 .nil)
theorem RowsOk.rev {rs : List (Str × Int)} (R : RowsOk rs) : RowsOk rs.reverse :=
  ⟨fun r hr => R.n10 r (List.mem_reverse.mp hr), by rw [List.map_reverse]; exact (List.reverse_perm _).nodup_iff.mpr R.nd, fun r hr => R.one r (List.mem_reverse.mp hr), by rw [List.length_reverse]; exact R.len⟩
theorem rev_ne {rs : List (Str × Int)} (A : Al rs) : rs ≠ rs.reverse := fun h => by
  have ha := A.all "a" (by decide +kernel)
  have hb := A.all "b" (by decide +kernel)
  obtain ⟨x, hx, ex⟩ := List.mem_map.mp ha
  obtain ⟨y, hy, ey⟩ := List.mem_map.mp hb
  have hne : x ≠ y := fun z => by
    rw [z, ey] at ex
    exact absurd ex (by decide)
  obtain ⟨i, hi⟩ := List.getElem?_of_mem hx
  obtain ⟨j, hj⟩ := List.getElem?_of_mem hy
  have li := (List.getElem?_eq_some_iff.mp hi).1
  have lj := (List.getElem?_eq_some_iff.mp hj).1
  have hij : i ≠ j := fun z => by
    rw [z, hj] at hi
    exact hne (Option.some.inj hi).symm
  have h0 : rs[0]? = rs[rs.length - 1]? := by
    have := congrArg (fun l : List (Str × Int) => l[0]?) h
    rw [show rs[0]? = rs.reverse[0]? from this, List.getElem?_reverse (by omega)]
    congr 1
  have l0 : 0 < rs.length := by omega
  have q0 : rs[0]? = some rs[0] := by simp
  have q1 : (rs.map (·.1))[0]? = some rs[0].1 := by rw [List.getElem?_map, q0]; rfl
  have q2 : (rs.map (·.1))[rs.length - 1]? = some rs[0].1 := by rw [List.getElem?_map, ← h0, q0]; rfl
  have := nd_at A.ok.nd q1 q2
  omega
section
variable {P : Program} {w : World} {K : PySem.W.Frag} {mg : Str → Option Value} {base : Heap} {C f c : Addr} {A : Around} {outer : List Env} {s : Shared} {HX : Hp}
theorem lb0 (T : TO P w K mg base C) (hr : Room 46 (XL P w K mg base f c A outer s HX).A) : ∃ t, PS (XL P w K mg base f c A outer s HX) (stL 0) t ∧
    ∀ (D : Ends) (G : Hp) (c1 c2 c3 c4 c5 c6 c7 : Option V) (a : Addr) (ns : List Int), SqL K G a (ns.map V.int) → Tabs (tabT K) G →
      (∀ G' p q, Spr G' p q 0 → Tabs (tabT K) G' → D.nx [some (.ref a), some (.ref p), c2, c3, c4, c5, c6, c7] G') →
      t D [some (.ref a), c1, c2, c3, c4, c5, c6, c7] G := by
  obtain ⟨fS, dS, GS, bS, kS, mS⟩ := (ok_start T.toT28).ex
  refine ⟨_, ps_set (i := 1) sc_lw.nd rfl (Or.inl rfl) (pe_call GS (hr.mono (by decide)) (by rfl) mS kS bS .nil pass0 (pa_cons (pv 0) pa_nil)), ?_⟩
  intro D G c1 c2 c3 c4 c5 c6 c7 a ns hS hT k
  exact ⟨.ref a, rfl, a, ns, rfl, hS, fun p q G' np nq e S => k G' p q S (hT.ext e)⟩
theorem lb1 (T : TO P w K mg base C) (hr : Room 46 (XL P w K mg base f c A outer s HX).A) : ∃ t, PS (XL P w K mg base f c A outer s HX) (stL 1) t ∧
    ∀ (D : Ends) (G : Hp) (c0 c2 c3 c4 c5 c6 c7 : Option V) (p q : Addr), Spr G p q 0 → Tabs (tabT K) G →
      (∀ G' c2' a xs rs, Tabs (tabT K) G' → G' a = some (.lst xs) → OVs G' xs (rs.map rowO) → Al rs → D.nx [c0, some (.ref p), c2', some (.ref a), c4, c5, c6, c7] G') →
      t D [c0, some (.ref p), c2, c3, c4, c5, c6, c7] G := by
  obtain ⟨fD, dD, GD, bD, kD, mD⟩ := (ok_d_rows T.toT28).ex
  obtain ⟨fO, dO, GO, bO, kO, mO⟩ := (ok_order_right T).ex
  refine ⟨_, ps_for PassesOwn.never rfl (pi_range1 (by rfl) T.range (pa_cons pe_int pa_nil)) (pg_name (i := 2) sc_lw.nd rfl (Or.inl rfl))
    (pss_cons (ps_set (i := 3) sc_lw.nd rfl (Or.inl rfl) (pe_call GD (hr.mono (by decide)) (by rfl) mD kD bD .nil pass0 (pa_cons (pv 1) pa_nil)))
    (pss_one (ps_if (pt_not (pt_val (pe_call GO (hr.mono (by decide)) (by rfl) mO kO bO .nil pass0 (pa_cons (pv 1) (pa_cons (pv 3) pa_nil))))) (pss_one ps_never) pss_nil))), ?_⟩
  intro D G c0 c2 c3 c4 c5 c6 c7 p q S hT k
  refine s_forR1 (n := 4) (ea_cons ev_c ea_nil) (by decide) (fun i σ' G' => (∃ c2' c3', σ' = [c0, some (.ref p), c2', c3', c4, c5, c6, c7] ∧ (i = 0 ∨ ∃ a xs rs, c3' = some (.ref a) ∧ G' a = some (.lst xs) ∧ OVs G' xs (rs.map rowO) ∧ Al rs)) ∧ ∃ n', Spr G' p q n' ∧ n' ≤ 12100 * (i : Nat) ∧ Tabs (tabT K) G') ?_ ?_ ?_
  · intro G1 e1
    exact ⟨⟨_, _, rfl, .inl rfl⟩, 0, S.ext e1, by omega, hT.ext e1⟩
  · rintro i σ' G' hi ⟨⟨c2', c3', rfl, _⟩, n', S', hn', T'⟩
    have hi' : (i : Int) < 4 := by omega
    refine ⟨.ref p, rfl, p, q, n', rfl, S', by omega, fun a G2 xs rs n2 na ha hov R hall S2 hn2 B2 => ?_⟩
    obtain ⟨a1, a2⟩ := S'.nep na
    have T2 := tabs_but T' B2 S'
    refine ⟨.ref p, rfl, .ref a, rfl, p, q, a, xs, rs, n2, rfl, S2, by omega, ha, hov, a1, a2, ⟨R, hall⟩, fun G3 n3 S3 hn3 B3 => ⟨true, rfl, ?_⟩⟩
    refine ⟨⟨_, _, rfl, .inr ⟨a, xs, rs, rfl, B3 _ _ a1 a2 ha, OVs.tx (S2.tx B3) (rows_noL _) (rows_nod _) hov, R, hall⟩⟩, n3, S3, by omega, tabs_but T2 B3 S2⟩
  · rintro σ' G' ⟨⟨c2', c3', rfl, h⟩, n', S', hn', T'⟩
    rcases h with h | ⟨a, xs, rs, rfl, h1, h2, h3⟩
    · cases h
    · exact k G' c2' a xs rs T' h1 h2 h3
theorem lb2 (T : TO P w K mg base C) (hr : Room 46 (XL P w K mg base f c A outer s HX).A) : ∃ t, PS (XL P w K mg base f c A outer s HX) (stL 2) t ∧
    ∀ (D : Ends) (G : Hp) (c0 c1 c2 c4 c5 c6 c7 : Option V) (a : Addr) (xs : List V) (rs : List (Str × Int)), G a = some (.lst xs) → OVs G xs (rs.map rowO) → RowsOk rs →
      (∀ G' o dr b db, Ex G G' → OrdAt C G' o dr rs → OrdAt C G' b db rs.reverse → D.nx [c0, c1, c2, some (.ref a), some (.ref o), some (.ref b), c6, c7] G') →
      t D [c0, c1, c2, some (.ref a), c4, c5, c6, c7] G := by
  obtain ⟨fI, fdI, M, FI⟩ := T.mkI
  have GI := ok_oinit T FI
  have bI := FI.bindsN (ps := ["self", "rows"]) fun kV doc pm an cdv ct us hl => match us, hl with | [_, _], _ => rfl
  refine ⟨_, ps_par (i := 4) (j := 5) rfl sc_lw.nd rfl rfl (by decide) rfl rfl (pa_cons (pe_makeS (sp := spInit K C) M GI (hr.mono (by decide)) (by rfl) T.mgO bI (fun σ => passAt L2.takes0 σ) (pa_cons (pv 3) pa_nil)) (pa_cons (pe_makeS (sp := spInit K C) M GI (hr.mono (by decide)) (by rfl) T.mgO bI (fun σ => passAt L2.takes0 σ) (pa_cons (pe_revL (pv 3)) pa_nil)) pa_nil)) (by rfl), ?_⟩
  intro D G c0 c1 c2 c4 c5 c6 c7 a xs rs ha hov R k
  have hst : ∀ qs : List (Str × Int), (O.lst (qs.map rowO)).strip = rowsO qs := fun qs => by
    show O.tup (O.strips _) = _
    rw [rows_strips]
    rfl
  have hv : OV G (.ref a) (.lst (rs.map rowO)) := ⟨a, xs, rfl, ha, hov⟩
  refine ⟨.ref a, rfl, fun x dx nx ndx hne => mk_at (Q := fun y J => tCons (tMakeS C (spInit K C) (WE fun _ _ _ _ => False) (tCons (tRevL K (tVar 3)) tNil)) tNil [c0, c1, c2, some (.ref a), c4, c5, c6, c7] J fun xs H2 => ∃ v w, y :: xs = [v, w] ∧ D.nx [c0, c1, c2, some (.ref a), some v, some w, c6, c7] H2) hv (hst rs) R (fun o dr J ndr eJ hO => ?_) x dx nx ndx hne⟩
  refine ⟨.ref a, rfl, a, xs, rfl, sq_of (eJ _ _ ha), fun l nl x2 dx2 nx2 ndx2 hne2 => ?_⟩
  have x1 : Ex J (upd J l (.lst xs.reverse)) := Ex.new nl
  have hv2 : OV (upd J l (.lst xs.reverse)) (.ref l) (.lst (rs.reverse.map rowO)) := ⟨l, _, rfl, upd_same, by rw [List.map_reverse]; exact OVs.rev ((hov.ext eJ).ext x1)⟩
  exact mk_at (Q := fun y J => ∃ v w, [V.ref o, y] = [v, w] ∧ D.nx [c0, c1, c2, some (.ref a), some v, some w, c6, c7] J) hv2 (hst _) R.rev (fun b db J2 ndb eJ2 hO2 => ⟨_, _, rfl, k _ o dr b db ((eJ.trans x1).trans eJ2) ((hO.ext x1).ext eJ2) hO2⟩) x2 dx2 nx2 ndx2 hne2
end
end K28

set_option Elab.async false
set_option linter.all false
set_option maxRecDepth 100000
set_option maxHeartbeats 4000000
/-! The law: rows told, orders equal; words compared; the end. -/
namespace K28
open PySem PySem.Spec PyProof.Rows L2 Evl LamX
section
variable {K : PySem.W.Frag} {σ : L2.St} {H : Hp} {C : Addr}
/-- compare, of words written out -/
theorem eo_cmp {t0 t1 t2 : TE} {E : L2.St → XK} {o dr : Addr} {rs : List (Str × Int)} {y z : W} {d : Str} (h0 : Ev t0 σ H (.ref o)) (h1 : EvO t1 σ H y.o) (h2 : EvO t2 σ H z.o) (hO : OrdAt C H o dr rs) (R : RowsOk rs) (dy : Dz y) (dz : Dz z) (ny : fu (nms rs) y = none) (nz : fu (nms rs) z = none) (hd : cmpS rs y z = d) :
    EvO (tCallS (spCmp K C) E (tCons t0 (tCons t1 (tCons t2 tNil)))) σ H (.str d) := fun H1 e Q q =>
  h0 H1 e _ fun H2 e2 => h1 H2 (e.trans e2) _ fun v H3 e3 hv => h2 H3 ((e.trans e2).trans e3) _ fun u H4 e4 hu => by
    have eA := (e2.trans e3).trans e4
    exact ⟨_, _, _, rfl, .inr ⟨o, dr, rs, rfl, hO.ext (e.trans eA), R, .inr ⟨y, dy.lw (hv.ext e4) (strip_o y), .inr ⟨ny, .inr ⟨z, dz.lw hu (strip_o z), .inr ⟨nz, fun H5 e5 => q _ H5 (eA.trans e5) (by rw [hd]; rfl)⟩⟩⟩⟩⟩⟩
/-- tuple(xs) of a list -/
abbrev tTupOf (K : PySem.W.Frag) (te : TE) : TE := tCB (fun xs H Q => ∃ p ys, xs = [.ref p] ∧ ((SqL K H p ys ∧ ∀ l, H l = none → Q (.ref l) (upd H l (.tup ys))) ∨ (SqT K H p ys ∧ Q (.ref p) H))) (tCons te tNil)
theorem eo_tupOf {te : TE} {a : Addr} {xs : List V} {os : List O} (h : Ev te σ H (.ref a)) (ha : H a = some (.lst xs)) (ho : OVs H xs os) : EvO (tTupOf K te) σ H (.tup os) := fun H1 e Q q =>
  h H1 e _ fun H2 e2 => ⟨a, xs, rfl, .inl ⟨sq_of ((e.trans e2) _ _ ha), fun l hl => q (.ref l) _ (e2.trans (Ex.new hl)) ⟨l, xs, rfl, upd_same, (ho.ext (e.trans e2)).ext (Ex.new hl)⟩⟩⟩
end
def rs3 : List (Str × Int) := [("a", 1), ("b", 1), ("f", 1)]
theorem ok3 : RowsOk rs3 := ⟨by decide +kernel, by decide +kernel, by decide +kernel, by decide⟩
def ab3 : O := .lst [.tup [.str "a", .int 1], .tup [.str "b", .int 1], .tup [.str "f", .int 1]]
def wFX : W := .n "f" [.v "X"]
def wFa : W := .n "f" [.n "a" []]
def wX : W := .v "X"
def wY : W := .v "Y"
def wB : W := .n "b" []
theorem dz_of {z : W} (h : (z.o.fitW && z.o.ss && decide (z.nd ≤ 100) && decide (z.dp ≤ 5)) = true) : Dz z := by
  simp only [Bool.and_eq_true, decide_eq_true_eq] at h
  exact ⟨h.1.1.1, h.1.1.2, by omega, by omega⟩
theorem cq1 : cmpS rs3 wFX wX = "above" := by decide +kernel
theorem cq2 : cmpS rs3 wB wA = "above" := by decide +kernel
theorem cq3 : cmpS rs3 wX wA = "none" := by decide +kernel
theorem cq4 : cmpS rs3 wFa wFX = "none" := by decide +kernel
theorem cq5 : cmpS rs3 wX wX = "same" := by decide +kernel
theorem cq6 : cmpS rs3 wX wY = "none" := by decide +kernel
theorem rows_dq1 (rs : List (Str × Int)) : (O.lst (rs.map rowO)).dq ≤ 2 := by
  show O.dqs _ + 1 ≤ 2
  have := rows_dqs rs
  omega
theorem rows_sz1 {rs : List (Str × Int)} (h : rs.length ≤ 10) : (O.lst (rs.map rowO)).sz ≤ 100 := by
  show O.szs _ + 1 ≤ 100
  rw [rows_szs]
  omega
def fnd3 : O := .lst [.str "above", .str "above", .str "none"]
def fnd3b : O := .lst [.str "none", .str "same", .str "none"]
def fnd6 : O := .lst [.str "above", .str "above", .str "none", .str "none", .str "same", .str "none"]
section
variable {P : Program} {w : World} {K : PySem.W.Frag} {mg : Str → Option Value} {base : Heap} {C f c : Addr} {A : Around} {outer : List Env} {s : Shared} {HX : Hp}
theorem lb3 (T : TO P w K mg base C) (hr : Room 46 (XL P w K mg base f c A outer s HX).A) : ∃ t0 t1, PS (XL P w K mg base f c A outer s HX) (stL 3) t0 ∧ PS (XL P w K mg base f c A outer s HX) (stL 4) t1 ∧
    ∀ (D : Ends) (tz : TS) (G : Hp) (c0 c1 c2 c3 c5 c6 c7 : Option V) (o dr : Addr) (rs : List (Str × Int)), OrdAt C G o dr rs → RowsOk rs →
      (∀ G' c6', Ex G G' → tz D [c0, c1, c2, c3, some (.ref o), c5, c6', c7] G') →
      tSeq t0 (tSeq t1 tz) D [c0, c1, c2, c3, some (.ref o), c5, c6, c7] G := by
  obtain ⟨fR, fdR, MR, FR⟩ := T.mRows
  have GR := ok_orows T FR
  have bR := FR.bindsN (ps := ["self"]) fun kV doc pm an cdv ct us hl => match us, hl with | [_], _ => rfl
  refine ⟨_, _, ps_set (i := 6) sc_lw.nd rfl (by first | exact Or.inl rfl | exact Or.inr rfl) (pe_meth0 (pv 4) T.clO MR GR (hr.mono (by decide)) bR .nil pass0),
    ps_expr (pe_bm PySem.F.plainAttrs_list PySem.F.slot_list_append PySem.F.type_list_append mt_append (pv 6) (pa_cons pe_str pa_nil)), ?_⟩
  intro D tz G c0 c1 c2 c3 c5 c6 c7 o dr rs ho R k
  obtain ⟨dx, dw, dk, fs, xs, h1, h0, h2, h3, h4, h5, h6, h7⟩ := ho.ex
  refine ⟨.ref o, rfl, o, dx, fs, rfl, h1, h0.2, o, dr, rs, rfl, ho, fun p ys G2 hp e2 hx hov => ?_⟩
  have hl : ys.length ≤ 10 := by rw [rows_len hov]; exact R.len
  exact ⟨.ref p, rfl, .inl ⟨rfl, _, sq_of hx⟩, p, ys, .str "late", rfl, rfl, hx, sz_lt (by omega), k _ _ (Ex.mut e2 hp)⟩
theorem lb5 (T : TO P w K mg base C) (hr : Room 46 (XL P w K mg base f c A outer s HX).A) : ∃ t, PS (XL P w K mg base f c A outer s HX) (stL 5) t ∧
    ∀ (D : Ends) (G : Hp) (c0 c1 c2 c6 c7 : Option V) (a o dr b db : Addr) (xs : List V) (rs : List (Str × Int)), G a = some (.lst xs) → OVs G xs (rs.map rowO) → Al rs → OrdAt C G o dr rs → OrdAt C G b db rs.reverse →
      (∀ G', Ex G G' → D.nx [c0, c1, c2, some (.ref a), some (.ref o), some (.ref b), c6, c7] G') →
      t D [c0, c1, c2, some (.ref a), some (.ref o), some (.ref b), c6, c7] G := by
  obtain ⟨fS, dS, GS, bS, kS, mS⟩ := (ok_same T.toT28 9).ex
  obtain ⟨fI, fdI, M, FI⟩ := T.mkI
  have GI := ok_oinit T FI
  have bI := FI.bindsN (ps := ["self", "rows"]) fun kV doc pm an cdv ct us hl => match us, hl with | [_, _], _ => rfl
  obtain ⟨fR, fdR, MR, FR⟩ := T.mRows
  have GR := ok_orows T FR
  have bR := FR.bindsN (ps := ["self"]) fun kV doc pm an cdv ct us hl => match us, hl with | [_], _ => rfl
  obtain ⟨fQ, fdQ, MQ, FQ⟩ := T.mEq
  have GQ := ok_oeq T FQ
  have bQ := FQ.bindsN (ps := ["self", "other"]) fun kV doc pm an cdv ct us hl => match us, hl with | [_, _], _ => rfl
  refine ⟨_, ps_if (PW.pt (pw_or (pt_not (pt_val (pe_call GS (hr.mono (by decide)) (by rfl) mS kS bS .nil pass0 (pa_cons (pe_meth0 (pv 4) T.clO MR GR (hr.mono (by decide)) bR .nil pass0) (pa_cons (pv 3) pa_nil)))))
    (pw_or (pt_cmpR (op_own GQ (hr.mono (by decide)) MQ.at_ MQ.fn bQ pass0) (pv 4) (pv 5) (nomark _)) (pw_or (pt_cmpR (op_own GQ (hr.mono (by decide)) MQ.at_ MQ.fn bQ pass0) (pv 4) (pv 3) (nomark _))
    (pw_or1 (pt_not (pt_cmpR (op_own GQ (hr.mono (by decide)) MQ.at_ MQ.fn bQ pass0) (pv 4) (pe_makeS (sp := spInit K C) M GI (hr.mono (by decide)) (by rfl) T.mgO bI (fun σ => passAt L2.takes0 σ) (pa_cons (pe_callTy call_tuple_of (by rfl) T.tuple PyProof.Rows.boot_tuple (pa_cons (pv 3) pa_nil)) pa_nil)) (nomark _)))))))) (pss_one ps_never) pss_nil, ?_⟩
  intro D G c0 c1 c2 c6 c7 a o dr b db xs rs ha hov A0 ho hb k
  have R := A0.ok
  have hst : (O.tup (rs.map rowO)).strip = rowsO rs := by
    show O.tup (O.strips _) = _
    rw [rows_strips]
    rfl
  have hz := rows_sz1 R.len
  have hq := rows_dq1 rs
  refine s_when (b := false) (et_is (et_or (a := false) (b := false) (et_is (et_not (a := true) (et_B (ev_sameO (o := .lst (rs.map rowO)) (eo_rows T.clO (i := 4) rfl ho) (eo_var (i := 3) rfl ⟨a, xs, rfl, ha, hov⟩) (by omega) (by decide) (by omega)))) rfl) fun _ =>
    et_is (et_or (a := false) (b := false) (et_is (et_test (ev_ownV (i := 4) (j := 5) rfl rfl ho R hb R.rev)) (decide_eq_false (rev_ne A0))) fun _ =>
    et_is (et_or (a := false) (b := false) (et_test (ev_ownL (i := 4) (j := 3) rfl rfl ho R ha hov)) fun _ =>
    et_is (et_not (a := true) (et_is (et_test (ev_ownMk (i := 4) rfl ho R (eo_tupOf (ev_var (i := 3) rfl) ha hov) hst R)) (decide_eq_true rfl))) rfl) rfl) rfl) rfl) (fun z => nomatch z) fun _ G1 e1 => k G1 e1
theorem lb6 (T : TO P w K mg base C) (hr : Room 46 (XL P w K mg base f c A outer s HX).A) : ∃ t, PS (XL P w K mg base f c A outer s HX) (stL 6) t ∧
    ∀ (D : Ends) (G : Hp) (c0 c1 c2 c3 c4 c5 c6 c7 : Option V), (∀ G' o dr, Ex G G' → OrdAt C G' o dr rs3 → D.nx [c0, c1, c2, c3, some (.ref o), c5, c6, c7] G') → t D [c0, c1, c2, c3, c4, c5, c6, c7] G := by
  obtain ⟨fI, fdI, M, FI⟩ := T.mkI
  have GI := ok_oinit T FI
  have bI := FI.bindsN (ps := ["self", "rows"]) fun kV doc pm an cdv ct us hl => match us, hl with | [_, _], _ => rfl
  refine ⟨_, ps_set (i := 4) sc_lw.nd rfl (by first | exact Or.inl rfl | exact Or.inr rfl) (pe_makeS (sp := spInit K C) M GI (hr.mono (by decide)) (by rfl) T.mgO bI (fun σ => passAt L2.takes0 σ) (pa_cons (pe_as (t' := teO ab3) (pe_lst (pa_cons (pe_tup (pa_cons pe_str (pa_cons pe_int pa_nil))) (pa_cons (pe_tup (pa_cons pe_str (pa_cons pe_int pa_nil))) (pa_cons (pe_tup (pa_cons pe_str (pa_cons pe_int pa_nil))) pa_nil)))) (by rfl)) pa_nil)), ?_⟩
  intro D G c0 c1 c2 c3 c4 c5 c6 c7 k
  exact mk_order (fun H1 e Q q => eo_te (H := G) ab3 (by decide) H1 e Q fun v J eJ hv => q v J eJ ⟨ab3, rs3, hv, rfl, ok3, fun x dr J2 ndr eJ2 hO => k J2 x dr ((e.trans eJ).trans eJ2) hO⟩)
theorem lb7 (T : TO P w K mg base C) (hr : Room 46 (XL P w K mg base f c A outer s HX).A) : ∃ t0 t1, PS (XL P w K mg base f c A outer s HX) (stL 7) t0 ∧ PS (XL P w K mg base f c A outer s HX) (stL 8) t1 ∧
    ∀ (D : Ends) (tz : TS) (G : Hp) (c0 c1 c2 c3 c5 c6 c7 : Option V) (o dr : Addr), OrdAt C G o dr rs3 →
      (∀ G' lf, Ex G G' → OV G' (.ref lf) fnd6 → tz D [c0, c1, c2, c3, some (.ref o), c5, c6, some (.ref lf)] G') → tSeq t0 (tSeq t1 tz) D [c0, c1, c2, c3, some (.ref o), c5, c6, c7] G := by
  obtain ⟨fC, dC, GC, bC, kC, mC⟩ := (ok_compare T).ex
  have cmp : ∀ {e1 e2 : Expr} {y z : O} {p pos : Pos}, PE (XL P w K mg base f c A outer s HX) e1 (teO y) → PE (XL P w K mg base f c A outer s HX) e2 (teO z) → True := fun _ _ => trivial
  refine ⟨_, _, ps_set (i := 7) sc_lw.nd rfl (by first | exact Or.inl rfl | exact Or.inr rfl) (pe_lst
      (pa_cons (pe_callS (sp := spCmp K C) GC (hr.mono (by decide)) (by rfl) mC kC bC (fun σ => passAt L2.takes0 σ) (pa_cons (pv 4) (pa_cons (pe_as (t' := teO wFX.o) (pe_tup (pa_cons pe_str (pa_cons pe_str pa_nil))) (by rfl)) (pa_cons (pe_as (t' := teO wX.o) pe_str (by rfl)) pa_nil))))
      (pa_cons (pe_callS (sp := spCmp K C) GC (hr.mono (by decide)) (by rfl) mC kC bC (fun σ => passAt L2.takes0 σ) (pa_cons (pv 4) (pa_cons (pe_as (t' := teO wB.o) (pe_tup (pa_cons pe_str pa_nil)) (by rfl)) (pa_cons (pe_as (t' := teO wA.o) (pe_tup (pa_cons pe_str pa_nil)) (by rfl)) pa_nil))))
      (pa_cons (pe_callS (sp := spCmp K C) GC (hr.mono (by decide)) (by rfl) mC kC bC (fun σ => passAt L2.takes0 σ) (pa_cons (pv 4) (pa_cons (pe_as (t' := teO wX.o) pe_str (by rfl)) (pa_cons (pe_as (t' := teO wA.o) (pe_tup (pa_cons pe_str pa_nil)) (by rfl)) pa_nil)))) pa_nil)))),
    ps_expr (pe_bm PySem.F.plainAttrs_list PySem.F.slot_list_extend PySem.F.type_list_extend mt_extend (pv 7) (pa_cons (pe_lst
      (pa_cons (pe_callS (sp := spCmp K C) GC (hr.mono (by decide)) (by rfl) mC kC bC (fun σ => passAt L2.takes0 σ) (pa_cons (pv 4) (pa_cons (pe_as (t' := teO wFa.o) (pe_tup (pa_cons pe_str (pa_cons (pe_tup (pa_cons pe_str pa_nil)) pa_nil))) (by rfl)) (pa_cons (pe_as (t' := teO wFX.o) (pe_tup (pa_cons pe_str (pa_cons pe_str pa_nil))) (by rfl)) pa_nil))))
      (pa_cons (pe_callS (sp := spCmp K C) GC (hr.mono (by decide)) (by rfl) mC kC bC (fun σ => passAt L2.takes0 σ) (pa_cons (pv 4) (pa_cons (pe_as (t' := teO wX.o) pe_str (by rfl)) (pa_cons (pe_as (t' := teO wX.o) pe_str (by rfl)) pa_nil))))
      (pa_cons (pe_callS (sp := spCmp K C) GC (hr.mono (by decide)) (by rfl) mC kC bC (fun σ => passAt L2.takes0 σ) (pa_cons (pv 4) (pa_cons (pe_as (t' := teO wX.o) pe_str (by rfl)) (pa_cons (pe_as (t' := teO wY.o) pe_str (by rfl)) pa_nil)))) pa_nil)))) pa_nil)), ?_⟩
  intro D tz G c0 c1 c2 c3 c5 c6 c7 o dr ho k
  have one : ∀ {E : L2.St → XK} {σ : L2.St} {J : Hp} {y z : W} {d : Str}, σ[4]? = some (some (.ref o)) → OrdAt C J o dr rs3 → Dz y → Dz z → fu (nms rs3) y = none → fu (nms rs3) z = none → cmpS rs3 y z = d → y.o.sz ≤ 1000 → z.o.sz ≤ 1000 → EvO (tCallS (spCmp K C) E (tCons (tVar 4) (tCons (teO y.o) (tCons (teO z.o) tNil)))) σ J (.str d) :=
    fun h hJ dy dz ny nz hd sy sz => eo_cmp (ev_var h) (eo_te _ sy) (eo_te _ sz) hJ ok3 dy dz ny nz hd
  have zX : Dz wX := dz_of (by decide +kernel)
  have zY : Dz wY := dz_of (by decide +kernel)
  have zFX : Dz wFX := dz_of (by decide +kernel)
  have zFa : Dz wFa := dz_of (by decide +kernel)
  have zB : Dz wB := dz_of (by decide +kernel)
  have sv : ∀ {te : TE} {σ : L2.St} {J : Hp} {d : Str}, EvO te σ J (.str d) → EvOx J te σ J (.str d) := fun h H1 e Q q => h H1 e _ fun v H2 e2 hv => q v H2 e2 (by obtain rfl : v = _ := hv; rfl)
  refine s_two (fun _ => rfl) (by decide) (eao_cons (one rfl ho zFX zX (by decide +kernel) (by decide +kernel) cq1 (by decide) (by decide)) (eao_cons (one rfl ho zB dzA (by decide +kernel) (by decide +kernel) cq2 (by decide) (by decide)) (eao_cons (one rfl ho zX dzA (by decide +kernel) (by decide +kernel) cq3 (by decide) (by decide)) eao_nil)))
    (fun l G1 e1 => eax_cons (sv (one rfl (ho.ext e1) zFa zFX (by decide +kernel) (by decide +kernel) cq4 (by decide) (by decide))) (eax_cons (sv (one rfl (ho.ext e1) zX zX (by decide +kernel) (by decide +kernel) cq5 (by decide) (by decide))) (eax_cons (sv (one rfl (ho.ext e1) zX zY (by decide +kernel) (by decide +kernel) cq6 (by decide) (by decide))) eax_nil))) fun G' l xs e hl hov => ?_
  exact k G' l e ⟨l, xs, rfl, hl, hov⟩
end
end K28

set_option Elab.async false
set_option linter.all false
set_option maxRecDepth 100000
set_option maxHeartbeats 4000000
/-! The law. -/
namespace K28
open PySem PySem.Spec PyProof.Rows L2 Evl LamX
section
variable {P : Program} {w : World} {K : PySem.W.Frag} {mg : Str → Option Value} {base : Heap} {C f c : Addr} {A : Around} {outer : List Env} {s : Shared} {HX : Hp}
theorem lb9 (T : TO P w K mg base C) (t2 : TabF K mg base) (hr : Room 46 (XL P w K mg base f c A outer s HX).A) (hg : (XL P w K mg base f c A outer s HX).A.guards = some []) : ∃ t, PS (XL P w K mg base f c A outer s HX) (stL 9) t ∧
    ∀ (D : Ends) (G : Hp) (c0 c2 c4 c5 c6 : Option V) (u : V) (a lf : Addr) (xs : List V) (rs : List (Str × Int)), G a = some (.lst xs) → OVs G xs (rs.map rowO) → Al rs → Tabs (tabT K) G → OV G (.ref lf) fnd6 → (∀ G', D.rt (.bl true) G') → t D [c0, some u, c2, some (.ref a), c4, c5, c6, some (.ref lf)] G := by
  obtain ⟨fS, dS, GS, bS, kS, mS⟩ := (ok_same T.toT28 9).ex
  obtain ⟨⟨fdR, FR⟩, mR⟩ := T.df 54 "_law_refused_right" s__law_refused_right rfl
  have GR := ok_refused T t2 FR
  have bR := FR.bindsN (ps := ["_law_stream", "_law_rows"]) fun kV doc pm an cdv ct us hl => match us, hl with | [_, _], _ => rfl
  refine ⟨_, ps_ret (pe_and (pe_call GS (hr.mono (by decide)) (by rfl) mS kS bS .nil pass0 (pa_cons (pv 7) (pa_cons (pe_as (t' := teO fnd6) (pe_lst (pa_cons pe_str (pa_cons pe_str (pa_cons pe_str (pa_cons pe_str (pa_cons pe_str (pa_cons pe_str pa_nil))))))) (by rfl)) pa_nil))) (pe_one (pe_callG GR hg hr (by rfl) mR FR.kp bR (pa_cons (pv 1) (pa_cons (pv 3) pa_nil))))), ?_⟩
  intro D G c0 c2 c4 c5 c6 u a lf xs rs ha hov A0 hT hf k
  have e6 : EvO (teO fnd6) [c0, some u, c2, some (.ref a), c4, c5, c6, some (.ref lf)] G fnd6 := eo_te fnd6 (by decide)
  refine ⟨.ref lf, rfl, e6 G (Ex.refl _) _ fun v G1 e1 hv => ⟨.ref lf, v, fnd6, rfl, hf.ext e1, hv, by decide, by decide, by decide, fun G2 e2 => ?_⟩⟩
  have e12 := e1.trans e2
  exact ⟨true, rfl, u, rfl, .ref a, rfl, u, a, xs, rs, rfl, e12 _ _ ha, hov.ext e12, A0, hT.ext e12, fun G3 => k G3⟩
end
def spLaw (K : PySem.W.Frag) : Sp := fun vs H Q _ => ∃ (a : Addr) (ns : List Int), vs = [.ref a] ∧ SqL K H a (ns.map V.int) ∧ Tabs (tabT K) H ∧ ∀ G, Q (.bl true) G
section
variable {P : Program} {w : World} {K : PySem.W.Frag} {mg : Str → Option Value} {base : Heap} {C : Addr}
theorem ok_law (T : TO P w K mg base C) (t2 : TabF K mg base) {fd : FuncData} (F : FnP K "law" s_law (He.ga K "law") fd) : FnG P w K mg base 47 (He.ga K "law") fd ["_law_script"] (spLaw K) := by
  refine FnG.of F sc_lw (fun vs H Q E h => ?_) (fun c _ A outer s H vs Q hg hr h => ?_)
  · obtain ⟨a, ns, rfl, _⟩ := h
    rfl
  · obtain ⟨a, ns, rfl, hS, hT, kf⟩ := h
    obtain ⟨u0, p0, k0⟩ := lb0 (c := c) (outer := outer) (s := s) (HX := H) T hr
    obtain ⟨u1, p1, k1⟩ := lb1 (c := c) (outer := outer) (s := s) (HX := H) T hr
    obtain ⟨u2, p2, k2⟩ := lb2 (c := c) (outer := outer) (s := s) (HX := H) T hr
    obtain ⟨u3, u4, p3, p4, k3⟩ := lb3 (c := c) (outer := outer) (s := s) (HX := H) T hr
    obtain ⟨u5, p5, k5⟩ := lb5 (c := c) (outer := outer) (s := s) (HX := H) T hr
    obtain ⟨u6, p6, k6⟩ := lb6 (c := c) (outer := outer) (s := s) (HX := H) T hr
    obtain ⟨u7, u8, p7, p8, k7⟩ := lb7 (c := c) (outer := outer) (s := s) (HX := H) T hr
    obtain ⟨u9, p9, k9⟩ := lb9 (c := c) (outer := outer) (s := s) (HX := H) T t2 hr hg
    refine ⟨tSeq u0 (tSeq u1 (tSeq u2 (tSeq u3 (tSeq u4 (tSeq u5 (tSeq u6 (tSeq u7 (tSeq u8 u9)))))))), PSs.nox (pss_cons p0 (pss_cons p1 (pss_cons p2 (pss_cons p3 (pss_cons p4 (pss_cons p5 (pss_cons p6 (pss_cons p7 (pss_cons p8 (pss_one p9)))))))))), ?_⟩
    refine k0 _ H _ _ _ _ _ _ _ a ns hS hT fun G1 p q S1 T1 => ?_
    refine k1 _ G1 _ _ _ _ _ _ _ p q S1 T1 fun G2 c2 r xs rs T2 hr2 hov A0 => ?_
    refine k2 _ G2 _ _ _ _ _ _ _ r xs rs hr2 hov A0.ok fun G3 o dr b db e3 hO hB => ?_
    refine k3 _ _ G3 _ _ _ _ _ _ _ o dr rs hO A0.ok fun G4 c6 e4 => ?_
    have e24 := e3.trans e4
    refine k5 _ G4 _ _ _ _ _ r o dr b db xs rs (e24 _ _ hr2) (hov.ext e24) A0 (hO.ext e4) (hB.ext e4) fun G5 e5 => ?_
    refine k6 _ G5 _ _ _ _ _ _ _ _ fun G6 o2 dr2 e6 hO2 => ?_
    refine k7 _ _ G6 _ _ _ _ _ _ _ o2 dr2 hO2 fun G7 lf e7 hlf => ?_
    have e27 := (e24.trans e5).trans (e6.trans e7)
    exact k9 _ G7 _ _ _ _ _ _ r lf xs rs (e27 _ _ hr2) (hov.ext e27) A0 (T2.ext e27) hlf kf
end
end K28

set_option Elab.async false
set_option linter.all false
set_option maxRecDepth 100000
set_option maxHeartbeats 4000000
/-! The law's call from the head's heap, where no guard stands; facts of the error classes. -/
namespace K28
open PySem PySem.Spec PyProof.Rows L2 LamX
/-- what is tracked at first: the tables of T, the script at a -/
def H00 (K : PySem.W.Frag) (a : Addr) (T : List Addr) (u : HO) : Hp := fun b => if b ∈ T then some (.tbl #[]) else if b = a ∧ K.lookup a = none then some u else none
section
variable {K : PySem.W.Frag} {a : Addr} {T : List Addr} {u : HO}
theorem h00_tab {b : Addr} (h : b ∈ T) : H00 K a T u b = some (.tbl #[]) := if_pos h
theorem h00_a (n : a ∉ T) (k : K.lookup a = none) : H00 K a T u a = some u := (if_neg n).trans (if_pos ⟨rfl, k⟩)
theorem h00_some {b : Addr} {o : HO} (h : H00 K a T u b = some o) : (b ∈ T ∧ o = .tbl #[]) ∨ (b = a ∧ K.lookup a = none ∧ o = u) := by
  unfold H00 at h
  by_cases c : b ∈ T
  · rw [if_pos c] at h
    exact .inl ⟨c, (Option.some.inj h).symm⟩
  · rw [if_neg c] at h
    by_cases c2 : b = a ∧ K.lookup a = none
    · rw [if_pos c2] at h
      exact .inr ⟨c2.1, c2.2, (Option.some.inj h).symm⟩
    · rw [if_neg c2] at h
      cases h
theorem h00_none {b : Addr} (h1 : b ∉ T) (h2 : b = a → K.lookup a ≠ none) : H00 K a T u b = none := by
  unfold H00
  rw [if_neg h1]
  exact if_neg fun z => h2 z.1 z.2
end
abbrev tabObj : Obj := { cls := .none, data := .fields #[] }
theorem law_callG {P : Program} {w : World} {K : PySem.W.Frag} {mg mb : Str → Option Value} {k : Nat} {fa a : Addr} {cs : List (Addr × Addr)} {fd : FuncData} {x : Str} {sp : Sp} {s : Shared} {vs : List Value} {ns : List Int}
    (KX : K.In s.heap) (hns : s.heap.Ns mainGlobals mg) (hb : s.heap.Ns builtinsNs mb) (hbb : ∀ x : Str, x ≠ "__name__" → mb x = bootBuiltins x) (hlim : s.heap.NoLimit) (hg : s.gens = #[])
    (hT : ∀ p ∈ cs, s.heap.get? p.2 = some tabObj) (nT : ∀ p ∈ cs, K.lookup p.2 = none) (C : ∀ p ∈ cs, PySem.W.CodeHd s.heap p.1 p.2)
    (hbm : ∃ (bm : Addr) (ob : Obj), mg "__builtins__" = some (.ref bm) ∧ bm ≠ builtinsNs ∧ s.heap.get? bm = some ob ∧ ob.cls = .type "module" ∧ ob.dict = some builtinsNs ∧ ob.data = .plain)
    (ha : s.heap.get? a = some { cls := .type "list", data := .seq vs.toArray }) (hi : IntsAre vs ns) (hl : ns.length ≤ sizeLine) (hr : Room k callerA)
    (F : ∀ base : Heap, K.In base → base.Ns mainGlobals mg → (∀ p ∈ cs, TabB base mg p.1 p.2) → FnG P w K mg base k fa fd [x] sp) (hbind : ∀ (s : Shared) (u : Value), BindsTo s fd ⟨[u], []⟩ [(x, u)])
    (hsp : ∀ H : Hp, (∀ p ∈ cs, H p.2 = some (.tbl #[])) → SqL K H a (ns.map V.int) → sp [.ref a] H (fun v _ => v = .bl true) E0) :
    codeAny (model P w) callerA (.call (.ref fa) ⟨[.ref a], []⟩) (fun r s' => r = .ok (.ret (.bool true)) ∧ OldK s.heap s'.heap ∧ s'.os = s.os ∧ AllBare s'.gens) s := by
  have rv := vals_ints hi
  let T := cs.map (·.2)
  let u : HO := .frz { cls := .type "list", data := .seq vs.toArray } (.lst (ns.map V.int))
  let H := H00 K a T u
  have tabAt : ∀ b ∈ T, s.heap.get? b = some tabObj := fun b hb => by
    obtain ⟨p, hp, e⟩ := List.mem_map.mp hb
    rw [← e]
    exact hT p hp
  have aT : a ∉ T := fun z => by
    have q := (tabAt a z).symm.trans ha
    cases q
  -- what is neither a list nor a table is not tracked
  have free : ∀ {b : Addr} {o : Obj}, s.heap.get? b = some o → (∀ its n, o.data ≠ .seq its n) → o.data ≠ .fields #[] → H b = none := fun {b o} e n1 n2 => h00_none (fun z => by
    rw [tabAt b z] at e
    exact n2 (by rw [← Option.some.inj e])) fun z => by
    rw [z, ha] at e
    exact (n1 _ _ (by rw [← Option.some.inj e])).elim
  have hok : HOk P w H s.heap := fun b o e => by
    rcases h00_some e with ⟨z, rfl⟩ | ⟨rfl, _, rfl⟩
    · exact tabAt b z
    · exact ⟨ha, by rw [List.length_map]; exact hl, vs, _, rv, ha⟩
  have hS : SqL K H a (ns.map V.int) := by
    cases q : K.lookup a with
    | none => exact .inl (.inr ⟨_, h00_a aT q⟩)
    | some o =>
      have e := (KX a o q).symm.trans ha
      rw [Option.some.inj e] at q
      exact .inr ⟨_, vs.toArray, _, q, rfl, rfl, rfl, by rw [List.size_toArray, hi.length]; exact hl, by simpa using rv⟩
  have up : ∀ {b : Addr} {o : Obj}, s.heap.get? b = some o → H b = none → (hidT s.heap H).get? b = some o := fun e n => hidT_get e n
  have ups : ∀ {b : Addr} {m : Str → Option Value}, s.heap.Ns b m → (hidT s.heap H).Ns b m := fun {b m} ⟨o, es, ep, e, d, r⟩ =>
    ⟨o, es, ep, up e (free e (fun _ _ z => by rw [d] at z; cases z) fun z => by rw [d] at z; cases z), d, r⟩
  have kin : K.In (hidT s.heap H) := fun b o e => up (KX b o e) (h00_none (fun z => by
    obtain ⟨p, hp, ep⟩ := List.mem_map.mp z
    rw [← ep, nT p hp] at e
    cases e) fun z => by
    rw [← z, e]
    exact Option.some_ne_none _)
  have md : L2.Mod K mg (hidT s.heap H) := ⟨kin, ups hns, ⟨mb, ups hb, hbb⟩, let ⟨mc, h1, h2⟩ := hlim; ⟨mc, ups h1, h2⟩⟩
  have TB : ∀ p ∈ cs, TabB (hidT s.heap H) mg p.1 p.2 := fun p hp => by
    refine ⟨?_, ?_, fun z => ?_⟩
    · obtain ⟨o, us, file, tf, flags, tg, inF, text, tt, e1, r1, r2, r3, r⟩ := C p hp
      refine ⟨o, us, file, tf, flags, tg, inF, text, tt, up e1 (free e1 (fun _ _ z => by rw [r2] at z; cases z) fun z => ?_), r1, r2, r3, r⟩
      rw [r2] at z
      cases z
      cases r3
    · obtain ⟨bm, ob, b1, b2, b3, b4, b5, b6⟩ := hbm
      refine ⟨bm, ob, b1, b2, fun q => ?_, fun q => ?_, up b3 (free b3 (fun _ _ z => by rw [b6] at z; cases z) fun z => by rw [b6] at z; cases z), b4, b5, b6⟩
      · obtain ⟨o, es, ep, e, d, _⟩ := hns
        rw [q, e] at b3
        cases b3
        rw [d] at b6
        cases b6
      · rw [q, hT p hp] at b3
        cases b3
        cases b6
    · obtain ⟨o, es, ep, e, d, _⟩ := hns
      rw [z, hT p hp] at e
      cases e
      cases d
  have e0 : Env0 P w K mg (hidT s.heap H) callerA [] s H := ⟨rfl, md, fun b o e => of_hidT e, Nat.le_of_eq (hidT_size _ _), trivial, (fun b hb => nomatch (show b ∈ ([] : List Addr) from hb)), hok, .of_eq hg⟩
  refine codeAny_mono ((F _ kin (ups hns) TB).run callerA [] s H ⟨[.ref a], []⟩ [.ref a] [.ref a] _ rfl hr e0 (hbind s (.ref a)) (.cons rfl .nil) (hsp H (fun p hp => h00_tab (List.mem_map.mpr ⟨p, hp, rfl⟩)) hS)) fun r s' h => ?_
  match r, h with
  | .error _, h => exact (show False from h).elim
  | .ok (.ret v), ⟨x, H', os, bare, un, hok', rx, q⟩ =>
    obtain rfl : x = .bl true := q
    obtain rfl : v = Value.bool true := rx
    have more : ∀ p ∈ cs, ∃ m : Array Value, s'.heap.get? p.2 = some { cls := .none, data := .fields m } := fun p hp => by
      obtain ⟨m, z⟩ := un.tbls p.2 #[] (h00_tab (List.mem_map.mpr ⟨p, hp, rfl⟩))
      exact ⟨_, hok' p.2 _ z⟩
    have stay : ∀ b o, b ∉ T → s.heap.get? b = some o → s'.heap.get? b = some o := fun b o nb e => by
      cases q : H b with
      | none => exact un.keep b o e q (fun z => nomatch (show b ∈ ([] : List Addr) from z)) (by simp)
      | some y =>
        rcases h00_some q with ⟨z, _⟩ | ⟨z, _, z2⟩
        · exact (nb z).elim
        · rw [z2] at q
          obtain ⟨f1, _⟩ := hok b _ q
          obtain ⟨f2, _⟩ := hok' b _ (un.frzs b _ _ q)
          rw [← Option.some.inj (f1.symm.trans e)]
          exact f2
    refine ⟨rfl, ⟨fun b o e => ?_, fun b o e => ?_⟩, os, bare⟩
    · by_cases hb : b ∈ T
      · obtain ⟨p, hp, rfl⟩ := List.mem_map.mp hb
        obtain ⟨m, hm⟩ := more p hp
        obtain rfl := Option.some.inj ((hT p hp).symm.trans e)
        exact .inr (.inl ⟨((C p hp).tab (hT p hp)).isCodeTable, rfl, #[], m, rfl, by rw [Array.empty_append]; exact hm⟩)
      · exact .inl (stay b o hb e)
    · by_cases hb : b ∈ T
      · obtain ⟨p, hp, rfl⟩ := List.mem_map.mp hb
        obtain ⟨m, hm⟩ := more p hp
        exact ⟨_, hm⟩
      · exact ⟨o, stay b o hb e⟩
structure ClF (K : PySem.W.Frag) (bm : List Value) (C : Addr) (fs : List Str) : Prop where
  cls : ∃ nm qn N bs sn sub ab col dd k0 k1 k2 k3 k5, K.lookup C = some (excClassObj nm qn C N bs bm true sn sub ab col dd k0 k1 k2 k3 k5 "ValueError.__new__")
  sa : PySem.W.findIn K (.ref C) "__setattr__" = some (some (.builtin "object.__setattr__"))
  ga : PySem.W.findIn K (.ref C) "__getattribute__" = some (some (.builtin "BaseException.__getattribute__"))
  gg : PySem.W.findIn K (.ref C) "__getattr__" = some none
  gc : PySem.W.findIn K (.ref C) "__class__" = some (some (.builtin "object.__class__"))
  kp : PySem.W.keepIn K (.ref C) = true
  no : ∀ f ∈ fs, PySem.W.findIn K (.ref C) f = some none
theorem cl_ok {K : PySem.W.Frag} {bm : List Value} {C : Addr} {fs : List Str} (h : clB K bm C fs = true) : ClF K bm C fs := by
  unfold clB at h
  obtain ⟨h1, h⟩ := Bool.and_eq_true_iff.mp h
  obtain ⟨h2, h⟩ := Bool.and_eq_true_iff.mp h
  obtain ⟨h3, h⟩ := Bool.and_eq_true_iff.mp h
  obtain ⟨h4, h⟩ := Bool.and_eq_true_iff.mp h
  obtain ⟨h5, h⟩ := Bool.and_eq_true_iff.mp h
  obtain ⟨h6, h7⟩ := Bool.and_eq_true_iff.mp h
  exact ⟨shape_ok h1, He.eqO_ok h2, He.eqO_ok h3, He.eqO_ok h4, He.eqO_ok h5, h6, fun f hf => He.eqO_ok (List.all_eq_true.mp h7 f hf)⟩
section
variable {K : PySem.W.Frag} {bm : List Value} {C : Addr} {fs : List Str}
theorem ClF.clsIn (T : ClF K bm C fs) : ∃ cd, PySem.W.clsIn K C = some cd ∧ cd.mro = .ref C :: bm ∧ cd.hasDict = true := by
  obtain ⟨nm, qn, N, bs, sn, sub, ab, col, dd, k0, k1, k2, k3, k5, hC⟩ := T.cls
  exact ⟨{ name := nm, bases := bs, mro := .ref C :: bm, ns := N, qualname := qn, hasDict := true, slotNames := sn, subclasses := sub, abstract := ab, collection := col, hasDel := false }, by unfold PySem.W.clsIn; rw [hC], rfl, rfl⟩
theorem ClF.mro (T : ClF K bm C fs) (b : Value) : PySem.W.mroIn K C b = some ((Value.ref C :: bm).contains b) := by
  obtain ⟨cd, h1, h2, h3⟩ := T.clsIn
  unfold PySem.W.mroIn
  rw [h1, Option.bind_some, h2]
  rfl
theorem ClF.ty (T : ClF K bm C fs) : PySem.W.typeIn K (.ref C) = some (.type "type") := by
  obtain ⟨nm, qn, N, bs, sn, sub, ab, col, dd, k0, k1, k2, k3, k5, hC⟩ := T.cls
  show (K.lookup C).map (·.cls) = some (.type "type")
  rw [hC]
  rfl
theorem ClF.dict (T : ClF K bm C fs) : PySem.W.hasDictIn K C = true := by
  obtain ⟨cd, h1, h2, h3⟩ := T.clsIn
  unfold PySem.W.hasDictIn
  rw [h1]
  exact h3
theorem ClF.sub (T : ClF K bm C fs) (b : Value) : PySem.W.subIn K (.ref C) b = some ((Value.ref C :: bm).contains b) := T.mro b
theorem ClF.oex (T : ClF K bm C fs) (hbm : PySem.HandSPX.refsVE bm = true) : OexC K C := by
  obtain ⟨nm, qn, N, bs, sn, sub, ab, col, dd, k0, k1, k2, k3, k5, hC⟩ := T.cls
  refine ⟨⟨nm, qn, N, bs, bm, sn, sub, ab, col, dd, k0, k1, k2, k3, k5, hC, hbm⟩, T.sa, ?_, T.ty, T.kp⟩
  rw [T.sub, List.contains_cons, PySem.HandSPX.refsVE_contains _ _ hbm]
  rfl
theorem get_cls : PySem.W.specialIn K (.builtin "object.__class__") "__get__" = some (some (.builtin "getset_descriptor.__get__")) := by
  kernel_rfl
theorem takes_cls : PySem.W.takesIn K (.builtin "object.__class__") = some true := by
  kernel_rfl
theorem ClF.xf (T : ClF K bm C fs) (hbm : PySem.HandSPX.refsVE bm = true) : XfC K C := by
  refine ⟨T.ga, T.gg, ?_, T.dict⟩
  rw [T.sub, List.contains_cons, PySem.HandSPX.refsVE_contains _ _ hbm]
  rfl
end
end K28

set_option Elab.async false
set_option linter.all false
set_option maxRecDepth 100000
set_option maxHeartbeats 4000000
/-! The head's facts; the end. -/
namespace K28
open PySem PySem.Spec PyProof.Rows L2 LamX
section
variable {P : Program} {w : World} {K : PySem.W.Frag} {h h0 base : Heap} {mg : Str → Option Value}
theorem fa_glo {x : Str} (hx : x ∈ dnms) : He.Fa.glo x ∈ fa := List.mem_append.mpr (.inl (List.mem_map.mpr ⟨x, hx, rfl⟩))
theorem fa_cls {x : Str} (hx : x ∈ cnms) : He.Fa.glo x ∈ fa := List.mem_append.mpr (.inr (List.mem_append.mpr (.inl (List.mem_map.mpr ⟨x, hx, rfl⟩))))
theorem fa_free {x : Str} (hx : x ∈ fBl) : He.Fa.free x ∈ fa := List.mem_append.mpr (.inr (List.mem_append.mpr (.inr (List.mem_append.mpr (.inl (List.mem_map.mpr ⟨x, hx, rfl⟩))))))
theorem fa_o {f : He.Fa} (i : Nat) (hf : faO[i]? = some f := by rfl) : f ∈ fa := List.mem_append.mpr (.inr (List.mem_append.mpr (.inr (List.mem_append.mpr (.inr (List.mem_of_getElem? hf))))))
theorem fn_at {i : Nat} {d : He.DefD} (hi : fnA[i]? = some d) : fn[i]? = some d := by
  unfold fn
  rw [List.getElem?_append_left (List.getElem?_eq_some_iff.mp hi).1]
  exact hi
theorem exA_ok (e : exA K = true) : (∀ p ∈ xnm, exC K p.1 p.2 = true) ∧ exO K = true ∧ (∀ p ∈ xnm, ∀ y ∈ cnms, PySem.W.exmOne K (.ref (He.ga K p.1)) (.ref (He.ga K y)) = some (decide (p.1 = y))) ∧ (∀ x ∈ hds, PySem.W.nsIn K (He.ga K "KEPT") x = some none) ∧ (∃ v, PySem.W.nsIn K (He.ga K "KEPT") "not" = some (some v)) := by
  unfold exA at e
  obtain ⟨e1, e⟩ := Bool.and_eq_true_iff.mp e
  obtain ⟨e2, e⟩ := Bool.and_eq_true_iff.mp e
  obtain ⟨e3, e4⟩ := Bool.and_eq_true_iff.mp e
  unfold exN at e4
  obtain ⟨e4, e5⟩ := Bool.and_eq_true_iff.mp e4
  refine ⟨fun p hp => List.all_eq_true.mp e1 p hp, e2, fun p hp y hy => of_decide_eq_true (List.all_eq_true.mp (List.all_eq_true.mp e3 p hp) y hy), fun x hx => He.eqO_ok (List.all_eq_true.mp e4 x hx), ?_⟩
  split at e5
  · rename_i v hv
    exact ⟨v, hv⟩
  · cases e5
theorem exO_ok (e : exO K = true) : PySem.W.findIn K (.ref (He.ga K "Order")) "__class__" = some (some (.builtin "object.__class__")) ∧ PySem.W.mroIn K (He.ga K "Order") (.type "object") = some true ∧ PySem.W.typeIn K (.ref (He.ga K "Order")) = some (.type "type") := by
  unfold exO at e
  obtain ⟨e1, e⟩ := Bool.and_eq_true_iff.mp e
  obtain ⟨e2, e3⟩ := Bool.and_eq_true_iff.mp e
  exact ⟨He.eqO_ok e1, of_decide_eq_true e2, of_decide_eq_true e3⟩
theorem errC_of (X : K.In base) (G : base.Ns mainGlobals mg) (c : SaysA w h0 K) {x z : Str} {i : Nat} (hx : x ∈ cnms) (e : exC K x z = true) {p1 p2 p3 p4 : Pos} {params : Arguments} {scope : Scope} {qual : Str}
    (hd : fn[i]? = some ⟨(x, some "__init__"), "__init__", qual, params, [.Assign [.Attribute (.Name "self" p1) z p2] (.Name z p3) p4], scope, [], []⟩) (hs : FnScope ["self", z] ["self", z] scope)
    (hb : ∀ (kV doc pm : Value) (an : Option Addr) (cdv ct : Value) (us : List Value), us.length = 2 → bindArgs (PySem.W.fnOf "__init__" qual params [.Assign [.Attribute (.Name "self" p1) z p2] (.Name z p3) p4] scope .none kV doc pm an cdv ct) ⟨us, []⟩ = pure ((["self", z] : List Str).zip us))
    (z1 : (z == ("__debug__" : Str)) = false) (z2 : (z == ("__classdict__" : Str)) = false) : ErrC P w K mg base x z := by
  unfold exC at e
  obtain ⟨e1, e2⟩ := Bool.and_eq_true_iff.mp e
  obtain ⟨e3, e4⟩ := Bool.and_eq_true_iff.mp e2
  obtain ⟨e5, e6⟩ := Bool.and_eq_true_iff.mp e4
  obtain ⟨e7, e8⟩ := Bool.and_eq_true_iff.mp e6
  have T := cl_ok e1
  obtain ⟨fd, F⟩ := c.t.d.def_ i hd
  exact ⟨T.oex (bm_ve _), T.xf (bm_ve _), T.no _ (by simp), He.glo_ok X G (c.t.d.facts (fa_cls hx)), of_decide_eq_true e7, z1, z2, _, fd, p1, p2, p3, p4, params, scope, qual, He.eqO_ok e3, of_decide_eq_true e5, F, hs, F.bindsN hb⟩
theorem to_of (X : K.In base) (G : base.Ns mainGlobals mg) (c : SaysA w h0 K) : TO P w K mg base (He.ga K "Order") := by
  obtain ⟨x1, x2, x3, x4, x5⟩ := exA_ok c.ex
  obtain ⟨y1, y2, y3⟩ := exO_ok x2
  have er : ∀ p ∈ xnm, ErrC P w K mg base p.1 p.2 := fun p hp => by
    have e := x1 p hp
    simp only [xnm, List.mem_cons, List.not_mem_nil, or_false] at hp
    rcases hp with rfl | rfl | rfl | rfl | rfl | rfl
    · exact errC_of (i := 56) X G c (by decide) e (p1 := _) (p2 := _) (p3 := _) (p4 := _) (params := _) (scope := _) (qual := _) rfl ⟨rfl, rfl, rfl, by decide +kernel, rfl, by decide +kernel, by decide +kernel⟩ (fun kV doc pm an cdv ct us hl => match us, hl with | [_, _], _ => rfl) rfl rfl
    · exact errC_of (i := 57) X G c (by decide) e (p1 := _) (p2 := _) (p3 := _) (p4 := _) (params := _) (scope := _) (qual := _) rfl ⟨rfl, rfl, rfl, by decide +kernel, rfl, by decide +kernel, by decide +kernel⟩ (fun kV doc pm an cdv ct us hl => match us, hl with | [_, _], _ => rfl) rfl rfl
    · exact errC_of (i := 58) X G c (by decide) e (p1 := _) (p2 := _) (p3 := _) (p4 := _) (params := _) (scope := _) (qual := _) rfl ⟨rfl, rfl, rfl, by decide +kernel, rfl, by decide +kernel, by decide +kernel⟩ (fun kV doc pm an cdv ct us hl => match us, hl with | [_, _], _ => rfl) rfl rfl
    · exact errC_of (i := 59) X G c (by decide) e (p1 := _) (p2 := _) (p3 := _) (p4 := _) (params := _) (scope := _) (qual := _) rfl ⟨rfl, rfl, rfl, by decide +kernel, rfl, by decide +kernel, by decide +kernel⟩ (fun kV doc pm an cdv ct us hl => match us, hl with | [_, _], _ => rfl) rfl rfl
    · exact errC_of (i := 60) X G c (by decide) e (p1 := _) (p2 := _) (p3 := _) (p4 := _) (params := _) (scope := _) (qual := _) rfl ⟨rfl, rfl, rfl, by decide +kernel, rfl, by decide +kernel, by decide +kernel⟩ (fun kV doc pm an cdv ct us hl => match us, hl with | [_, _], _ => rfl) rfl rfl
    · exact errC_of (i := 61) X G c (by decide) e (p1 := _) (p2 := _) (p3 := _) (p4 := _) (params := _) (scope := _) (qual := _) rfl ⟨rfl, rfl, rfl, by decide +kernel, rfl, by decide +kernel, by decide +kernel⟩ (fun kV doc pm an cdv ct us hl => match us, hl with | [_, _], _ => rfl) rfl rfl
  exact {
    fr := fun x hx => He.free_ok X G (c.t.d.facts (fa_free hx))
    df := fun i x st hi => by
      obtain ⟨fd, F⟩ := c.t.d.def_ i (fn_at hi)
      have hm : (dN x st).name ∈ dnms := List.mem_map.mpr ⟨_, List.mem_of_getElem? hi, rfl⟩
      exact ⟨⟨fd, F⟩, He.glo_ok X G (c.t.d.facts (fa_glo hm))⟩
    kd := c.t.tab 0 rfl
    kn := x4
    knot := x5
    kept := He.glo_ok X G (c.t.d.facts (fa_o 0))
    letters := He.str_ok X G (c.t.d.facts (fa_o 1))
    capitals := He.str_ok X G (c.t.d.facts (fa_o 2))
    longest := He.int_ok X G (c.t.d.facts (fa_o 3))
    most := He.int_ok X G (c.t.d.facts (fa_o 4))
    er := er
    xp := x3
    cl := fun x hx => He.glo_ok X G (c.t.d.facts (fa_cls hx))
    clO := He.cls_ok (c.t.d.facts (fa_o 6))
    nR := He.noat_ok (c.t.d.facts (fa_o 7))
    nW := He.noat_ok (c.t.d.facts (fa_o 8))
    nK := He.noat_ok (c.t.d.facts (fa_o 9))
    mgO := He.glo_ok X G (c.t.d.facts (fa_o 5))
    mkI := by
      obtain ⟨fd, F⟩ := c.t.d.def_ 62 (d := dM "Order" "__init__" s_init) rfl
      exact ⟨_, fd, He.mkr_ok (c.t.d.facts (fa_o 10)), F⟩
    mRows := by
      obtain ⟨fd, F⟩ := c.t.d.def_ 63 (d := dM "Order" "rows" s_rows) rfl
      exact ⟨_, fd, He.meth_ok (c.t.d.facts (fa_o 11)), F⟩
    mEq := by
      obtain ⟨fd, F⟩ := c.t.d.def_ 64 (d := dM "Order" "__eq__" s_eq) rfl
      exact ⟨_, fd, He.meth_ok (c.t.d.facts (fa_o 12)), F⟩
    ha := y1
    hn := get_cls
    htk := takes_cls
    hm := y2
    tyO := y3 }
end
theorem tri_nil : TriplesOk (#[] : Array Value).toList := by trivial
abbrev lw : PySem.W.OpenLaw := PySem.Challenge.rw_eithershown_k28_whole_orders
abbrev dK := HandSHeadRun.topDef R.prog 84
theorem walkK : PySem.W.WalkO (PySem.W.view R.prog [84]) loose (PySem.W.XL (PySem.W.view R.prog [84]) []) hookA.says lw.row.toRowW dK [] (fun f vs => PySem.call f vs) := by
  refine Att.attach_callB (n := 63) rfl rfl fun w s₀ s₁ mg mb fa o pm cd doc a vs ns G Y ho hd hcd hmg hobj hints hlen hbits hg => ?_
  obtain ⟨K, KX, c⟩ := Y
  obtain ⟨fd, F⟩ := c.t.d.def_ 55 (d := dN "law" s_law) rfl
  have e : fa = He.ga K "law" := by
    have q := (He.glo_ok KX G.T.g (c.t.d.facts (fa_glo (x := "law") (List.mem_map.mpr ⟨dN "law" s_law, List.mem_of_getElem? (i := 55) rfl, rfl⟩)))).symm.trans hmg
    exact (Value.ref.inj (Option.some.inj q)).symm
  subst e
  have tl : ∀ p ∈ tf.map (He.cT K), ∃ q ∈ tf, He.cT K q = p := fun p hp => List.mem_map.mp hp
  refine law_callG (cs := tf.map (He.cT K)) (k := 47) (x := "_law_script") (sp := spLaw K) (fd := fd) KX G.T.g G.T.b G.T.builtins G.T.nolimit hg (fun p hp => ?_) (fun p hp => ?_) (fun p hp => ?_) G.T.bmain hobj hints (Nat.le_trans hlen (by rw [sizeLine_eq]; decide)) ?_
    (fun base KB GB TB => ok_law (to_of KB GB c) ⟨fun p hp => TB _ (List.mem_map.mpr ⟨p, hp, rfl⟩)⟩ F) (fun s u => F.bindsA (ps := ["_law_script"]) (fun kV doc pm an cdv ct us hl => match us, hl with | [_], _ => rfl) s [u] rfl) (fun H hT hS => ⟨a, ns, rfl, hS, ?_, fun _ => rfl⟩)
  · obtain ⟨q, hq, rfl⟩ := tl p hp
    exact c.empty q hq
  · obtain ⟨q, hq, rfl⟩ := tl p hp
    exact c.out q hq
  · obtain ⟨q, hq, rfl⟩ := tl p hp
    exact PySem.W.codeHd_of_K KX (c.hd q hq)
  · exact ⟨rfl, by decide +kernel, by decide +kernel⟩
  · intro z hz
    obtain ⟨q, hq, rfl⟩ := List.mem_map.mp hz
    exact ⟨#[], hT _ (List.mem_map.mpr ⟨q, hq, rfl⟩), tri_nil, fun pos cv e => nomatch e⟩
end K28
open PySem PySem.W PySem.Calls PyProof.Rows
theorem PySem.Challenge.cw_eithershown_k28_whole_orders_holds : PySem.Challenge.rw_eithershown_k28_whole_orders.Holds := by
  w_on; o_law
  refine HandSHeadRun.head_any (r := OpenLaw.row PySem.Challenge.rw_eithershown_k28_whole_orders) (q := PySem.W.view K28.R.prog [84]) (H := K28.hookA) (ob := fun s => K28.obA (K28.gT s)) (M := 9000) (loose := K28.loose) (d := K28.dK) (kwd := []) (fun s => K28.obA_eq (HandSHeadRun.getT_eq s)) (by kernel_rfl) (fun s => by kernel_rfl) K28.run (by rfl) (by rfl) (by rfl) (by rfl) (by first | assumption | decide +kernel) (by decide +kernel) ⟨rfl, rfl, rfl, rfl, rfl, by decide +kernel⟩ ?hw K28.walkK
  case hw => w_witness2

