import PyProof.Rows.All
import Wide.All
import OpenK.AllK
import Wide.FinOn
import KE.KStateDown
import Lean
import HandS.ForMost
import HandS.ForExc
import HandS.Words
import HandS.WordsExc
import HandS.Defaults
import HandS.ExcInit
import HandS.ExcIs
import HandS.ExcField
import HandS.Lambda
import HandS.Head0
import HandS.Head1
import HandS.Head2
import HandS.HeadEnd
import HandS.HeadHook1
import HandS.HeadHook2
import HandS.HeadHook3
import HandS.HeadHook4
import HandS.EndTab
import PySem.Challenge.RW_eithershown_k23_whole_places
import HandS.Evl
import HandS.IsInst
import HandS.More
import HandS.StrMore
import PyProof.AutoSeq1
import HandS.CallLocal
import HandS.Walk
import HandS.DictComp
import HandS.Zip
import KE.GoesMore
import HandS.ExcOwn
import HandS.Wide
import HandS.TryMany
import HandS.ListItems
import HandS.HeadWalk
set_option Elab.async false
set_option linter.all false
set_option maxRecDepth 100000
set_option maxHeartbeats 0
/-! The text by places, the head's looks. -/
namespace K23
open PySem PySem.Spec PyProof.Rows L2
def top (i : Nat) : Stmt := PySem.Challenge.pw_eithershown_k23_whole_places.main.body.getD i (.Pass ⟨0, 0, 0, 0⟩)
abbrev FnP (K : PySem.W.Frag) (x : Str) (st : Stmt) (f : Addr) (fd : FuncData) : Prop := FunD K x x (defArgs st) (defBody st) (defScope st) [] [] f fd
abbrev s_is_integer : Stmt := top 22
abbrev s_is_number : Stmt := top 23
abbrev s_is_list : Stmt := top 24
abbrev s_is_spelled : Stmt := top 25
abbrev s_is_name : Stmt := top 26
abbrev s_is_variable : Stmt := top 27
abbrev s_has_lists : Stmt := top 28
abbrev s_frozen : Stmt := top 29
abbrev s_variables_in : Stmt := top 31
abbrev s_part_at : Stmt := top 32
abbrev s_with_part : Stmt := top 33
abbrev s_has_places : Stmt := top 35
abbrev s_words_fit : Stmt := top 36
abbrev s_word_fits : Stmt := top 37
abbrev s_is_equality : Stmt := top 38
abbrev s_atom_fits : Stmt := top 39
abbrev s_is_any_word : Stmt := top 40
abbrev s_is_any_atom : Stmt := top 41
abbrev s_checked_word : Stmt := top 43
abbrev s_check_place : Stmt := top 44
abbrev s_places_in : Stmt := top 45
abbrev s_places : Stmt := top 46
abbrev s_word_at : Stmt := top 47
abbrev s_word_put : Stmt := top 48
abbrev s_depth_of : Stmt := top 49
abbrev s_depth : Stmt := top 50
abbrev s_variables_of : Stmt := top 51
abbrev s__law_d_word : Stmt := top 53
abbrev s__law_d_atom : Stmt := top 54
abbrev s__law_d_parts : Stmt := top 55
abbrev s__law_d_variables : Stmt := top 56
abbrev s__law_d_odd_words : Stmt := top 57
abbrev s__law_d_loose : Stmt := top 58
abbrev s__law_d_met : Stmt := top 59
abbrev s__law_start : Stmt := top 60
abbrev s__law_draw : Stmt := top 61
abbrev s__law_pick : Stmt := top 62
abbrev s__law_same : Stmt := top 63
abbrev s__law_each_once : Stmt := top 64
abbrev s__law_depth : Stmt := top 65
abbrev s__law_exchanged : Stmt := top 66
abbrev s__law_word_right : Stmt := top 67
abbrev s_law : Stmt := top 68
def dN (x : Str) (st : Stmt) : He.DefD := ⟨(x, none), x, x, defArgs st, defBody st, defScope st, [], []⟩
def fnA0 : List (He.DefD) := [dN "is_integer" s_is_integer, dN "is_number" s_is_number, dN "is_list" s_is_list, dN "is_spelled" s_is_spelled, dN "is_name" s_is_name, dN "is_variable" s_is_variable, dN "has_lists" s_has_lists, dN "frozen" s_frozen, dN "variables_in" s_variables_in, dN "part_at" s_part_at, dN "with_part" s_with_part, dN "has_places" s_has_places, dN "words_fit" s_words_fit, dN "word_fits" s_word_fits, dN "is_equality" s_is_equality, dN "atom_fits" s_atom_fits, dN "is_any_word" s_is_any_word, dN "is_any_atom" s_is_any_atom, dN "checked_word" s_checked_word, dN "check_place" s_check_place]
def fnA1 : List (He.DefD) := [dN "places_in" s_places_in, dN "places" s_places, dN "word_at" s_word_at, dN "word_put" s_word_put, dN "depth_of" s_depth_of, dN "depth" s_depth, dN "variables_of" s_variables_of, dN "_law_d_word" s__law_d_word, dN "_law_d_atom" s__law_d_atom, dN "_law_d_parts" s__law_d_parts, dN "_law_d_variables" s__law_d_variables, dN "_law_d_odd_words" s__law_d_odd_words, dN "_law_d_loose" s__law_d_loose, dN "_law_d_met" s__law_d_met, dN "_law_start" s__law_start, dN "_law_draw" s__law_draw, dN "_law_pick" s__law_pick, dN "_law_same" s__law_same, dN "_law_each_once" s__law_each_once, dN "_law_depth" s__law_depth]
def fnA2 : List (He.DefD) := [dN "_law_exchanged" s__law_exchanged, dN "_law_word_right" s__law_word_right, dN "law" s_law]
def fnA : List (He.DefD) := fnA0 ++ fnA1 ++ fnA2
def loose0 : List (Str) := ["__name__", "ShowError", "BadArities", "BadClause", "BadClauses", "BadNumber", "BadOrder", "BadPairs", "BadPlace", "BadRows", "BadSubstitution", "BadTaken", "BadTruth", "BadWord", "NotGround", "NotOrdered", "LETTERS", "CAPITALS", "LONGEST", "MOST_PLACES", "KEPT", "is_integer", "is_number", "is_list", "is_spelled", "is_name", "is_variable", "has_lists", "frozen", "variables_in"]
def loose1 : List (Str) := ["part_at", "with_part", "has_places", "words_fit", "word_fits", "is_equality", "atom_fits", "is_any_word", "is_any_atom", "checked_word", "check_place", "places_in", "places", "word_at", "word_put", "depth_of", "depth", "variables_of", "_law_d_word", "_law_d_atom", "_law_d_parts", "_law_d_variables", "_law_d_odd_words", "_law_d_loose", "_law_d_met", "_law_start", "_law_draw", "_law_pick", "_law_same", "_law_each_once"]
def loose2 : List (Str) := ["_law_depth", "_law_exchanged", "_law_word_right"]
def loose : List (Str) := loose0 ++ loose1 ++ loose2
/-- walking names to what they stand for -/
def nv (g : Addr → Option Obj) (x : Str) : Addr := He.ga (He.frG g [mainGlobals]) x
def codeOf (g : Addr → Option Obj) (f : Addr) : List Addr := match g f with
  | some ⟨_, _, .func fd, _⟩ => He.refV fd.code
  | _ => []
def objsC (g : Addr → Option Obj) (x : Str) : List Addr := match g (nv g x) with
  | some ⟨_, _, .cls cd, _⟩ => nv g x :: cd.ns :: (match PySem.W.nsIn (He.frG g [cd.ns]) cd.ns "__init__" with
    | some (some (.ref f)) => f :: codeOf g f
    | _ => [])
  | _ => []
def objsF (g : Addr → Option Obj) (x : Str) : List Addr := nv g x :: codeOf g (nv g x)
def dnms : List Str := fnA.map (·.name)
abbrev sI (i : Nat) : Stmt := inClass (top i) 0
def dI (x : Str) (i : Nat) : He.DefD := ⟨(x, some "__init__"), "__init__", x ++ ".__init__", defArgs (sI i), defBody (sI i), defScope (sI i), [], []⟩
def fnI : List He.DefD := [dI "BadWord" 13, dI "BadPlace" 8]
def fn : List He.DefD := fnA ++ fnI
def cnms : List Str := ["BadArities", "BadClause", "BadClauses", "BadNumber", "BadOrder", "BadPairs", "BadPlace", "BadRows", "BadSubstitution", "BadTaken", "BadTruth", "BadWord", "NotGround", "NotOrdered"]
def asK (g : Addr → Option Obj) : List Addr := mainGlobals :: sysModules :: nv g "KEPT" :: (objsC g "ShowError" ++ cnms.flatMap (objsC g)) ++ dnms.flatMap (objsF g)
def fK (g : Addr → Option Obj) : PySem.W.Frag := He.frT g (asK g)
def fBl : List Str := ["all", "bool", "dict", "enumerate", "int", "isinstance", "len", "list", "max", "min", "range", "repr", "str", "tuple", "zip"]
def faG : List He.Fa := dnms.map He.Fa.glo
def faC : List He.Fa := cnms.map He.Fa.glo
def faF : List He.Fa := fBl.map He.Fa.free
def faO : List He.Fa := [.glo "KEPT", .str "LETTERS" "abcdefghijklmnopqrstuvwxyz", .str "CAPITALS" "ABCDEFGHIJKLMNOPQRSTUVWXYZ", .int "LONGEST" 8, .int "MOST_PLACES" 6]
def fa : List He.Fa := faG ++ (faC ++ (faF ++ faO))
def kept0 : List Str := ["all", "some", "not", "and", "or", "then", "iff", "false", "axiom", "goal", "function", "predicate", "things", "is", "by", "on", "of", "put", "for", "in", "at"]
def kept1 : List Str := ["into", "given", "instance", "resolve", "replace", "same", "alike", "either", "turned", "chained", "parts", "holds", "class", "fact", "cell", "clash", "size", "follows", "fails", "open", "watch", "hold"]
def kept : List Str := kept0 ++ kept1
def ts : List He.Tab := [(fun K => He.ga K "KEPT", kept)]
/-- the defs that make lambdas -/
def tf : List He.Defn := [("law", none), ("_law_word_right", none)]
abbrev R : PySem.W.OpenRow := PySem.W.OpenLaw.row PySem.Challenge.rw_eithershown_k23_whole_places
/-- names that are heads of words -/
def hds : List Str := ["a", "b", "c", "f", "g", "h", "p", "q", "r", "s", "x", "late"]
def bmS (S : Addr) : List Value := .ref S :: PySem.HandSPX.veTail
def shapeB (K : PySem.W.Frag) (C : Addr) (bm : List Value) : Bool := match K.lookup C with
  | some ⟨.type "type", _, .cls cd, sl⟩ => (match sl.toList with
    | [_, _, _, _, some (.builtin n), _] => n == "ValueError.__new__" && (!cd.hasDel && (cd.hasDict && cd.mro == .ref C :: bm))
    | _ => false)
  | _ => false
/-- what is asked of each such class: C, its mro, the names that it must not have -/
def clB (K : PySem.W.Frag) (bm : List Value) (C : Addr) (fs : List Str) : Bool :=
  shapeB K C bm && (He.eqO (PySem.W.findIn K (.ref C) "__setattr__") (some (some (.builtin "object.__setattr__"))) &&
  (He.eqO (PySem.W.findIn K (.ref C) "__getattribute__") (some (some (.builtin "BaseException.__getattribute__"))) &&
  (He.eqO (PySem.W.findIn K (.ref C) "__getattr__") (some none) &&
  (He.eqO (PySem.W.findIn K (.ref C) "__class__") (some (some (.builtin "object.__class__"))) &&
  (PySem.W.keepIn K (.ref C) && fs.all fun f => He.eqO (PySem.W.findIn K (.ref C) f) (some none))))))
def exC (K : PySem.W.Frag) (x : Str) : Bool := clB K (bmS (He.ga K "ShowError")) (He.ga K x) ["thing"] && (He.eqO (PySem.W.findIn K (.ref (He.ga K x)) "__init__") (some (some (.ref (He.ma K (He.ga K x) "__init__")))) &&
  (decide (PySem.W.typeIn K (.ref (He.ma K (He.ga K x) "__init__")) = some (.type "function")) && (decide (PySem.W.exmOne K (.ref (He.ga K x)) (.ref (He.ga K x)) = some true) &&
  decide (PySem.W.subIn K (.ref (He.ga K x)) (.type "BaseException") = some true))))
def exA (K : PySem.W.Frag) : Bool := (exC K "BadWord" && exC K "BadPlace") && (decide (PySem.W.exmOne K (.ref (He.ga K "BadPlace")) (.ref (He.ga K "BadWord")) = some false) && (hds.all fun x => He.eqO (PySem.W.nsIn K (He.ga K "KEPT") x) (some none))) && (match PySem.W.nsIn K (He.ga K "KEPT") "not" with
  | some (some _) => !((He.cT K ("law", none)).2 == (He.cT K ("_law_word_right", none)).2)
  | _ => false)
def obA (g : Addr → Option Obj) : He.AlT × Bool := (He.obsT fa fn ts (fK g), exA (fK g) && He.tabsB g tf (fK g))
def valA (w : World) : He.AlT × Bool := (He.valT fn ts w, true)
noncomputable abbrev gT (s : PySem.W.SharedT) : Addr → Option Obj := HandSHeadRun.getT s
structure SaysA (w : World) (h : Heap) (K : PySem.W.Frag) : Prop where
  t : He.SaysT fa fn ts w K
  ex : exA K = true
  hd : ∀ p ∈ tf, PySem.W.codeHdIn K (He.cT K p).1 (He.cT K p).2 = true
  out : ∀ p ∈ tf, K.lookup (He.cT K p).2 = none
  empty : ∀ p ∈ tf, h.get? (He.cT K p).2 = some { cls := .none, data := .fields #[] }
theorem says_of {w : World} {h : Heap} (e : obA h.get? = valA w) : SaysA w h (fK h.get?) := by
  have e2 := congrArg (fun z : He.AlT × Bool => z.2) e
  obtain ⟨h1, h2⟩ := Bool.and_eq_true_iff.mp e2
  have key : ∀ p ∈ tf, PySem.W.codeHdIn (fK h.get?) (He.cT (fK h.get?) p).1 (He.cT (fK h.get?) p).2 = true ∧ ∃ o, h.get? (He.cT (fK h.get?) p).2 = some o ∧ He.emptyTab o = true := fun p hp => by
    obtain ⟨a1, a2⟩ := Bool.and_eq_true_iff.mp (List.all_eq_true.mp h2 p hp)
    refine ⟨a1, ?_⟩
    cases q : h.get? (He.cT (fK h.get?) p).2 with
    | none =>
      rw [q] at a2
      cases a2
    | some o =>
      rw [q] at a2
      exact ⟨o, rfl, a2⟩
  exact ⟨congrArg (fun z : He.AlT × Bool => z.1) e, h1, fun p hp => (key p hp).1, fun p hp => by
    obtain ⟨_, o, q, z⟩ := key p hp
    exact He.frT_none q z, fun p hp => by
    obtain ⟨_, o, q, z⟩ := key p hp
    rw [q, He.emptyTab_eq z]⟩
def hookA : PySem.W.Hook where
  α := He.AlT × Bool
  obs := fun s => obA s.heap.get?
  val := fun w => valA w
  says := fun w h => ∃ K : PySem.W.Frag, K.In h ∧ SaysA w h K
  of := fun _ _ e => ⟨_, He.frT_in, says_of e⟩
  keeps := fun _ _ _ ⟨K, hK, c⟩ k => ⟨K, PySem.W.Frag.In.keeps hK k, ⟨c.t, c.ex, c.hd, c.out, fun p hp => k _ _ (c.empty p hp)⟩⟩
theorem obA_eq {g : Addr → Option Obj} {s : Shared} (h : ∀ a, g a = s.heap.get? a) : obA g = hookA.obs s := by
  have e : g = s.heap.get? := funext h
  rw [e] <;> rfl
end K23

set_option Elab.async false
set_option linter.all false
set_option maxRecDepth 100000
set_option maxHeartbeats 0
namespace K23
open PySem PySem.Spec PyProof.Rows L2
theorem run_f (w : World) : HandSHeadRun.RunEq R (PySem.W.view R.prog [68]) hookA (fun s => obA (gT s)) 9000 loose (w.withFollow "special-get-raises" false) := by
  intro os
  kernel_rfl
theorem run_t (w : World) : HandSHeadRun.RunEq R (PySem.W.view R.prog [68]) hookA (fun s => obA (gT s)) 9000 loose (w.withFollow "special-get-raises" true) := by
  intro os
  kernel_rfl
theorem run (w : World) : HandSHeadRun.RunEq R (PySem.W.view R.prog [68]) hookA (fun s => obA (gT s)) 9000 loose w :=
  PySem.W.byRow2 "special-get-raises" (P := fun w => HandSHeadRun.RunEq R (PySem.W.view R.prog [68]) hookA (fun s => obA (gT s)) 9000 loose w) run_f run_t w
end K23

set_option Elab.async false
set_option linter.all false
set_option maxRecDepth 100000
set_option maxHeartbeats 4000000
/-! What serves any def: isinstance, lists, walks. -/
namespace K23
open PySem PySem.Spec PyProof.Rows L2 Evl
section
variable {H G : Hp}
/-- all tuples stay -/
def Tx (H G : Hp) : Prop := ∀ a xs, H a = some (.tup xs) → G a = some (.tup xs)
theorem Tx.of (e : Ex H G) : Tx H G := fun a xs h => e a _ h
theorem Tx.refl (H : Hp) : Tx H H := fun _ _ h => h
theorem Tx.trans {J : Hp} (a : Tx H G) (b : Tx G J) : Tx H J := fun c xs h => b c xs (a c xs h)
theorem Tx.lst {p : Addr} {xs : List V} {o : HO} (h : H p = some (.lst xs)) : Tx H (upd H p o) := fun a ys e => by
  rw [upd_ne (ne_of e h (by intro z; cases z))]
  exact e
theorem Tx.dct {p : Addr} {xs : List (Key × V)} {o : HO} (h : H p = some (.dK xs)) : Tx H (upd H p o) := fun a ys e => by
  rw [upd_ne (ne_of e h (by intro z; cases z))]
  exact e
end
/-! ### isinstance(e, C), C a built-in; (list, tuple) -/
abbrev tIsi (K : PySem.W.Frag) (t : String) (te : TE) : TE := tCB (rIsi K) (tCons te (tCons (tC (.ty t)) tNil))
abbrev tIsi2 (K : PySem.W.Frag) (te : TE) : TE := tCB (rIsiT K) (tCons te (tCons (tTup (tCons (tC (.ty "list")) (tCons (tC (.ty "tuple")) tNil))) tNil))
section
variable {X : Cx} {e : Expr} {te : TE} {p q r q1 q2 pos : Pos}
theorem pe_isiB {n : Str} {t : String} (m1 : X.mg "isinstance" = none) (m2 : X.mg n = none) (hv : bootBuiltins n = some (.type t)) (he : PE X e te) (g1 : Gl X "isinstance" := by rfl) (g2 : Gl X n := by rfl) (hn : n ≠ "__name__" := by decide) (hd : (n == ("__debug__" : Str)) = false := by decide)
    (hs : starEach [e, .Name n q] X.env = (false, eval e X.env) :: starEach [.Name n q] X.env := by rfl) (hs2 : starEach [.Name n q] X.env = (false, eval (.Name n q) X.env) :: starEach [] X.env := by rfl) (hpl : (backTo pos (starEach [.Name n q] X.env)).any (·.1) = false := by rfl) :
    PE X (.Call (.Name "isinstance" p) [e, .Name n q] [] pos) (tIsi X.K t te) :=
  pe_callB call_isi g1 m1 PyProof.Rows.boot_isinstance (pa_cons he (pa_cons (pe_bltn (v := .ty t) g2 m2 hv rfl hn hd) pa_nil hs2) hs) (by decide) (by decide) hs hpl
theorem pe_isiLT (m1 : X.mg "isinstance" = none) (m2 : X.mg "list" = none) (m3 : X.mg "tuple" = none) (he : PE X e te) (g1 : Gl X "isinstance" := by rfl) (g2 : Gl X "list" := by rfl) (g3 : Gl X "tuple" := by rfl)
    (hs : starEach [e, .Tuple [.Name "list" q1, .Name "tuple" q2] x1 r] X.env = (false, eval e X.env) :: starEach [.Tuple [.Name "list" q1, .Name "tuple" q2] x1 r] X.env := by rfl)
    (hs2 : starEach [.Tuple [.Name "list" q1, .Name "tuple" q2] x1 r] X.env = (false, eval (.Tuple [.Name "list" q1, .Name "tuple" q2] x1 r) X.env) :: starEach [] X.env := by rfl)
    (hs3 : starEach [.Name "list" q1, .Name "tuple" q2] X.env = (false, eval (.Name "list" q1) X.env) :: starEach [.Name "tuple" q2] X.env := by rfl) (hs4 : starEach [.Name "tuple" q2] X.env = (false, eval (.Name "tuple" q2) X.env) :: starEach [] X.env := by rfl)
    (hpl : (backTo pos (starEach [.Tuple [.Name "list" q1, .Name "tuple" q2] x1 r] X.env)).any (·.1) = false := by rfl) :
    PE X (.Call (.Name "isinstance" p) [e, .Tuple [.Name "list" q1, .Name "tuple" q2] x1 r] [] pos) (tIsi2 X.K te) :=
  pe_callB call_isiT g1 m1 PyProof.Rows.boot_isinstance (pa_cons he (pa_cons (pe_tup (pa_cons (pe_bltn (v := .ty "list") g2 m2 PyProof.Rows.boot_list rfl (by decide) (by decide)) (pa_cons (pe_bltn (v := .ty "tuple") g3 m3 PyProof.Rows.boot_tuple rfl (by decide) (by decide)) pa_nil hs4) hs3)) pa_nil hs2) hs) (by decide) (by decide) hs hpl
end
theorem tyx_ext {K : PySem.W.Frag} {H G : Hp} {v : V} {t : Value} (e : Ex H G) (h : TyX K H v t) : TyX K G v t := by
  cases h with
  | base h =>
    refine .base ?_
    cases h with
    | non => exact .non
    | bl x => exact .bl x
    | int i => exact .int i
    | str x => exact .str x
    | flt x => exact .flt x
    | lst h => exact .lst (e _ _ h)
    | frz h => exact .frz (e _ _ h)
    | tup h => exact .tup (e _ _ h)
    | dK h => exact .dK (e _ _ h)
    | dT h => exact .dT (e _ _ h)
    | ins h a b c d f => exact .ins (e _ _ h) a b c d f
  | byt b => exact .byt b
  | set h => exact .set (e _ _ h)
  | kList a b => exact .kList a b
  | kTuple a b => exact .kTuple a b
  | kDict a b => exact .kDict a b
  | fTuple h => exact .fTuple (e _ _ h)
  | fDict h => exact .fDict (e _ _ h)
section
variable {K : PySem.W.Frag} {σ : L2.St} {H : Hp} {te : TE} {v : V}
theorem ev_isi {m n : String} {b : Bool} (h : Ev te σ H v) (ty : TyX K H v (.type m)) (e : kitB m n = some b) : Ev (tIsi K n te) σ H (.bl b) :=
  ev_cb (ea_cons h (ea_cons ev_c ea_nil)) fun H1 x Q q => ⟨v, .ty n, _, _, b, rfl, .ty n, tyx_ext x ty, kit_ty e, q H1 (Ex.refl H1)⟩
/-- is it a list or a tuple -/
def isLT (m : String) : Bool := m == "list" || m == "tuple"
theorem ev_isi2 {m : String} {b1 b2 : Bool} (h : Ev te σ H v) (ty : TyX K H v (.type m)) (e1 : kitB m "list" = some b1) (e2 : kitB m "tuple" = some b2) : Ev (tIsi2 K te) σ H (.bl (b1 || b2)) := fun H1 x Q q =>
  h H1 x _ fun H2 x2 => ⟨by show 2 ≤ sizeLine; decide, fun p hp => by
    have x3 : Ex H2 (upd H2 p (.tup [.ty "list", .ty "tuple"])) := Ex.new hp
    show rIsiT K [v, .ref p] _ Q
    refine ⟨v, p, [.ty "list", .ty "tuple"], _, [.type "list", .type "tuple"], b1 || b2, rfl, upd_same, .cons (.ty _) (.cons (.ty _) .nil), tyx_ext ((x.trans x2).trans x3) ty, ?_, q _ (x2.trans x3)⟩
    cases b1 with
    | true => exact kitAny_cons (kit_ty e1) (fun z => nomatch z) fun _ => rfl
    | false => exact kitAny_cons (kit_ty e1) (fun _ => by
        cases b2 with
        | true => exact kitAny_cons (kit_ty e2) (fun z => nomatch z) fun _ => rfl
        | false => exact kitAny_cons (kit_ty e2) (fun _ => kitAny_nil) fun z => nomatch z) fun z => nomatch z⟩
end
theorem extend_tup (l : Addr) (items : Array Value) (n : Nat) (b : Addr) (dd : Option Addr) (sl : Array (Option Value)) (items2 : Array Value) (n2 : Nat) (hs0 : ¬(!items.isEmpty && Builtin.List.listTooLong (items.size + items2.size)) = true) (hs1 : items.size ≤ sizeLine) (hs2 : items.size + items2.size ≤ sizeLine + 1) :
    Meets (Builtin.«list.extend» ⟨[.ref l, .ref b], []⟩) (fun _ R s => s.heap.get? l = some { cls := .type "list", dict := none, data := .seq items n, slots := #[] } ∧ s.heap.get? b = some { cls := .type "tuple", dict := dd, data := .seq items2 n2, slots := sl } ∧ R (.ok (.ret Value.none)) { s with heap := s.heap.update l (Obj.mapSeq fun x => x ++ items2), toks := s.toks }) :=
  .of_wp fun prog w A R s h => by
    obtain ⟨hp, g, d, tk, os⟩ := s
    obtain ⟨hl, hb, h⟩ := h
    have f1 := PySem.AutoSeq1.idx_int
    have f2 := PySem.AutoSeq1.sub_tuple_tuple
    have f3 := PySem.AutoSeq1.sub_list_list
    have f4 := PySem.AutoSeq1.sub_tuple_list
    have f5 := PySem.AutoSeq1.sub_list_tuple
    have hz' : (items ++ items2).size ≤ sizeLine + 1 := by rw [Array.size_append]; exact hs2
    wp_walk using (wpAny_updateSeq hl rfl (hz := hs1) (_hz' := hz')), PySem.AutoSeq1.wpAny_loadPart' hl, PySem.AutoSeq1.wpAny_loadPart' hb
    exact ⟨_, rfl, h⟩
def rExtT (K : PySem.W.Frag) : V → List V → Hp → VK → Prop := fun x vs H Q => ∃ l b xs zs, x = .ref l ∧ vs = [.ref b] ∧ H l = some (.lst xs) ∧ SqT K H b zs ∧ xs.length + zs.length ≤ sizeLine ∧ Q .non (upd H l (.lst (xs ++ zs)))
theorem mt_extT {X : Cx} : MtM X "list.extend" (rExtT X.K) := by
  intro pins s σ H x vs v us Q I rx rv h
  obtain ⟨l, b, xs, zs, rfl, rfl, hH, hB, hz, q⟩ := h
  cases rx
  obtain ⟨u, rfl, ru⟩ := rv.one
  cases ru
  obtain ⟨z, its, n, r, hl, e⟩ := I.lstM hH
  obtain ⟨its2, r2, ⟨o, e2, oc, n2, od⟩, hl2⟩ := I.tuple hB
  obtain ⟨oc', dd, dt, sl⟩ := o
  dsimp only at oc od
  subst oc od
  have h1 := r2.length
  have hsz : its.toArray.size + its2.toArray.size ≤ sizeLine := by rw [List.size_toArray, List.size_toArray]; omega
  have hlong : ¬ (!its.toArray.isEmpty && Builtin.List.listTooLong (its.toArray.size + its2.toArray.size)) = true := by
    rw [notLongL hsz, Bool.and_false]
    exact Bool.false_ne_true
  refine call_meets F.slot_list_extend ⟨_, e, rfl⟩ F.entry_list_extend (F.args_list_extend_2 _ _)
    (extend_tup l its.toArray n b dd sl its2.toArray n2 hlong (by rw [List.size_toArray]; omega) (by omega)) ⟨e, e2, ?_⟩
  refine ⟨.non, _, I.lset (its' := its ++ its2) hH e (by simp) (r.append r2) ?_, rfl, q⟩
  rw [List.length_append]
  omega
section
variable {K : PySem.W.Frag} {σ : L2.St} {H G : Hp} {te ta tb : TE} {v : V}
theorem et_truL {p : Addr} {xs : List V} (h : Ev te σ H (.ref p)) (hs : SqL K H p xs) : EvT (fun σ H Q => te σ H fun x H' => ∃ k, TruV K x H' k ∧ Q k H') σ H (!xs.isEmpty) :=
  fun H1 e Q q => h H1 e _ fun H2 e2 => ⟨_, .inl ⟨xs, ex_l (e.trans e2) hs, rfl⟩, q H2 e2⟩
abbrev tLen (K : PySem.W.Frag) (te : TE) : TE := tCB (fun xs H Q => ∃ x n, xs = [x] ∧ LenV K x H n ∧ Q (.int n) H) (tCons te tNil)
theorem ev_lenG {n : Nat} (h : Ev te σ H v) (l : ∀ G, Ex H G → LenV K v G n) : Ev (tLen K te) σ H (.int n) := fun H1 e Q q => h H1 e _ fun H2 e2 => ⟨v, n, rfl, l H2 (e.trans e2), q H2 e2⟩
theorem ev_lenT {p : Addr} {xs : List V} (h : Ev te σ H (.ref p)) (hs : SqT K H p xs) : Ev (tLen K te) σ H (.int (xs.length : Nat)) := ev_lenG h fun G e => .inr ⟨xs, ex_t e hs, rfl⟩
theorem ev_lenL {p : Addr} {xs : List V} (h : Ev te σ H (.ref p)) (hs : SqL K H p xs) : Ev (tLen K te) σ H (.int (xs.length : Nat)) := ev_lenG h fun G e => .inl ⟨xs, ex_l e hs, rfl⟩
theorem ev_lenS {x : Str} (h : Ev te σ H (.str x)) (l : x.length ≤ 1000) : Ev (tLen K te) σ H (.int (x.length : Nat)) := ev_lenG h fun G e => ⟨Nat.le_trans l (by decide), rfl⟩
end
section
variable {K : PySem.W.Frag} {σ : L2.St} {H G : Hp} {te ta tb : TE} {v : V} {D : Ends} {tz : TS}
theorem last_at {xs : List V} {y : V} : (xs ++ [y])[(xs ++ [y]).length - 1]? = some y := by simp
/-- y = xs.pop() -/
theorem q_pop {l : Addr} {xs : List V} {y : V} {j : Nat} (hl : H l = some (.lst (xs ++ [y]))) (ha : Ev ta σ H (.ref l)) (k : ∀ H1, Ex H H1 → tz D (σ.set j (some y)) (upd H1 l (.lst xs))) : tSeq (tAsg (tBM0 K "list" rPop ta) (gName j)) tz D σ H :=
  ha H (Ex.refl H) _ fun H1 e1 => ⟨.inl ⟨rfl, _, sq_of (e1 l _ hl)⟩, l, _, y, rfl, rfl, e1 l _ hl, last_at, by
    rw [List.dropLast_concat]
    exact k H1 e1⟩
/-- xs.extend(t), t a tuple -/
theorem s_extT {l b : Addr} {xs zs : List V} (hl : H l = some (.lst xs)) (ha : Ev ta σ H (.ref l)) (hb : Ev te σ H (.ref b)) (hz : SqT K H b zs) (hs : xs.length + zs.length ≤ 100000) (k : ∀ H1, Ex H H1 → D.nx σ (upd H1 l (.lst (xs ++ zs)))) :
    tDrop (tBM K "list" (rExtT K) ta (tCons te tNil)) D σ H := ha H (Ex.refl H) _ fun H1 e1 => ⟨.inl ⟨rfl, _, sq_of (e1 l _ hl)⟩, hb H1 e1 _ fun H2 e2 =>
  ⟨l, b, xs, zs, rfl, rfl, e2 l _ (e1 l _ hl), ex_t (e1.trans e2) hz, sz_of hs, k H2 (e1.trans e2)⟩⟩
theorem q_extT {l b : Addr} {xs zs : List V} (hl : H l = some (.lst xs)) (ha : Ev ta σ H (.ref l)) (hb : Ev te σ H (.ref b)) (hz : SqT K H b zs) (hs : xs.length + zs.length ≤ 100000) (k : ∀ H1, Ex H H1 → tz D σ (upd H1 l (.lst (xs ++ zs)))) :
    tSeq (tDrop (tBM K "list" (rExtT K) ta (tCons te tNil))) tz D σ H := s_extT (D := { D with nx := tz D }) hl ha hb hz hs k
/-- xs.extend(t), t a new list -/
theorem s_extL {l : Addr} {xs zs : List V} (hl : H l = some (.lst xs)) (ha : Ev ta σ H (.ref l)) (hb : EvL te σ H zs) (hs : xs.length + zs.length ≤ 100000) (k : ∀ H1, Ex H H1 → D.nx σ (upd H1 l (.lst (xs ++ zs)))) :
    tDrop (tBM K "list" rExtend ta (tCons te tNil)) D σ H := ha H (Ex.refl H) _ fun H1 e1 => ⟨.inl ⟨rfl, _, sq_of (e1 l _ hl)⟩, hb H1 e1 _ fun p H2 _ e2 hp =>
  ⟨l, p, xs, zs, rfl, rfl, e2 l _ (e1 l _ hl), hp, sz_of hs, k H2 (e1.trans e2)⟩⟩
theorem q_extL {l : Addr} {xs zs : List V} (hl : H l = some (.lst xs)) (ha : Ev ta σ H (.ref l)) (hb : EvL te σ H zs) (hs : xs.length + zs.length ≤ 100000) (k : ∀ H1, Ex H H1 → tz D σ (upd H1 l (.lst (xs ++ zs)))) :
    tSeq (tDrop (tBM K "list" rExtend ta (tCons te tNil))) tz D σ H := s_extL (D := { D with nx := tz D }) hl ha hb hs k
end
section
variable {K : PySem.W.Frag} {σ : L2.St} {H G : Hp} {te ta tb : TE} {v : V}
theorem ev_m0 {g : Str → Bool} {x : Str} (h : Ev te σ H (.str x)) : Ev (tM0 (fun x xs H Q => ∃ a, x = V.str a ∧ xs = [] ∧ True ∧ Q (.bl (g a)) H) te) σ H (.bl (g x)) := fun H1 e Q q =>
  h H1 e _ fun H2 e2 => ⟨⟨x, rfl⟩, x, rfl, rfl, trivial, q H2 e2⟩
theorem rv_insign {c : Nat} {z : Str} : RV (fun x y H Q => ∃ (c : Nat) (z : Str), x = .str ⟨#[c]⟩ ∧ y = .str z ∧ Q (.bl (decide (c ∈ z.cps.toList))) H) (.str ⟨#[c]⟩) (.str z) H (.bl (decide (c ∈ z.cps.toList))) := fun H1 _ _ q => ⟨c, z, rfl, rfl, q H1 (Ex.refl H1)⟩
theorem rv_notInKd {d : Addr} {x : Str} (h : PySem.W.nsIn K d x = some none) : RV (fun x y H Q => ∃ (z : Str) (r : Option Value), x = .str z ∧ y = .ref d ∧ PySem.W.nsIn K d z = some r ∧ Q (.bl (!r.isSome)) H) (.str x) (.ref d) H (.bl true) := fun H1 _ _ q => ⟨x, none, rfl, rfl, h, q H1 (Ex.refl H1)⟩
end
section
variable {K : PySem.W.Frag} {σ : L2.St} {H G : Hp} {te ta tb tl : TE} {v : V} {D : Ends} {tu tz : TS}
abbrev gPair (K : PySem.W.Frag) (j1 j2 : Nat) : TG := gTup K 2 (gCons (gName j1) (gCons (gName j2) gNil))
/-- for i, x in enumerate(xs) -/
theorem s_forEnum {a : Addr} {xs : List V} {j1 j2 : Nat} (h : Ev tl σ H (.ref a)) (hx : SqL K H a xs) (Pv : Nat → L2.St → Hp → Prop) (h0 : ∀ H1, Ex H H1 → Pv 0 σ H1) (hl : ∀ i σ' H', i ≤ xs.length → Pv i σ' H' → SqL K H' a xs)
    (hs : ∀ (i : Nat) x σ' H' H2, xs[i]? = some x → Pv i σ' H' → Ex H' H2 → tu { D with nx := Pv (i + 1), ct := Pv (i + 1), bk := D.nx } ((σ'.set j1 (some (.int i))).set j2 (some x)) H2) (hd : ∀ σ' H', Pv xs.length σ' H' → D.nx σ' H') : tFor (iEnum K (tCons tl tNil)) (gPair K j1 j2) tu D σ H :=
  h H (Ex.refl H) _ fun H1 e => ⟨a, xs, rfl, ex_l e hx, for_it walk_enum Pv (h0 H1 e) hl (fun i v σ' H' H2 hi p y => by
    obtain ⟨T, x, z, rfl, hT, rfl, e1, e2⟩ := y
    cases e1
    exact ⟨T, _, rfl, SqT.of upd_same, rfl, _, _, rfl, _, _, rfl, rfl, hs i z σ' H' _ e2 p (Ex.new hT)⟩) hd⟩
theorem q_forEnum {a : Addr} {xs : List V} {j1 j2 : Nat} (h : Ev tl σ H (.ref a)) (hx : SqL K H a xs) (Pv : Nat → L2.St → Hp → Prop) (h0 : ∀ H1, Ex H H1 → Pv 0 σ H1) (hl : ∀ i σ' H', i ≤ xs.length → Pv i σ' H' → SqL K H' a xs)
    (hs : ∀ (i : Nat) x σ' H' H2, xs[i]? = some x → Pv i σ' H' → Ex H' H2 → tu { D with nx := Pv (i + 1), ct := Pv (i + 1), bk := tz D } ((σ'.set j1 (some (.int i))).set j2 (some x)) H2) (hd : ∀ σ' H', Pv xs.length σ' H' → tz D σ' H') : tSeq (tFor (iEnum K (tCons tl tNil)) (gPair K j1 j2) tu) tz D σ H :=
  s_forEnum (D := { D with nx := tz D }) h hx Pv h0 hl hs hd
end
/-- a call of the def that a name holds -/
theorem ev_callL {σ : L2.St} {H : Hp} {i : Nat} {f : Addr} {sp : Sp} {dvs vs : List V} {E : XK} {ta : TA} {z : V} (hs : σ[i]? = some (some (.ref f))) (h : EvA ta σ H vs) (hp : SpV sp (vs ++ dvs) H z) : Ev (tCallL i f sp dvs E ta) σ H z := fun H1 e Q q =>
  ⟨hs, h H1 e _ fun H2 e2 => hp H2 (e.trans e2) Q (fun H3 e3 => q H3 (e2.trans e3)) E⟩
section
variable {K : PySem.W.Frag} {σ : L2.St} {H G : Hp} {te ta tb tl : TE} {v : V} {D : Ends} {tu tz : TS}
theorem cut1 {α : Type} (x : α) (xs : List α) : ((x :: xs).drop (HT.sIx (x :: xs).length 0 (some 1))).take (HT.sIx (x :: xs).length (x :: xs).length none - HT.sIx (x :: xs).length 0 (some 1)) = xs := by
  have e1 : HT.sIx (x :: xs).length 0 (some 1) = 1 := by simp [HT.sIx]
  have e2 : HT.sIx (x :: xs).length (x :: xs).length none = (x :: xs).length := by simp [HT.sIx]
  rw [e1, e2]
  simp
/-- t[1:] -/
theorem eu_tail {a : Addr} {x : V} {xs : List V} (h : Ev te σ H (.ref a)) (ha : SqT K H a (x :: xs)) : EvU (tSl (rSlT K) te (tPart (tC (.int 1))) tNoPart) σ H xs := fun H1 e Q q =>
  h H1 e _ fun H2 e2 => ⟨1, rfl, ⟨a, x :: xs, rfl, ex_t (e.trans e2) ha, fun z => by
    have e1 : HT.sIx (x :: xs).length 0 (some 1) = 1 := by simp [HT.sIx]
    rw [e1] at z
    exact absurd z.1 (by decide), fun p hp => by
    have e0 : cutV (x :: xs) (some 1) none = xs := cut1 x xs
    rw [e0]
    exact q p _ (fresh_back e2 hp) (e2.trans (Ex.new hp)) upd_same⟩⟩
/-- xs.extend(t), t a new tuple -/
theorem s_extU {l : Addr} {xs zs : List V} (hl : H l = some (.lst xs)) (ha : Ev ta σ H (.ref l)) (hb : EvU te σ H zs) (hs : xs.length + zs.length ≤ 100000) (k : ∀ H1, Ex H H1 → D.nx σ (upd H1 l (.lst (xs ++ zs)))) :
    tDrop (tBM K "list" (rExtT K) ta (tCons te tNil)) D σ H := ha H (Ex.refl H) _ fun H1 e1 => ⟨.inl ⟨rfl, _, sq_of (e1 l _ hl)⟩, hb H1 e1 _ fun p H2 _ e2 hp =>
  ⟨l, p, xs, zs, rfl, rfl, e2 l _ (e1 l _ hl), st_of hp, sz_of hs, k H2 (e1.trans e2)⟩⟩
/-- a call with a new list ahead -/
theorem ev_callNL {sp : Sp} {vs dvs xs : List V} {E : XK} {tr : TA} {z : V} (h : EvL te σ H xs) (hr : EvA tr σ H vs) (hp : ∀ p H1, Ex H H1 → H1 p = some (.lst xs) → SpV sp ((.ref p :: vs) ++ dvs) H1 z) : Ev (tCall sp dvs E (tCons te tr)) σ H z := fun H1 e Q q =>
  h H1 e _ fun p H2 _ e2 h2 => hr H2 (e.trans e2) _ fun H3 e3 => hp p H3 ((e.trans e2).trans e3) (e3 _ _ h2) H3 (Ex.refl _) Q (fun H4 e4 => q H4 ((e2.trans e3).trans e4)) E
theorem ev_isN {b : Bool} (h : Ev te σ H v) (e : decide (v = .non) = b) : Ev (tIsN te) σ H (.bl b) := fun H1 x Q q => h H1 x _ fun H2 x2 => by
  subst e
  exact q H2 x2
end
def A2 {α β : Type} (R : α → β → Prop) : List α → List β → Prop
  | [], [] => True
  | a :: as, b :: bs => R a b ∧ A2 R as bs
  | _, _ => False
section
variable {α β : Type} {R S : α → β → Prop}
theorem A2.mono (h : ∀ a b, R a b → S a b) : ∀ {as : List α} {bs : List β}, A2 R as bs → A2 S as bs
  | [], [], _ => trivial
  | _ :: _, _ :: _, k => ⟨h _ _ k.1, A2.mono h k.2⟩
  | [], _ :: _, k => k.elim
  | _ :: _, [], k => k.elim
theorem A2.append : ∀ {as cs : List α} {bs ds : List β}, A2 R as bs → A2 R cs ds → A2 R (as ++ cs) (bs ++ ds)
  | [], _, [], _, _, k => k
  | _ :: _, _, _ :: _, _, h, k => ⟨h.1, A2.append h.2 k⟩
  | [], _, _ :: _, _, h, _ => h.elim
  | _ :: _, _, [], _, h, _ => h.elim
theorem A2.length : ∀ {as : List α} {bs : List β}, A2 R as bs → as.length = bs.length
  | [], [], _ => rfl
  | _ :: _, _ :: _, k => congrArg (· + 1) (A2.length k.2)
  | [], _ :: _, k => k.elim
  | _ :: _, [], k => k.elim
theorem A2.get : ∀ {as : List α} {bs : List β} {i : Nat} {a : α}, A2 R as bs → as[i]? = some a → ∃ b, bs[i]? = some b ∧ R a b
  | [], [], i, a, _, e => by simp at e
  | x :: as, y :: bs, 0, a, h, e => by
    obtain rfl : x = a := by simpa using e
    exact ⟨y, rfl, h.1⟩
  | _ :: as, _ :: bs, i + 1, a, h, e => by
    obtain ⟨b, q, r⟩ := A2.get (i := i) (a := a) h.2 (by simpa using e)
    exact ⟨b, by simpa using q, r⟩
  | [], _ :: _, _, _, h, _ => h.elim
  | _ :: _, [], _, _, h, _ => h.elim
theorem A2.getb : ∀ {as : List α} {bs : List β} {i : Nat} {b : β}, A2 R as bs → bs[i]? = some b → ∃ a, as[i]? = some a ∧ R a b
  | [], [], i, a, _, e => by simp at e
  | x :: as, y :: bs, 0, b, h, e => by
    obtain rfl : y = b := by simpa using e
    exact ⟨x, rfl, h.1⟩
  | _ :: as, _ :: bs, i + 1, b, h, e => by
    obtain ⟨a, q, r⟩ := A2.getb (i := i) (b := b) h.2 (by simpa using e)
    exact ⟨a, by simpa using q, r⟩
  | [], _ :: _, _, _, h, _ => h.elim
  | _ :: _, [], _, _, h, _ => h.elim
theorem A2.of_map {γ : Type} {f : γ → α} : ∀ {cs : List γ} {bs : List β}, A2 R (cs.map f) bs → A2 (fun c b => R (f c) b) cs bs
  | [], [], _ => trivial
  | _ :: _, _ :: _, k => ⟨k.1, A2.of_map k.2⟩
  | [], _ :: _, k => k.elim
  | _ :: _, [], k => k.elim
end
/-! ### what evaluates to a thing of which P holds -/
def EvP (te : TE) (σ : L2.St) (H : Hp) (P : V → Hp → Prop) : Prop := ∀ H1, Ex H H1 → ∀ Q : VK, (∀ v H2, Ex H1 H2 → P v H2 → Q v H2) → te σ H1 Q
/-- a new list of which P holds -/
def EvLP (te : TE) (σ : L2.St) (H : Hp) (P : List V → Hp → Prop) : Prop := ∀ H1, Ex H H1 → ∀ Q : VK, (∀ p xs H2, H1 p = none → Ex H1 H2 → H2 p = some (.lst xs) → P xs H2 → Q (.ref p) H2) → te σ H1 Q
/-- what stays true -/
def Up (P : Hp → Prop) : Prop := ∀ H G, Ex H G → P H → P G
section
variable {K : PySem.W.Frag} {σ : L2.St} {H G : Hp} {te ta tb tl tk tx : TE} {tt : TT} {v : V} {D : Ends} {tu tz : TS} {J : It} {n : Nat} {vs : List Nat}
theorem EvP.of (h : Ev te σ H v) {P : V → Hp → Prop} (p : ∀ G, Ex H G → P v G) : EvP te σ H P := fun H1 e Q q => h H1 e _ fun H2 e2 => q v H2 e2 (p H2 (e.trans e2))
theorem EvP.mono (e : Ex H G) {P : V → Hp → Prop} (h : EvP te σ H P) : EvP te σ G P := fun H1 e1 Q q => h H1 (e.trans e1) Q q
theorem EvP.tup {ta : TA} {xs : List V} {P : V → Hp → Prop} (h : EvU (tTup ta) σ H xs) (p : ∀ a G, Ex H G → G a = some (.tup xs) → P (.ref a) G) : EvP (tTup ta) σ H P := fun H1 e Q q => h H1 e _ fun a H2 _ e2 ha => q _ _ e2 (p a H2 (e.trans e2) ha)
def Cwp (H0 : Hp) (f : Nat → Bool) (Pe : Nat → V → Hp → Prop) (Dl : Addr) (i : Nat) (H : Hp) : Prop := H0 Dl = none ∧ Ex H0 H ∧ ∃ acc, H Dl = some (.lst acc) ∧ acc.length ≤ i ∧ A2 (fun i y => Pe i y H) ((List.range i).filter f) acc
theorem cwp0 {H0 : Hp} {f : Nat → Bool} {Pe : Nat → V → Hp → Prop} {Dl : Addr} (h : H0 Dl = none) : Cwp H0 f Pe Dl 0 (upd H0 Dl (.lst [])) := ⟨h, Ex.new h, [], upd_same, Nat.le_refl _, trivial⟩
/-- what stays true if the thing at Dl, not known ahead, changes -/
def UpD (H0 : Hp) (Dl : Addr) (P : Hp → Prop) : Prop := ∀ H G xs, H Dl = some (.lst xs) → Ex H0 H → Ex H0 G → (∀ a o, a ≠ Dl → H a = some o → G a = some o) → P H → P G
theorem cwp_turn {H0 H1 H2 : Hp} {f : Nat → Bool} {Pe : Nat → V → Hp → Prop} {Dl : Addr} {i : Nat} {σ2 : L2.St} (up : ∀ i v, UpD H0 Dl (Pe i v)) (p : Cwp H0 f Pe Dl i H1) (e12 : Ex H1 H2) (hi : i < 50000) (ht : EvT tt σ2 H2 (f i)) (he : f i = true → ∀ H3, Ex H2 H3 → EvP te σ2 H3 (Pe i)) :
    tt σ2 H2 fun b H3 => if b = true then te σ2 H3 fun y H4 => ∃ acc, H4 Dl = some (.lst acc) ∧ acc.length < sizeLine ∧ Cwp H0 f Pe Dl (i + 1) (upd H4 Dl (.lst (acc ++ [y]))) else Cwp H0 f Pe Dl (i + 1) H3 := by
  obtain ⟨p1, p2, acc, p3, p4, p5⟩ := p
  have e2 : Ex H0 H2 := p2.trans e12
  refine ht H2 (Ex.refl _) _ fun H3 e3 => ?_
  have e03 := e2.trans e3
  cases hf : f i with
  | true =>
    show te σ2 H3 fun y H4 => ∃ acc, H4 Dl = some (.lst acc) ∧ acc.length < sizeLine ∧ Cwp H0 f Pe Dl (i + 1) (upd H4 Dl (.lst (acc ++ [y])))
    refine he hf H3 e3 H3 (Ex.refl _) _ fun y H4 e4 hy => ?_
    have hD : H4 Dl = some (.lst acc) := e4 _ _ (e3 _ _ (e12 _ _ p3))
    have e04 := e03.trans e4
    have e05 : Ex H0 (upd H4 Dl (.lst (acc ++ [y]))) := Ex.mut e04 p1
    have kp : ∀ a o, a ≠ Dl → H4 a = some o → (upd H4 Dl (.lst (acc ++ [y]))) a = some o := fun a o n h => by
      rw [upd_ne n]
      exact h
    refine ⟨acc, hD, sz_lt (by omega), p1, e05, _, upd_same, by simp; omega, ?_⟩
    rw [List.range_succ, List.filter_append, List.filter_cons, if_pos hf]
    refine A2.append (A2.mono (fun j z h => ?_) p5) ⟨up _ _ _ _ _ hD e04 e05 kp hy, trivial⟩
    exact up _ _ _ _ _ p3 p2 e05 (fun a o n h => kp a o n (e4 _ _ (e3 _ _ (e12 _ _ h)))) h
  | false =>
    show Cwp H0 f Pe Dl (i + 1) H3
    refine ⟨p1, e03, acc, e3 _ _ (e12 _ _ p3), by omega, ?_⟩
    rw [List.range_succ, List.filter_append, List.filter_cons, if_neg (by rw [hf]; decide)]
    show A2 _ (_ ++ []) _
    rw [List.append_nil]
    exact A2.mono (fun j z h => up _ _ _ _ _ p3 p2 e03 (fun a o _ q => e3 _ _ (e12 _ _ q)) h) p5
theorem walk_zipT {a b : Addr} {xs ys : List V} (hn : n = min xs.length ys.length) : Walk (RZ.ItzT K a b) n (fun H => SqT K H a xs ∧ SqT K H b ys) (YPair (fun i => xs[i]?) (fun i => ys[i]?)) := by
  subst hn
  refine ⟨fun i _ hi q => ?_, fun _ q => ⟨xs, ys, q.1, q.2, by omega⟩, fun i H v H' _ q y => ?_⟩
  · have h1 : i < xs.length := by omega
    have h2 : i < ys.length := by omega
    exact ⟨xs, ys, xs[i], ys[i], q.1, q.2, by simp [h1], by simp [h2]⟩
  · obtain ⟨T, x, z, h1, h2, h3, h4, h5⟩ := y
    exact ⟨T, x, z, h1, h2, h3, h4 xs q.1, h5 ys q.2⟩
/-- for x in t, t a new tuple -/
theorem s_forNT {xs : List V} {j : Nat} (h : EvU tl σ H xs) (Pv : Addr → Nat → L2.St → Hp → Prop) (h0 : ∀ p H1, H p = none → Ex H H1 → H1 p = some (.tup xs) → Pv p 0 σ H1) (hl : ∀ p i σ' H', i ≤ xs.length → Pv p i σ' H' → SqT K H' p xs)
    (hs : ∀ p i x σ' H', xs[i]? = some x → Pv p i σ' H' → tu { D with nx := Pv p (i + 1), ct := Pv p (i + 1), bk := D.nx } (σ'.set j (some x)) H') (hd : ∀ p σ' H', Pv p xs.length σ' H' → D.nx σ' H') : tFor (iTup K tl) (gName j) tu D σ H :=
  h H (Ex.refl H) _ fun p H1 hp e h1 => ⟨p, rfl, ⟨xs, st_of h1⟩, for_tup (Pv p) (h0 p H1 hp e h1) (hl p) (hs p) (hd p)⟩
theorem q_forNT {xs : List V} {j : Nat} (h : EvU tl σ H xs) (Pv : Addr → Nat → L2.St → Hp → Prop) (h0 : ∀ p H1, H p = none → Ex H H1 → H1 p = some (.tup xs) → Pv p 0 σ H1) (hl : ∀ p i σ' H', i ≤ xs.length → Pv p i σ' H' → SqT K H' p xs)
    (hs : ∀ p i x σ' H', xs[i]? = some x → Pv p i σ' H' → tu { D with nx := Pv p (i + 1), ct := Pv p (i + 1), bk := tz D } (σ'.set j (some x)) H') (hd : ∀ p σ' H', Pv p xs.length σ' H' → tz D σ' H') : tSeq (tFor (iTup K tl) (gName j) tu) tz D σ H :=
  s_forNT (D := { D with nx := tz D }) h Pv h0 hl hs hd
/-- for x, y in zip(s, t), new tuples -/
theorem q_forZipNT {xs ys : List V} {j1 j2 : Nat} {t1 t2 : TE} (h1 : EvU t1 σ H xs) (h2 : EvU t2 σ H ys) (Pv : Nat → L2.St → Hp → Prop) (h0 : ∀ H1, Ex H H1 → Pv 0 σ H1) (hE : ∀ i σ' H', Pv i σ' H' → Ex H H')
    (hp : ∀ i σ' H' G, Pv i σ' H' → Ex H' G → Pv i σ' G)
    (hs : ∀ i x y σ' H', xs[i]? = some x → ys[i]? = some y → Pv i σ' H' → ∀ N : L2.St → Hp → Prop, (∀ σ2 H2, Pv (i + 1) σ2 H2 → Ex H' H2 → N σ2 H2) → tu { D with nx := N, ct := N, bk := tz D } ((σ'.set j1 (some x)).set j2 (some y)) H') (hd : ∀ σ' H', Pv (min xs.length ys.length) σ' H' → tz D σ' H') :
    tSeq (tFor (RZ.iZipA K (tCons t1 (tCons t2 tNil))) (gPair K j1 j2) tu) tz D σ H :=
  h1 H (Ex.refl H) _ fun p H1 _ e1 hp1 => h2 H1 e1 _ fun q H2 _ e2 hq => ⟨p, q, xs, ys, rfl, .inr ⟨st_of (e2 _ _ hp1), st_of hq,
    for_it (walk_zipT (K := K) (a := p) (b := q) (xs := xs) (ys := ys) rfl) (fun i σ' H' => Pv i σ' H' ∧ H' p = some (.tup xs) ∧ H' q = some (.tup ys)) ⟨h0 H2 (e1.trans e2), e2 _ _ hp1, hq⟩ (fun i σ' H' _ z => ⟨st_of z.2.1, st_of z.2.2⟩)
      (fun i v σ' H' H'' hi z y => by
        obtain ⟨T, x, w, rfl, hT, rfl, ex, ey⟩ := y
        have eT : Ex H' (upd H' T (.tup [x, w])) := Ex.new hT
        exact ⟨T, _, rfl, SqT.of upd_same, rfl, _, _, rfl, _, _, rfl, rfl, hs i x w σ' _ ex ey (hp i σ' H' _ z.1 eT) _ fun σ2 H2 a e => ⟨a, e _ _ (eT _ _ z.2.1), e _ _ (eT _ _ z.2.2)⟩⟩) (fun σ' H' z => hd σ' H' z.1)⟩⟩
/-- a dict comprehension over a walk -/
theorem dc_it {J : It} {G : Hp → Prop} {Y : Nat → Hp → V → Hp → Prop} (w : Walk J n G Y) {g : TG} {H1 : Hp} {Dl : Addr} {Qd : Hp → Prop} (Pv : Nat → Hp → Prop) (h0 : Pv 0 (upd H1 Dl (.dK []))) (hG : ∀ i H, i ≤ n → Pv i H → G H)
    (hs : ∀ i x H H', i < n → Pv i H → Y i H x H' → g x (wipe σ vs) H' fun σ2 H2 => wipe σ2 vs = wipe σ vs ∧ tt σ2 H2 fun b H3 =>
      if b = true then tk σ2 H3 fun y H4 => tx σ2 H4 fun z H5 => ∃ kvs k, y = kV k ∧ H5 Dl = some (.dK kvs) ∧ kvs.length < sizeLine ∧ Pv (i + 1) (upd H5 Dl (.dK (putK kvs k z))) else Pv (i + 1) H3) (hd : ∀ H, Pv n H → Qd H) :
    ∃ W : Nat → Nat → Hp → Prop, (∃ m, W 0 m (upd H1 Dl (.dK []))) ∧ ∀ i m H, W i m H →
      (J.stop i H ∧ Qd H) ∨ (J.go i H ∧ ∃ Nx : Hp → Prop, (∀ H', Nx H' → ∃ m', m' < m ∧ W (i + 1) m' H') ∧ ∀ x H', J.yld i H x H' → g x (wipe σ vs) H' fun σ2 H2 => wipe σ2 vs = wipe σ vs ∧ tt σ2 H2 fun b H3 =>
        if b = true then tk σ2 H3 fun y H4 => tx σ2 H4 fun z H5 => ∃ kvs k, y = kV k ∧ H5 Dl = some (.dK kvs) ∧ kvs.length < sizeLine ∧ Nx (upd H5 Dl (.dK (putK kvs k z))) else Nx H3) := by
  refine ⟨fun i m H => m = n - i ∧ i ≤ n ∧ Pv i H, ⟨n, by simp, Nat.zero_le _, h0⟩, ?_⟩
  rintro i m H ⟨rfl, hi, p⟩
  have q := hG i H hi p
  by_cases hlt : i < n
  · exact .inr ⟨w.goes i H hlt q, Pv (i + 1), fun H' p' => ⟨n - (i + 1), by omega, rfl, hlt, p'⟩, fun x H' y => hs i x H H' hlt p (w.yields i H x H' hlt q y)⟩
  · have e : i = n := by omega
    subst e
    exact .inl ⟨w.stops H q, hd H p⟩
end
set_option maxHeartbeats 1000000 in
theorem meets_enum1 {v : Value} {o : Obj} {H : Heap → Prop} (B : Begins v o H) :
    Meets (Builtin.«enumerate.__new__» ⟨[.type "enumerate", v], []⟩) (fun _ R s => H s.heap ∧
      R (.ok (.ret (.ref (s.heap.push o).objs.size))) { s with heap := (s.heap.push o).push { cls := .type "enumerate", data := .fields #[.none, .bool false, .ref s.heap.objs.size, rawInt 0, .none, .none] } }) :=
  .of_wp fun prog w A R s h => by
    obtain ⟨hp, g, d, tk, os⟩ := s
    obtain ⟨h1, h⟩ := h
    have hsub := sub_enumerate
    have q1 : ∀ {A' : Around} {E : Value → Shared → Prop} {Q : Value → Shared → Prop}, Q (.ref hp.objs.size) ⟨hp.push o, g, d, tk, os⟩ → wpAny (model prog w) A' (pyIter v) Q E ⟨hp, g, d, tk, os⟩ :=
      fun q => B.iter prog w _ _ ⟨hp, g, d, tk, os⟩ _ h1 q
    wp_walk using q1
    refine wpAny_stack_any fun st => wpAny_pure ?_
    split
    · rename_i c _ _ _ _ _
      cases (c == Value.type "enumerate")
      · wp_walk using q1
        exact ⟨_, rfl, h⟩
      · wp_walk using q1
        exact ⟨_, rfl, h⟩
    · wp_walk using q1
      exact ⟨_, rfl, h⟩
theorem call_enum1 {prog : Program} {w : World} {A : Around} {E : Value → Shared → Prop} {s : Shared} {v : Value} {o : Obj} {H : Heap → Prop} {Q : Value → Shared → Prop} (B : Begins v o H) (h1 : H s.heap)
    (h : ∀ h', IsEnum h' (s.heap.objs.size + 1) s.heap.objs.size 0 .none → h'.get? s.heap.objs.size = some o → h'.objs.size = s.heap.objs.size + 2 →
      (∀ b o, s.heap.get? b = some o → h'.get? b = some o) → Q (.ref (s.heap.objs.size + 1)) { s with heap := h' }) :
    wpAny (model prog w) A (call (.type "enumerate") [v]) Q E s := by
  refine callType_new F.called_enumerate (by decide) (F.typeCall_enumerate_1 _) (F.newCall_enumerate_1 _) (fun obj => F.args_object_init_2 obj _) F.entry_enumerate_new
    (meets_enum1 B) ⟨h1, ?_⟩
  have hz : (s.heap.push o).objs.size = s.heap.objs.size + 1 := Heap.size_push ..
  show _ ∧ _
  rw [hz]
  have he : IsEnum ((s.heap.push o).push { cls := .type "enumerate", data := .fields #[.none, .bool false, .ref s.heap.objs.size, rawInt 0, .none, .none] }) (s.heap.objs.size + 1) s.heap.objs.size 0 .none := by
    have := Heap.get?_push_size (s.heap.push o) (o := { cls := .type "enumerate", data := .fields #[.none, .bool false, .ref s.heap.objs.size, rawInt 0, .none, .none] }) rfl
    rw [hz] at this; exact this
  refine ⟨⟨_, he, rfl⟩, h _ he (Heap.get?_push_of_some _ (Heap.get?_push_size _ B.free)) (by rw [Heap.size_push, hz]) fun b o x => Heap.get?_push_of_some _ (Heap.get?_push_of_some _ x)⟩
/-- the tuple at a as it stands at each turn, each item in a new pair -/
def IteT (K : PySem.W.Frag) (a : Addr) : It :=
  ⟨fun i H => ∃ (xs : List V) (x : V), SqT K H a xs ∧ xs[i]? = some x, fun i H v H' => ∃ T x, v = .ref T ∧ H T = none ∧ H' = upd H T (.tup [.int (i : Nat), x]) ∧ ∀ xs, SqT K H a xs → xs[i]? = some x, fun i H => ∃ xs : List V, SqT K H a xs ∧ xs.length ≤ i⟩
theorem draws_end {prog : Program} {w : World} {A : Around} {it a : Addr} {items : Array Value} {i : Nat} (hh : A.handled = none) (hne : a ≠ it) (hx : items[i]? = none) :
    Draws prog w A it [it, a] i (fun _ _ => False) (fun j h => j = i ∧ h.IsTupleIter it a i ∧ h.IsTuple a items) where
  live := fun _ _ st => let ⟨o, ho, _⟩ := st.2.1; ⟨o, ho⟩
  frame := fun _ _ _ st hk => ⟨st.1, st.2.1.at fun o e => hk it (by simp) o e, st.2.2.at fun o e => hk a (by simp) o e⟩
  item := fun j s Q E hj st _ => absurd st.1 (by omega)
  done := fun s Q E st hE => wpAny_nextOf_tuple_end hh st.2.1 st.2.2 hx hE
theorem turn_enumT {P : Program} {w : World} {K : PySem.W.Frag} {elts : List Expr} {kk : Nat} {tpos : Pos} (a e it : Addr) :
    Turn P w K (.Tuple elts kk tpos) (IteT K a) [e, it] e (fun i h => (∃ old, IsEnum h e it ((i : Nat) : Int) old) ∧ h.IsTupleIter it a i ∧ e ≠ it ∧ a ≠ it ∧ e ≠ a) where
  mem := by simp
  obj := fun i h st b hb => by
    obtain ⟨⟨old, he⟩, ⟨o, ho, hc, hd⟩, _⟩ := st
    have e' : b = e ∨ b = it := by simpa using hb
    rcases e' with z | z
    · rw [z]; exact ⟨_, he, fun v q => nomatch q⟩
    · rw [z]; exact ⟨o, ho, fun v q => by rw [hd] at q; cases q⟩
  keep := fun i h h' st k => let ⟨⟨old, he⟩, hi, hne⟩ := st; ⟨⟨old, k e (by simp) _ he⟩, hi.at fun o q => k it (by simp) o q, hne⟩
  item := by
    intro X hP hw hK hc i pins s σ H E I hf st hg
    subst hP hw hK
    obtain ⟨⟨old, he⟩, hit, hne, hai, hea⟩ := st
    obtain ⟨xs, x, hq, hx⟩ := hg
    obtain ⟨its, rv, p, hz⟩ := I.tuple hq
    obtain ⟨u, hu, ru⟩ := rv.get hx
    have hel : e < s.heap.objs.size := Heap.lt_size he
    have hil : it < s.heap.objs.size := by obtain ⟨_, q, _⟩ := hit; exact Heap.lt_size q
    have hlt : i < its.toArray.size := by
      have := (List.getElem?_eq_some_iff.mp hu).1
      simpa using this
    refine wpAny_pyNext_enum_itemD (Draws.tuple (A := X.A.in1) (I.ok.hd hc) it a hai its.toArray) he ⟨hit, p⟩ hlt hne (by simp [hne, hea]) fun y h' tk hy ho hst hT hsz hk => ?_
    have hyu : y = u := by
      have e1 : its.toArray[i]? = some u := by simpa using hu
      rw [e1] at hy
      exact (Option.some.inj hy).symm
    subst hyu
    refine ⟨_, rfl, wpAny_letOwnedTupleGo_enum (s := { s with heap := h', toks := tk + 1 }) ho fun h'' he' sb => ?_⟩
    have hT2 : h''.get? s.heap.objs.size = some { cls := .type "tuple", data := .seq #[.int i tk, y] } := (sb.2 _ (Nat.ne_of_gt hel)).trans hT
    have new : ObjOk X.prog X.w (upd H s.heap.objs.size (.tup [.int (i : Nat), x])) h'' s.heap.objs.size (.tup [.int (i : Nat), x]) :=
      ⟨by show 2 ≤ sizeLine; decide, [.int i tk, y], .cons ⟨_, rfl⟩ (.cons ru .nil), ⟨_, hT2, rfl, _, rfl⟩⟩
    have I1 : Inv X pins σ (upd H s.heap.objs.size (.tup [.int (i : Nat), x])) { s with heap := h'', toks := tk + 1 } :=
      I.turnedNew (ch := [e, it]) (fun b ob hb q => (sb.2 b (fun z => hb (by simp [z]))).trans (hk b ob (fun z => hb (by simp [z])) (fun z => hb (by simp [z])) q)) hf (Nat.le_refl _) new
    refine ⟨.ref s.heap.objs.size, _, I1, rfl, ⟨_, x, rfl, I.hok.fresh (Nat.le_refl _), rfl, fun ys hy => by rw [I.tuple_inj hy hq]; exact hx⟩, ⟨⟨y, ?_⟩, hst.1.at fun o q => (sb.2 it (Ne.symm hne)).trans q, hne, hai, hea⟩, fun b hb => ?_⟩
    · have e1 : ((i + 1 : Nat) : Int) = (i : Int) + 1 := by omega
      rw [e1]; exact he'
    · have hb' : b < s.heap.objs.size := by
        have e' : b = e ∨ b = it := by simpa using hb
        rcases e' with z | z
        · rw [z]; exact hel
        · rw [z]; exact hil
      rw [upd_ne (Nat.ne_of_lt hb')]
      exact (hf b hb).1
  done := by
    intro X hP hw hK hc i pins s σ H E I hf st hg
    subst hP hw hK
    obtain ⟨⟨old, he⟩, hit, hne, hai, hea⟩ := st
    obtain ⟨xs, hq, hx⟩ := hg
    obtain ⟨its, rv, p, hz⟩ := I.tuple hq
    obtain ⟨f0, f1, f2, f3, f4, f5⟩ := hf it (by simp)
    have hl := rv.length
    have hx0 : its.toArray[i]? = none := by simp; omega
    exact wpAny_pyNext_enum_endD (draws_end (A := X.A.in1) (I.ok.hd hc) hai hx0) he ⟨rfl, hit, p⟩ fun h' eb => ⟨rfl, I.turned (t' := s.toks) (fun b o hb q => eb b o hb q) f0 f1 f3 f4 f5⟩
  self := fun A i s Q E st h => let ⟨⟨_, he⟩, _⟩ := st; wpAny_pyIter_enum he h
def iEnumT (K : PySem.W.Frag) (ta : TA) : TI := fun σ H R => ta σ H fun vs H1 => ∃ a xs, vs = [.ref a] ∧ SqT K H1 a xs ∧ R (IteT K a) H1
theorem pi_enumT {X : Cx} {e : Expr} {ta : TA} {p pos tpos : Pos} {elts : List Expr} {kk : Nat} (hg : Gl X "enumerate") (hm : X.mg "enumerate" = none) (ha : PA X [e] ta) (hs : starEach [e] X.env = [(false, eval e X.env)] := by rfl) :
    PI X (.Tuple elts kk tpos) (.Call (.Name "enumerate" p) [e] [] pos) (iEnumT X.K ta) := by
  refine ⟨fun pins s σ H R I h => ?_⟩
  refine Call_ (ld_blt I hg hm boot_enumerate (PyProof.Rows.callWith_type1 (thn (ha.run pos pins s σ H _ I h) fun us s1 ⟨vs, H1, I1, r1, q1⟩ => ?_) hs rfl))
  obtain ⟨a, xs, ex, hq, q⟩ := q1
  subst ex
  cases r1 with
  | cons r rr =>
    cases rr
    cases r
    obtain ⟨its, rv, p', hz⟩ := I1.tuple hq
    have hal : a < s1.heap.objs.size := by obtain ⟨_, q, _⟩ := p'; exact Heap.lt_size q
    refine call_enum1 (begins_tuple a its.toArray) (show s1.heap.IsTuple a its.toArray from p') fun h' he hit hsz hk => wpAny_pyIter_enum he ?_
    have I2 : Inv X pins σ H1 { s1 with heap := h' } := I1.kept (t' := s1.toks) hk
    refine ⟨s1.heap.objs.size + 1, [s1.heap.objs.size + 1, s1.heap.objs.size], _, _, H1, rfl, I2, turn_enumT a (s1.heap.objs.size + 1) s1.heap.objs.size, ⟨⟨.none, he⟩, ⟨_, hit, rfl, rfl⟩, Nat.succ_ne_self _, Nat.ne_of_lt hal, Nat.ne_of_gt (Nat.lt_succ_of_lt hal)⟩, fun b hb => ?_, q⟩
    have e' : b = s1.heap.objs.size + 1 ∨ b = s1.heap.objs.size := by simpa using hb
    have hle : s1.heap.objs.size ≤ b := by
      rcases e' with z | z
      · rw [z]; exact Nat.le_add_right _ _
      · rw [z]; exact Nat.le_refl _
    exact I1.fpOk hle (I1.hok.fresh hle)
theorem walk_enumT {K : PySem.W.Frag} {a : Addr} {xs : List V} : Walk (IteT K a) xs.length (fun H => SqT K H a xs) (YPair (fun i => some (.int (i : Nat))) (fun i => xs[i]?)) := by
  refine ⟨fun i _ hi q => ⟨xs, xs[i], q, by simp [hi]⟩, fun _ q => ⟨xs, q, Nat.le_refl _⟩, fun i H v H' _ q y => ?_⟩
  obtain ⟨T, x, h1, h2, h3, h4⟩ := y
  exact ⟨T, .int (i : Nat), x, h1, h2, h3, rfl, h4 xs q⟩
/-- for i, x in enumerate(t), t a new tuple -/
theorem q_forEnumNT {K : PySem.W.Frag} {σ : L2.St} {H : Hp} {tl : TE} {D : Ends} {tu tz : TS} {xs : List V} {j1 j2 : Nat} (h : EvU tl σ H xs) (Pv : Nat → L2.St → Hp → Prop) (h0 : ∀ H1, Ex H H1 → Pv 0 σ H1)
    (hs : ∀ (i : Nat) x σ' H' H2, xs[i]? = some x → Pv i σ' H' → Ex H' H2 → ∀ N : L2.St → Hp → Prop, (∀ σ3 H3, Pv (i + 1) σ3 H3 → Tx H2 H3 → N σ3 H3) → tu { D with nx := N, ct := N, bk := tz D } ((σ'.set j1 (some (.int i))).set j2 (some x)) H2) (hd : ∀ σ' H', Pv xs.length σ' H' → tz D σ' H') : tSeq (tFor (iEnumT K (tCons tl tNil)) (gPair K j1 j2) tu) tz D σ H :=
  h H (Ex.refl H) _ fun p H1 _ e hp => ⟨p, xs, rfl, st_of hp, for_it walk_enumT (fun i σ' H' => Pv i σ' H' ∧ H' p = some (.tup xs)) ⟨h0 H1 e, hp⟩ (fun i σ' H' _ z => st_of z.2) (fun i v σ' H' H2 hi z y => by
    obtain ⟨T, x, w, rfl, hT, rfl, e1, e2⟩ := y
    cases e1
    have eT : Ex H' (upd H' T (.tup [.int (i : Nat), w])) := Ex.new hT
    exact ⟨T, _, rfl, st_of upd_same, rfl, _, _, rfl, _, _, rfl, rfl, hs i w σ' H' _ e2 z.1 eT _ fun σ3 H3 a t => ⟨a, t _ _ (eT _ _ z.2)⟩⟩) fun σ' H' z => hd σ' H' z.1⟩
section
variable {K : PySem.W.Frag} {σ : L2.St} {H : Hp} {te ta tb : TE} {v : V}
theorem rv_neB {a b : Bool} : Evl.RV rNe (.bl a) (.bl b) H (.bl (!decide (V.bl a = V.bl b))) := rv_ne rfl
theorem ev_isiN {m : String} {cs : List String} {b : Bool} (h : Ev te σ H v) (ty : TyX K H v (.type m)) (e : PySem.W.kitAny K (.type m) (cs.map Value.type) = some b) {ta : TA} (ht : EvU (tTup ta) σ H (cs.map V.ty)) : Ev (tCB (rIsiT K) (tCons te (tCons (tTup ta) tNil))) σ H (.bl b) := fun H1 x Q q =>
  h H1 x _ fun H2 x2 => ht H2 (x.trans x2) _ fun p H3 hp x3 h3 => by
    show rIsiT K [v, .ref p] H3 Q
    have pr : ∀ cs : List String, Paired ClsV (cs.map V.ty) (cs.map Value.type) := fun cs => by
      induction cs with
      | nil => exact .nil
      | cons c cs ih => exact .cons (.ty c) ih
    exact ⟨v, p, cs.map V.ty, _, cs.map Value.type, b, rfl, h3, pr cs, tyx_ext ((x.trans x2).trans x3) ty, e, q _ (x2.trans x3)⟩
end
end K23

set_option Elab.async false
set_option linter.all false
set_option maxRecDepth 100000
set_option maxHeartbeats 4000000
/-! Any object, as data; words. -/
namespace K23
open PySem PySem.Spec PyProof.Rows L2 Evl
inductive O where
  | non | bl (b : Bool) | int (i : Int) | str (s : Str) | dct | lst (xs : List O) | tup (xs : List O)
def O.seq : Bool → List O → O
  | true, xs => .lst xs
  | false, xs => .tup xs
mutual
def O.sz : O → Nat
  | .non => 1 | .bl _ => 1 | .int _ => 1 | .str _ => 1 | .dct => 1 | .lst xs => O.szs xs + 1 | .tup xs => O.szs xs + 1
def O.szs : List O → Nat
  | [] => 0
  | x :: xs => x.sz + O.szs xs
end
mutual
def O.dp : O → Nat
  | .non => 0 | .bl _ => 0 | .int _ => 0 | .str _ => 0 | .dct => 0 | .lst xs => O.dps xs + 1 | .tup xs => O.dps xs + 1
def O.dps : List O → Nat
  | [] => 0
  | x :: xs => max x.dp (O.dps xs)
end
mutual
def O.strip : O → O
  | .non => .non | .bl b => .bl b | .int i => .int i | .str s => .str s | .dct => .dct | .lst xs => .tup (O.strips xs) | .tup xs => .tup (O.strips xs)
def O.strips : List O → List O
  | [] => []
  | x :: xs => x.strip :: O.strips xs
end
mutual
def O.hasL : O → Bool
  | .non => false | .bl _ => false | .int _ => false | .str _ => false | .dct => false | .lst _ => true | .tup xs => O.hasLs xs
def O.hasLs : List O → Bool
  | [] => false
  | x :: xs => x.hasL || O.hasLs xs
end
mutual
def OV (H : Hp) : V → O → Prop
  | v, .non => v = .non
  | v, .bl b => v = .bl b
  | v, .int i => v = .int i
  | v, .str s => v = .str s
  | v, .dct => ∃ a, v = .ref a ∧ H a = some (.dK [])
  | v, .lst xs => ∃ a vs, v = .ref a ∧ H a = some (.lst vs) ∧ OVs H vs xs
  | v, .tup xs => ∃ a vs, v = .ref a ∧ H a = some (.tup vs) ∧ OVs H vs xs
def OVs (H : Hp) : List V → List O → Prop
  | vs, [] => vs = []
  | vs, o :: os => ∃ v us, vs = v :: us ∧ OV H v o ∧ OVs H us os
end
section
variable {H G : Hp}
mutual
theorem OV.ext (e : Ex H G) : ∀ {o : O} {v : V}, OV H v o → OV G v o
  | .non, _, h => h
  | .bl _, _, h => h
  | .int _, _, h => h
  | .str _, _, h => h
  | .dct, _, ⟨a, h1, h2⟩ => ⟨a, h1, e _ _ h2⟩
  | .lst _, _, ⟨a, vs, h1, h2, h3⟩ => ⟨a, vs, h1, e _ _ h2, OVs.ext e h3⟩
  | .tup _, _, ⟨a, vs, h1, h2, h3⟩ => ⟨a, vs, h1, e _ _ h2, OVs.ext e h3⟩
theorem OVs.ext (e : Ex H G) : ∀ {os : List O} {vs : List V}, OVs H vs os → OVs G vs os
  | [], _, h => h
  | _ :: _, _, ⟨v, us, h1, h2, h3⟩ => ⟨v, us, h1, OV.ext e h2, OVs.ext e h3⟩
end
theorem OVs.length : ∀ {os : List O} {vs : List V}, OVs H vs os → vs.length = os.length
  | [], _, h => by rw [show _ = [] from h]; rfl
  | _ :: _, _, ⟨v, us, h1, h2, h3⟩ => by rw [h1, List.length_cons, List.length_cons, OVs.length h3]
theorem OVs.nil : OVs H [] [] := rfl
theorem OVs.cons {v : V} {vs : List V} {o : O} {os : List O} (h : OV H v o) (k : OVs H vs os) : OVs H (v :: vs) (o :: os) := ⟨v, vs, rfl, h, k⟩
theorem OVs.append : ∀ {os ps : List O} {vs us : List V}, OVs H vs os → OVs H us ps → OVs H (vs ++ us) (os ++ ps)
  | [], _, _, _, h, k => by rw [show _ = [] from h]; exact k
  | _ :: _, _, _, _, ⟨v, us, h1, h2, h3⟩, k => by rw [h1]; exact ⟨v, _, rfl, h2, OVs.append h3 k⟩
theorem OVs.snoc : ∀ {os : List O} {o : O} {vs : List V}, OVs H vs (os ++ [o]) → ∃ us v, vs = us ++ [v] ∧ OVs H us os ∧ OV H v o
  | [], _, _, ⟨v, us, h1, h2, h3⟩ => ⟨[], v, by rw [h1, show us = [] from h3]; rfl, rfl, h2⟩
  | _ :: _, _, _, ⟨v, us, h1, h2, h3⟩ => by
    obtain ⟨ws, w, e, a, b⟩ := OVs.snoc h3
    exact ⟨v :: ws, w, by rw [h1, e]; rfl, ⟨v, ws, rfl, h2, a⟩, b⟩
theorem OVs.get : ∀ {os : List O} {vs : List V} {i : Nat} {v : V}, OVs H vs os → vs[i]? = some v → ∃ o, os[i]? = some o ∧ OV H v o
  | [], _, i, v, h, e => by rw [show _ = [] from h] at e; simp at e
  | o :: _, _, 0, v, ⟨u, us, h1, h2, h3⟩, e => by
    rw [h1] at e
    obtain rfl : u = v := by simpa using e
    exact ⟨o, rfl, h2⟩
  | _ :: _, _, i + 1, v, ⟨u, us, h1, h2, h3⟩, e => by
    rw [h1] at e
    obtain ⟨o, a, b⟩ := OVs.get (i := i) (v := v) h3 (by simpa using e)
    exact ⟨o, by simpa using a, b⟩
theorem OVs.geto : ∀ {os : List O} {vs : List V} {i : Nat} {o : O}, OVs H vs os → os[i]? = some o → ∃ v, vs[i]? = some v ∧ OV H v o
  | [], _, i, v, h, e => by simp at e
  | o :: _, _, 0, p, ⟨u, us, h1, h2, h3⟩, e => by
    obtain rfl : o = p := by simpa using e
    exact ⟨u, by rw [h1]; rfl, h2⟩
  | _ :: _, _, i + 1, v, ⟨u, us, h1, h2, h3⟩, e => by
    obtain ⟨w, a, b⟩ := OVs.geto (i := i) h3 (by simpa using e)
    exact ⟨w, by rw [h1]; simpa using a, b⟩
theorem O.szs_app : ∀ (xs ys : List O), O.szs (xs ++ ys) = O.szs xs + O.szs ys
  | [], ys => by simp [O.szs]
  | x :: xs, ys => by
    show x.sz + O.szs (xs ++ ys) = x.sz + O.szs xs + O.szs ys
    rw [O.szs_app xs ys]
    omega
theorem O.sz_pos : ∀ o : O, 1 ≤ o.sz
  | .non => Nat.le_refl _ | .bl _ => Nat.le_refl _ | .int _ => Nat.le_refl _ | .str _ => Nat.le_refl _ | .dct => Nat.le_refl _
  | .lst xs => Nat.le_add_left _ _ | .tup xs => Nat.le_add_left _ _
theorem O.len_szs : ∀ xs : List O, xs.length ≤ O.szs xs
  | [] => Nat.le_refl _
  | x :: xs => by
    have h := O.len_szs xs
    have h1 := x.sz_pos
    show xs.length + 1 ≤ x.sz + O.szs xs
    omega
/-- a list or a tuple -/
theorem OV.seq {v : V} {b : Bool} {xs : List O} (h : OV H v (O.seq b xs)) : ∃ a vs, v = .ref a ∧ H a = some (if b = true then .lst vs else .tup vs) ∧ OVs H vs xs := by
  cases b with
  | true => exact h
  | false => exact h
theorem O.seq_sz {b : Bool} {xs : List O} : (O.seq b xs).sz = O.szs xs + 1 := by cases b <;> rfl
end
/-! ### of what type -/
def O.ty : O → String
  | .non => "NoneType" | .bl _ => "bool" | .int _ => "int" | .str _ => "str" | .dct => "dict" | .lst _ => "list" | .tup _ => "tuple"
def O.isInt : O → Bool
  | .bl _ => true | .int _ => true | _ => false
def O.isBool : O → Bool
  | .bl _ => true | _ => false
def O.isStr : O → Bool
  | .str _ => true | _ => false
def O.isLst : O → Bool
  | .lst _ => true | _ => false
def O.isTup : O → Bool
  | .tup _ => true | _ => false
def O.isDct : O → Bool
  | .dct => true | _ => false
section
variable {K : PySem.W.Frag} {σ : L2.St} {H G : Hp} {te ta tb : TE} {v : V} {o : O}
theorem OV.tyx (h : OV H v o) : TyX K H v (.type o.ty) := by
  cases o with
  | non => rw [show v = .non from h]; exact .base .non
  | bl b => rw [show v = .bl b from h]; exact .base (.bl b)
  | int i => rw [show v = .int i from h]; exact .base (.int i)
  | str s => rw [show v = .str s from h]; exact .base (.str s)
  | dct => obtain ⟨a, rfl, h1⟩ := h; exact .base (.dK h1)
  | lst xs => obtain ⟨a, vs, rfl, h1, _⟩ := h; exact .base (.lst h1)
  | tup xs => obtain ⟨a, vs, rfl, h1, _⟩ := h; exact .base (.tup h1)
theorem kit_int (o : O) : kitB o.ty "int" = some o.isInt := by cases o <;> dsimp only [O.ty, O.isInt] <;> decide +kernel
theorem kit_bool (o : O) : kitB o.ty "bool" = some o.isBool := by cases o <;> dsimp only [O.ty, O.isBool] <;> decide +kernel
theorem kit_str (o : O) : kitB o.ty "str" = some o.isStr := by cases o <;> dsimp only [O.ty, O.isStr] <;> decide +kernel
theorem kit_lst (o : O) : kitB o.ty "list" = some o.isLst := by cases o <;> dsimp only [O.ty, O.isLst] <;> decide +kernel
theorem kit_tup (o : O) : kitB o.ty "tuple" = some o.isTup := by cases o <;> dsimp only [O.ty, O.isTup] <;> decide +kernel
theorem kit_dct (o : O) : kitB o.ty "dict" = some o.isDct := by cases o <;> dsimp only [O.ty, O.isDct] <;> decide +kernel
theorem ev_isInt (h : Ev te σ H v) (k : OV H v o) : Ev (tIsi K "int" te) σ H (.bl o.isInt) := ev_isi h k.tyx (kit_int o)
theorem ev_isBool (h : Ev te σ H v) (k : OV H v o) : Ev (tIsi K "bool" te) σ H (.bl o.isBool) := ev_isi h k.tyx (kit_bool o)
theorem ev_isStr (h : Ev te σ H v) (k : OV H v o) : Ev (tIsi K "str" te) σ H (.bl o.isStr) := ev_isi h k.tyx (kit_str o)
theorem ev_isLst (h : Ev te σ H v) (k : OV H v o) : Ev (tIsi K "list" te) σ H (.bl o.isLst) := ev_isi h k.tyx (kit_lst o)
theorem ev_isTup (h : Ev te σ H v) (k : OV H v o) : Ev (tIsi K "tuple" te) σ H (.bl o.isTup) := ev_isi h k.tyx (kit_tup o)
theorem ev_isDct (h : Ev te σ H v) (k : OV H v o) : Ev (tIsi K "dict" te) σ H (.bl o.isDct) := ev_isi h k.tyx (kit_dct o)
theorem ev_isSeq (h : Ev te σ H v) (k : OV H v o) : Ev (tIsi2 K te) σ H (.bl (o.isLst || o.isTup)) := ev_isi2 h k.tyx (kit_lst o) (kit_tup o)
theorem O.seq_of {o : O} (h : (o.isLst || o.isTup) = true) : ∃ b xs, o = O.seq b xs := by
  cases o with
  | lst xs => exact ⟨true, xs, rfl⟩
  | tup xs => exact ⟨false, xs, rfl⟩
  | _ => cases h
end
/-! ### rules for either of two kinds -/
theorem ix_or {X : Cx} {r1 r2 : R2} (h1 : IxR X r1) (h2 : IxR X r2) : IxR X (fun x y H Q => r1 x y H Q ∨ r2 x y H Q) := by
  intro value slice pins s σ H x y v u Q I rx ry h e
  rcases h with h | h
  · exact h1 value slice pins s σ H x y v u Q I rx ry h e
  · exact h2 value slice pins s σ H x y v u Q I rx ry h e
theorem op_or {X : Cx} {f : Value → Value → Sem Value} {r1 r2 : R2} (h1 : OpR X f r1) (h2 : OpR X f r2) : OpR X f (fun x y H Q => r1 x y H Q ∨ r2 x y H Q) := by
  intro pins s σ H x y v u Q I rx ry h
  rcases h with h | h
  · exact h1 pins s σ H x y v u Q I rx ry h
  · exact h2 pins s σ H x y v u Q I rx ry h
theorem mt_or {X : Cx} {id : String} {r1 r2 : V → List V → Hp → VK → Prop} (h1 : MtM X id r1) (h2 : MtM X id r2) : MtM X id (fun x vs H Q => r1 x vs H Q ∨ r2 x vs H Q) := by
  intro pins s σ H x vs v us Q I rx rv h
  rcases h with h | h
  · exact h1 pins s σ H x vs v us Q I rx rv h
  · exact h2 pins s σ H x vs v us Q I rx rv h
section
variable {K : PySem.W.Frag} {σ : L2.St} {H G : Hp} {te ta tb : TE} {v : V} {D : Ends} {tz : TS}
/-- x[i], x a list or a tuple -/
abbrev rIxQ (K : PySem.W.Frag) : R2 := fun x y H Q => rIxL K x y H Q ∨ rIxT K x y H Q
theorem ix_seq {X : Cx} : IxR X (rIxQ X.K) := ix_or ix_list ix_tup
abbrev rSlQ (K : PySem.W.Frag) : V → Option Int → Option Int → Hp → VK → Prop := fun x lo hi H Q => rSlL K x lo hi H Q ∨ rSlT K x lo hi H Q
theorem sl_seq {X : Cx} : SlR X (rSlQ X.K) := SlR.or sl_list sl_tup
/-- xs.extend(ys), ys a new list or a tuple -/
abbrev rExtQ (K : PySem.W.Frag) : V → List V → Hp → VK → Prop := fun x vs H Q => rExtend x vs H Q ∨ rExtT K x vs H Q
theorem mt_extQ {X : Cx} : MtM X "list.extend" (rExtQ X.K) := mt_or mt_extend mt_extT
/-- what stands at a: a list or a tuple -/
def SqB (H : Hp) (b : Bool) (a : Addr) (vs : List V) : Prop := H a = some (if b = true then .lst vs else .tup vs)
theorem SqB.ext {b : Bool} {a : Addr} {vs : List V} (e : Ex H G) (h : SqB H b a vs) : SqB G b a vs := e _ _ h
theorem rv_ixQ {b : Bool} {p : Addr} {vs : List V} {i : Int} (h : SqB H b p vs) (ha : atI vs i = some v) : RV (rIxQ K) (.ref p) (.int i) H v := fun H1 e Q q => by
  cases b with
  | true => exact .inl (rv_ixL (sq_of h) ha H1 e Q q)
  | false => exact .inr (rv_ixT (st_of h) ha H1 e Q q)
theorem ev_notN {b : Bool} (h : Ev te σ H v) (e : (!decide (v = .non)) = b) : Ev (tNotN te) σ H (.bl b) := fun H1 x Q q => h H1 x _ fun H2 x2 => by
  subst e
  exact q H2 x2
theorem ev_lenQ {b : Bool} {p : Addr} {vs : List V} (h : Ev te σ H (.ref p)) (hs : SqB H b p vs) : Ev (tLen K te) σ H (.int (vs.length : Nat)) := by
  cases b with
  | true => exact ev_lenL h (sq_of hs)
  | false => exact ev_lenT h (st_of hs)
/-- a new list or tuple -/
def EvQ (te : TE) (σ : L2.St) (H : Hp) (xs : List V) : Prop := ∀ H1, Ex H H1 → ∀ Q : VK, (∀ b p H2, H1 p = none → Ex H1 H2 → SqB H2 b p xs → Q (.ref p) H2) → te σ H1 Q
/-- x[1:] -/
theorem eq_tail {b : Bool} {a : Addr} {x : V} {xs : List V} (h : Ev te σ H (.ref a)) (ha : SqB H b a (x :: xs)) : EvQ (tSl (rSlQ K) te (tPart (tC (.int 1))) tNoPart) σ H xs := fun H1 e Q q =>
  h H1 e _ fun H2 e2 => ⟨1, rfl, by
    have e0 : cutV (x :: xs) (some 1) none = xs := cut1 x xs
    have ha2 := ha.ext (e.trans e2)
    cases b with
    | true => exact .inl ⟨a, x :: xs, rfl, sq_of ha2, fun p hp => by
        rw [e0]
        exact q true p _ (fresh_back e2 hp) (e2.trans (Ex.new hp)) upd_same⟩
    | false => exact .inr ⟨a, x :: xs, rfl, st_of ha2, fun z => by
        have e1 : HT.sIx (x :: xs).length 0 (some 1) = 1 := by simp [HT.sIx]
        rw [e1] at z
        exact absurd z.1 (by decide), fun p hp => by
        rw [e0]
        exact q false p _ (fresh_back e2 hp) (e2.trans (Ex.new hp)) upd_same⟩⟩
theorem s_extQ {l : Addr} {xs zs : List V} (hl : H l = some (.lst xs)) (ha : Ev ta σ H (.ref l)) (hb : EvQ te σ H zs) (hs : xs.length + zs.length ≤ 100000) (k : ∀ H1, Ex H H1 → D.nx σ (upd H1 l (.lst (xs ++ zs)))) :
    tDrop (tBM K "list" (rExtQ K) ta (tCons te tNil)) D σ H := ha H (Ex.refl H) _ fun H1 e1 => ⟨.inl ⟨rfl, _, sq_of (e1 l _ hl)⟩, hb H1 e1 _ fun b p H2 _ e2 hp => by
  have hl2 := e2 l _ (e1 l _ hl)
  cases b with
  | true => exact .inl ⟨l, p, xs, zs, rfl, rfl, hl2, hp, sz_of hs, k H2 (e1.trans e2)⟩
  | false => exact .inr ⟨l, p, xs, zs, rfl, rfl, hl2, st_of hp, sz_of hs, k H2 (e1.trans e2)⟩⟩
end
end K23

set_option Elab.async false
set_option linter.all false
set_option maxRecDepth 100000
set_option maxHeartbeats 4000000
/-! What is known of the module's names; kinds. -/
namespace K23
open PySem PySem.Spec PyProof.Rows L2 Evl
/-! ### own exception classes -/
theorem shape_ok {K : PySem.W.Frag} {C : Addr} {bm : List Value} (q : shapeB K C bm = true) :
    ∃ nm qn N bs sn sub ab col dd k0 k1 k2 k3 k5, K.lookup C = some (excClassObj nm qn C N bs bm true sn sub ab col dd k0 k1 k2 k3 k5 "ValueError.__new__") := by
  unfold shapeB at q
  split at q
  · rename_i dd cd sl ho
    split at q
    · rename_i k0 k1 k2 k3 n k5 hs
      simp only [Bool.and_eq_true, beq_iff_eq, Bool.not_eq_true'] at q
      obtain ⟨rfl, hdel, hd, hm⟩ := q
      obtain ⟨nm, bs, mro, ns, qn, hdc, sn, sub, ab, col, del⟩ := cd
      dsimp only at hm hdel hd
      subst hm hdel hd
      have hsl : sl = #[k0, k1, k2, k3, some (.builtin "ValueError.__new__"), k5] := by
        obtain ⟨l⟩ := sl
        simp only at hs
        rw [hs]
      subst hsl
      exact ⟨nm, qn, ns, bs, sn, sub, ab, col, dd, k0, k1, k2, k3, k5, ho⟩
    · cases q
  · cases q
theorem bm_ve (S : Addr) : PySem.HandSPX.refsVE (bmS S) = true := by
  show PySem.HandSPX.refsVE PySem.HandSPX.veTail = true
  decide +kernel
/-- a class that keeps one thing -/
structure ErrC (P : Program) (w : World) (K : PySem.W.Frag) (mg : Str → Option Value) (base : Heap) (x : Str) : Prop where
  oex : OexC K (He.ga K x)
  xf : XfC K (He.ga K x)
  no : PySem.W.findIn K (.ref (He.ga K x)) "thing" = some none
  gl : mg x = some (.ref (He.ga K x))
  te : PySem.W.exmOne K (.ref (He.ga K x)) (.ref (He.ga K x)) = some true
  ini : ∃ (fI : Addr) (fd : FuncData) (p1 p2 p3 p4 : Pos) (params : Arguments) (scope : Scope) (qual : Str), PySem.W.findIn K (.ref (He.ga K x)) "__init__" = some (some (.ref fI)) ∧ PySem.W.typeIn K (.ref fI) = some (.type "function") ∧
    FunD K "__init__" qual params [.Assign [.Attribute (.Name "self" p1) "thing" p2] (.Name "thing" p3) p4] scope [] [] fI fd ∧ FnScope ["self", "thing"] ["self", "thing"] scope ∧ Binds K fd ["self", "thing"] []
structure T23 (P : Program) (w : World) (K : PySem.W.Frag) (mg : Str → Option Value) (base : Heap) : Prop where
  fr : ∀ x ∈ fBl, mg x = none
  df : ∀ (i : Nat) (x : Str) (st : Stmt), fnA[i]? = some (dN x st) → (∃ fd, FnP K x st (He.ga K x) fd) ∧ mg x = some (.ref (He.ga K x))
  kd : ∃ es n, KDict K w (He.ga K "KEPT") es n
  kn : ∀ x ∈ hds, PySem.W.nsIn K (He.ga K "KEPT") x = some none
  knot : ∃ v, PySem.W.nsIn K (He.ga K "KEPT") "not" = some (some v)
  kept : mg "KEPT" = some (.ref (He.ga K "KEPT"))
  letters : ∃ t, mg "LETTERS" = some (.str "abcdefghijklmnopqrstuvwxyz" t)
  capitals : ∃ t, mg "CAPITALS" = some (.str "ABCDEFGHIJKLMNOPQRSTUVWXYZ" t)
  longest : ∃ t, mg "LONGEST" = some (.int 8 t)
  most : ∃ t, mg "MOST_PLACES" = some (.int 6 t)
  bw : ErrC P w K mg base "BadWord"
  bp : ErrC P w K mg base "BadPlace"
  xpw : PySem.W.exmOne K (.ref (He.ga K "BadPlace")) (.ref (He.ga K "BadWord")) = some false
  cl : ∀ x ∈ cnms, mg x = some (.ref (He.ga K x))
/-- a def of the module keeps a promise; CX: what it may let out -/
structure Ok (P : Program) (w : World) (K : PySem.W.Frag) (mg : Str → Option Value) (base : Heap) (CX : CXT) (x : Str) (ps : List Str) (k : Nat) (sp : Sp) : Prop where
  ex : ∃ (f : Addr) (fd : FuncData), FnOk P w K mg base CX k f fd ps sp ∧ Binds K fd ps [] ∧ PySem.W.keepIn K (.ref f) = true ∧ mg x = some (.ref f)
section
variable {P : Program} {w : World} {K : PySem.W.Frag} {mg : Str → Option Value} {base : Heap}
theorem T23.isi (T : T23 P w K mg base) : mg "isinstance" = none := T.fr _ (by decide)
theorem T23.len (T : T23 P w K mg base) : mg "len" = none := T.fr _ (by decide)
theorem T23.list (T : T23 P w K mg base) : mg "list" = none := T.fr _ (by decide)
theorem T23.tuple (T : T23 P w K mg base) : mg "tuple" = none := T.fr _ (by decide)
theorem T23.str (T : T23 P w K mg base) : mg "str" = none := T.fr _ (by decide)
theorem T23.int (T : T23 P w K mg base) : mg "int" = none := T.fr _ (by decide)
theorem T23.bool (T : T23 P w K mg base) : mg "bool" = none := T.fr _ (by decide)
theorem T23.dict (T : T23 P w K mg base) : mg "dict" = none := T.fr _ (by decide)
theorem T23.range (T : T23 P w K mg base) : mg "range" = none := T.fr _ (by decide)
theorem T23.enumerate (T : T23 P w K mg base) : mg "enumerate" = none := T.fr _ (by decide)
theorem T23.zip (T : T23 P w K mg base) : mg "zip" = none := T.fr _ (by decide)
theorem T23.all (T : T23 P w K mg base) : mg "all" = none := T.fr _ (by decide)
theorem T23.max (T : T23 P w K mg base) : mg "max" = none := T.fr _ (by decide)
theorem T23.min (T : T23 P w K mg base) : mg "min" = none := T.fr _ (by decide)
theorem T23.repr (T : T23 P w K mg base) : mg "repr" = none := T.fr _ (by decide)
/-- a def by its place, nothing let out -/
theorem T23.ok (T : T23 P w K mg base) (i : Nat) {x : Str} {st : Stmt} {N ps : List Str} {k : Nat} {sp : Sp} (hi : fnA[i]? = some (dN x st)) (S : FnScope N ps (defScope st)) (len : ∀ vs H Q E, sp vs H Q E → vs.length = ps.length)
    (hb : ∀ (kV doc pm : Value) (an : Option Addr) (cdv ct : Value) (us : List Value), us.length = ps.length → bindArgs (PySem.W.fnOf x x (defArgs st) (defBody st) (defScope st) .none kV doc pm an cdv ct) ⟨us, []⟩ = pure (ps.zip us))
    (hbody : ∀ (f : Addr) (cdv : Value) (A : Around) (outer : List Env) (s : Shared) (H : Hp) (vs : List V) (Q : VK) (E : XK), Room k (A.deeper (envOfC x (defScope st) s.heap.objs.size f cdv)) → sp vs H Q E →
      ∃ t, PSs (cxOf CX0 P w K mg base N x (defScope st) f cdv A outer s H E).nox (defBody st) t ∧ t { nx := fun _ H' => Q .non H', rt := Q } (L2.start N vs) H) : Ok P w K mg base CX0 x ps (k + 1) sp := by
  obtain ⟨⟨fd, F⟩, m⟩ := T.df i x st hi
  refine ⟨_, fd, F.ok S len (fun cdv A outer s H vs Q E hr h => ?_), F.bindsN hb, F.kp, m⟩
  obtain ⟨t, h1, h2⟩ := hbody _ cdv A outer s H vs Q E hr h
  exact ⟨t, PSs.nox h1, h2⟩
/-- a def that may raise -/
theorem T23.okX (T : T23 P w K mg base) (i : Nat) {x : Str} {st : Stmt} {N ps : List Str} {k : Nat} {sp : Sp} (hi : fnA[i]? = some (dN x st)) (S : FnScope N ps (defScope st)) (len : ∀ vs H Q E, sp vs H Q E → vs.length = ps.length)
    (hb : ∀ (kV doc pm : Value) (an : Option Addr) (cdv ct : Value) (us : List Value), us.length = ps.length → bindArgs (PySem.W.fnOf x x (defArgs st) (defBody st) (defScope st) .none kV doc pm an cdv ct) ⟨us, []⟩ = pure (ps.zip us))
    (hbody : ∀ (f : Addr) (cdv : Value) (A : Around) (outer : List Env) (s : Shared) (H : Hp) (vs : List V) (Q : VK) (E : XK), Room k (A.deeper (envOfC x (defScope st) s.heap.objs.size f cdv)) → sp vs H Q E →
      ∃ t, PSs (cxOf (L2.CX P w) P w K mg base N x (defScope st) f cdv A outer s H E) (defBody st) t ∧ t { nx := fun _ H' => Q .non H', rt := Q } (L2.start N vs) H) : Ok P w K mg base (L2.CX P w) x ps (k + 1) sp := by
  obtain ⟨⟨fd, F⟩, m⟩ := T.df i x st hi
  exact ⟨_, fd, F.ok S len (fun cdv A outer s H vs Q E hr h => hbody _ cdv A outer s H vs Q E hr h), F.bindsN hb, F.kp, m⟩
end
/-! ### texts -/
def firstIn (s : Str) (z : Str) : Bool := match s.cps.toList with
  | c :: _ => decide (c ∈ z.cps.toList)
  | [] => false
def spelledB (s : Str) : Bool := decide (s.length ≤ 8) && (Txt.isalnum s && Txt.isascii s)
def reachB (s : Str) : Bool := spelledB s && (Txt.islower s && firstIn s "abcdefghijklmnopqrstuvwxyz")
def nameB (s : Str) : Bool := reachB s && !(s == "not")
def varB (s : Str) : Bool := spelledB s && (firstIn s "ABCDEFGHIJKLMNOPQRSTUVWXYZ" && (decide (s.length = 1) || Txt.isdigit (cutS s (some 1) none)))
/-- all texts that stand in any object here -/
def SS : List Str := ["", "x", "a", "Xy", "X1y", "XX", "X", "not", "f", "=", "Ff", "b", "c", "g", "h", "p", "q", "r", "s", "Y", "Z12", "A", "late", "0"]
def okB (s : Str) : Bool := decide (s.length ≤ 100) && ((!Txt.isalnum s || !s.cps.toList.isEmpty) && (!reachB s || (hds.contains s || s == "not")))
theorem ok_ss : SS.all okB = true := by decide +kernel
theorem ss_len {s : Str} (h : s ∈ SS) : s.length ≤ 100 := by
  have k := List.all_eq_true.mp ok_ss s h
  unfold okB at k
  exact of_decide_eq_true (Bool.and_eq_true_iff.mp k).1
theorem ss_first {s : Str} (h : s ∈ SS) (k : Txt.isalnum s = true) : ∃ c cs, s.cps.toList = c :: cs := by
  have q := List.all_eq_true.mp ok_ss s h
  unfold okB at q
  have q2 := (Bool.and_eq_true_iff.mp (Bool.and_eq_true_iff.mp q).2).1
  rw [k] at q2
  cases e : s.cps.toList with
  | nil => rw [e] at q2; cases q2
  | cons c cs => exact ⟨c, cs, rfl⟩
theorem ss_name {s : Str} (h : s ∈ SS) (k : reachB s = true) : s ∈ hds ∨ s = "not" := by
  have q := List.all_eq_true.mp ok_ss s h
  unfold okB at q
  have q2 := (Bool.and_eq_true_iff.mp (Bool.and_eq_true_iff.mp q).2).2
  rw [k] at q2
  have q3 : (hds.contains s || s == "not") = true := q2
  rcases Bool.or_eq_true_iff.mp q3 with z | z
  · exact .inl (List.contains_iff_mem.mp z)
  · exact .inr (beq_iff_eq.mp z)
theorem not_hds : ("not" : Str) ∉ hds := by decide +kernel
end K23

set_option Elab.async false
set_option linter.all false
set_option maxRecDepth 100000
set_option maxHeartbeats 4000000
/-! Integers, lists, names, variables. -/
namespace K23
open PySem PySem.Spec PyProof.Rows L2 Evl
def O.isInteger : O → Bool
  | .int _ => true | _ => false
def O.isNumber : O → Bool
  | .int i => decide (i ≥ 0) | _ => false
def spB (f : O → Bool) : Sp := fun vs H Q _ => ∃ v o, vs = [v] ∧ OV H v o ∧ RetV (.bl (f o)) H Q
theorem spB_len {f : O → Bool} {vs : List V} {H : Hp} {Q : VK} {E : XK} (h : spB f vs H Q E) : vs.length = 1 := by
  obtain ⟨v, o, rfl, _⟩ := h
  rfl
theorem spv_B {f : O → Bool} {v : V} {o : O} {H : Hp} (h : OV H v o) : SpV (spB f) ([v] ++ []) H (.bl (f o)) := fun H1 e Q q E => ⟨v, o, rfl, h.ext e, q⟩
section
variable {P : Program} {w : World} {K : PySem.W.Frag} {mg : Str → Option Value} {base : Heap}
theorem sc_int : FnScope ["thing"] ["thing"] (defScope s_is_integer) := ⟨rfl, rfl, rfl, by decide +kernel, rfl, by decide +kernel, by decide +kernel⟩
theorem ok_is_integer (T : T23 P w K mg base) : Ok P w K mg base CX0 "is_integer" ["thing"] 1 (spB O.isInteger) := by
  refine T.ok 0 rfl sc_int (fun vs H Q E h => spB_len h) (fun kV doc pm an cdv ct us hl => match us, hl with | [_], _ => rfl) (fun f cdv A outer s H vs Q E hr h => ?_)
  obtain ⟨v, o, rfl, ho, k⟩ := h
  refine ⟨_, pss_one (ps_ret (pe_and (pe_isiB T.isi T.int PyProof.Rows.boot_int (pv 0)) (pe_one (pe_not (pe_isiB T.isi T.bool PyProof.Rows.boot_bool (pv 0)))))), ?_⟩
  refine s_ret (ev_is (ev_andV (ev_isInt (ev_var rfl) ho) fun _ => ev_notV (ev_isBool (ev_var rfl) ho)) ?_) k
  cases o <;> rfl
theorem sc_number : FnScope ["thing"] ["thing"] (defScope s_is_number) := ⟨rfl, rfl, rfl, by decide +kernel, rfl, by decide +kernel, by decide +kernel⟩
theorem ok_is_number (T : T23 P w K mg base) : Ok P w K mg base CX0 "is_number" ["thing"] 2 (spB O.isNumber) := by
  obtain ⟨fL, dL, GL, bL, kL, mL⟩ := (ok_is_integer T).ex
  refine T.ok 1 rfl sc_number (fun vs H Q E h => spB_len h) (fun kV doc pm an cdv ct us hl => match us, hl with | [_], _ => rfl) (fun f cdv A outer s H vs Q E hr h => ?_)
  obtain ⟨v, o, rfl, ho, k⟩ := h
  refine ⟨_, pss_one (ps_ret (pe_and (pe_call GL hr (by rfl) mL kL bL .nil pass0 (pa_cons (pv 0) pa_nil)) (pe_one (pe_cmpR op_ge (pv 0) pe_int (nomark _))))), ?_⟩
  cases o with
  | int i =>
    obtain rfl : v = .int i := ho
    exact s_ret (ev_is (ev_andV (a := true) (ev_call (ea_cons (ev_var rfl) ea_nil) (spv_B (o := .int i) rfl)) fun _ => ev_op (ev_var rfl) ev_c rv_I0) rfl) k
  | _ => exact s_ret (ev_is (ev_andV (a := false) (b := false) (ev_call (ea_cons (ev_var rfl) ea_nil) (spv_B ho)) fun z => nomatch z) rfl) k
theorem sc_list : FnScope ["thing"] ["thing"] (defScope s_is_list) := ⟨rfl, rfl, rfl, by decide +kernel, rfl, by decide +kernel, by decide +kernel⟩
theorem ok_is_list (T : T23 P w K mg base) : Ok P w K mg base CX0 "is_list" ["thing"] 1 (spB fun o => o.isLst || o.isTup) := by
  refine T.ok 2 rfl sc_list (fun vs H Q E h => spB_len h) (fun kV doc pm an cdv ct us hl => match us, hl with | [_], _ => rfl) (fun f cdv A outer s H vs Q E hr h => ?_)
  obtain ⟨v, o, rfl, ho, k⟩ := h
  refine ⟨_, pss_one (ps_ret (pe_isiLT T.isi T.list T.tuple (pv 0))), ?_⟩
  exact s_ret (ev_isSeq (ev_var rfl) ho) k
def spS (f : Str → Bool) : Sp := fun vs H Q _ => ∃ s, vs = [.str s] ∧ s ∈ SS ∧ RetV (.bl (f s)) H Q
theorem spS_len {f : Str → Bool} {vs : List V} {H : Hp} {Q : VK} {E : XK} (h : spS f vs H Q E) : vs.length = 1 := by
  obtain ⟨v, rfl, _⟩ := h
  rfl
theorem spv_S {f : Str → Bool} {s : Str} {H : Hp} (h : s ∈ SS) : SpV (spS f) ([.str s] ++ []) H (.bl (f s)) := fun H1 e Q q E => ⟨s, rfl, h, q⟩
theorem sc_spelled : FnScope ["thing"] ["thing"] (defScope s_is_spelled) := ⟨rfl, rfl, rfl, by decide +kernel, rfl, by decide +kernel, by decide +kernel⟩
theorem ok_is_spelled (T : T23 P w K mg base) : Ok P w K mg base CX0 "is_spelled" ["thing"] 1 (spS spelledB) := by
  obtain ⟨tl, mLo⟩ := T.longest
  refine T.ok 3 rfl sc_spelled (fun vs H Q E h => spS_len h) (fun kV doc pm an cdv ct us hl => match us, hl with | [_], _ => rfl) (fun f cdv A outer s H vs Q E hr h => ?_)
  obtain ⟨x, rfl, hx, k⟩ := h
  have hl := ss_len hx
  refine ⟨_, pss_one (ps_ret (pe_and (pe_isiB T.isi T.str PyProof.Rows.boot_str (pv 0)) (pe_and (pe_cmpR op_le (pe_callB call_len (by rfl) T.len PySem.boot_len (pa_cons (pv 0) pa_nil)) (pe_glob (v := .int 8) rfl mLo ⟨_, rfl⟩) (nomark _))
    (pe_and (pe_m0 PySem.F.slot_str_isalnum PySem.F.type_str_isalnum mt_isalnum (pv 0)) (pe_one (pe_m0 PySem.F.slot_str_isascii PySem.F.type_str_isascii mt_isascii (pv 0))))))), ?_⟩
  refine s_ret (ev_is (ev_andV (a := true) (ev_isStr (o := .str x) (ev_var rfl) rfl) fun _ => ev_andV (ev_op (ev_lenS (ev_var rfl) (by omega)) ev_c rv_I0) fun _ => ev_andV (ev_m0 (g := Txt.isalnum) (ev_var rfl)) fun _ => ev_m0 (g := Txt.isascii) (ev_var rfl)) ?_) k
  show V.bl (true && (decide (((x.length : Nat) : Int) ≤ 8) && (Txt.isalnum x && Txt.isascii x))) = V.bl (spelledB x)
  have e : decide (((x.length : Nat) : Int) ≤ 8) = decide (x.length ≤ 8) := by
    by_cases q : x.length ≤ 8
    · rw [decide_eq_true q, decide_eq_true (by omega)]
    · rw [decide_eq_false q, decide_eq_false (by omega)]
  rw [e, Bool.true_and]
  rfl
theorem spelled_alnum {s : Str} (h : spelledB s = true) : Txt.isalnum s = true := by
  unfold spelledB at h
  exact (Bool.and_eq_true_iff.mp (Bool.and_eq_true_iff.mp h).2).1
theorem firstIn_of {s z : Str} {c : Nat} {cs : List Nat} (h : s.cps.toList = c :: cs) : firstIn s z = decide (c ∈ z.cps.toList) := by
  unfold firstIn
  rw [h]
theorem at0 {s : Str} {c : Nat} {cs : List Nat} (h : s.cps.toList = c :: cs) : atI s.cps.toList 0 = some c := by
  rw [h]
  exact atI_nat (j := 0) rfl
theorem sc_name : FnScope ["thing"] ["thing"] (defScope s_is_name) := ⟨rfl, rfl, rfl, by decide +kernel, rfl, by decide +kernel, by decide +kernel⟩
theorem ok_is_name (T : T23 P w K mg base) : Ok P w K mg base CX0 "is_name" ["thing"] 2 (spS nameB) := by
  obtain ⟨tl, mLe⟩ := T.letters
  obtain ⟨es, nn, D⟩ := T.kd
  obtain ⟨fS, dS, GS, bS, kS, mS⟩ := (ok_is_spelled T).ex
  refine T.ok 4 rfl sc_name (fun vs H Q E h => spS_len h) (fun kV doc pm an cdv ct us hl => match us, hl with | [_], _ => rfl) (fun f cdv A outer s H vs Q E hr h => ?_)
  obtain ⟨x, rfl, hx, k⟩ := h
  have hl := ss_len hx
  refine ⟨_, pss_one (ps_ret (pe_and (pe_call GS hr (by rfl) mS kS bS .nil pass0 (pa_cons (pv 0) pa_nil)) (pe_and (pe_m0 PySem.F.slot_str_islower PySem.F.type_str_islower mt_islower (pv 0))
    (pe_and (pe_cmpR op_in_sign (pe_ix ix_str (pv 0) pe_int (fun _ _ => rfl)) (pe_glob (v := .str "abcdefghijklmnopqrstuvwxyz") rfl mLe ⟨_, rfl⟩) (by rfl))
    (pe_one (pe_cmpR (op_notIn_kd D) (pv 0) (pe_glob (v := .ref (He.ga K "KEPT")) rfl T.kept rfl) (by rfl))))))), ?_⟩
  cases hs : spelledB x with
  | false =>
    refine s_ret (ev_is (ev_andV (a := false) (b := false) (ev_is (ev_call (ea_cons (ev_var rfl) ea_nil) (spv_S hx)) (by rw [hs])) fun z => nomatch z) ?_) k
    unfold nameB reachB
    rw [hs]
    rfl
  | true =>
    obtain ⟨c, cs, hc⟩ := ss_first hx (spelled_alnum hs)
    cases hw : Txt.islower x && firstIn x "abcdefghijklmnopqrstuvwxyz" with
    | false =>
      refine s_ret (ev_is (ev_andV (a := true) (b := false) (ev_is (ev_call (ea_cons (ev_var rfl) ea_nil) (spv_S hx)) (by rw [hs])) fun _ => ev_is (ev_andV (a := Txt.islower x) (b := firstIn x "abcdefghijklmnopqrstuvwxyz" && false) (ev_m0 (g := Txt.islower) (ev_var rfl)) fun hlo =>
        ev_andV (b := false) (ev_is (ev_op (ev_op (ev_var rfl) ev_c (rv_ixS (by omega) (at0 hc))) ev_c rv_insign) (by rw [firstIn_of hc])) fun hf => by rw [hlo, hf] at hw; cases hw) (by rw [Bool.and_false, Bool.and_false])) ?_) k
      unfold nameB reachB
      rw [hs, hw]
      rfl
    | true =>
      obtain ⟨h1, h2⟩ := Bool.and_eq_true_iff.mp hw
      have hreach : reachB x = true := by
        unfold reachB
        rw [hs, hw]
        rfl
      refine s_ret (ev_is (ev_andV (a := true) (b := !(x == "not")) (ev_is (ev_call (ea_cons (ev_var rfl) ea_nil) (spv_S hx)) (by rw [hs])) fun _ => ev_is (ev_andV (a := true) (b := !(x == "not")) (ev_is (ev_m0 (g := Txt.islower) (ev_var rfl)) (by rw [h1])) fun _ =>
        ev_is (ev_andV (a := true) (b := !(x == "not")) (ev_is (ev_op (ev_op (ev_var rfl) ev_c (rv_ixS (by omega) (at0 hc))) ev_c rv_insign) (by rw [← firstIn_of hc, h2])) fun _ => ?_) (by rw [Bool.true_and])) (by rw [Bool.true_and])) ?_) k
      · rcases ss_name hx hreach with z | z
        · have hne : (x == "not") = false := by
            rw [beq_eq_false_iff_ne]
            intro q
            rw [q] at z
            exact not_hds z
          rw [hne]
          exact ev_op (ev_var rfl) ev_c (rv_notInKd (T.kn x z))
        · subst z
          obtain ⟨v, hv⟩ := T.knot
          exact ev_op (ev_var rfl) ev_c fun H1 _ _ q => ⟨"not", some v, rfl, rfl, hv, q H1 (Ex.refl H1)⟩
      · unfold nameB
        rw [hreach]
end
end K23

set_option Elab.async false
set_option linter.all false
set_option maxRecDepth 100000
set_option maxHeartbeats 4000000
/-! Variables; what has lists. -/
namespace K23
open PySem PySem.Spec PyProof.Rows L2 Evl
section
variable {P : Program} {w : World} {K : PySem.W.Frag} {mg : Str → Option Value} {base : Heap}
theorem ev_slS {σ : L2.St} {H : Hp} {te : TE} {x : Str} (h : Ev te σ H (.str x)) (hl : x.length ≤ 1000) : Ev (tSl rSlS te (tPart (tC (.int 1))) tNoPart) σ H (.str (cutS x (some 1) none)) := fun H1 e Q q =>
  h H1 e _ fun H2 e2 => ⟨1, rfl, x, rfl, sz_of (by omega), q H2 e2⟩
theorem sc_var : FnScope ["thing"] ["thing"] (defScope s_is_variable) := ⟨rfl, rfl, rfl, by decide +kernel, rfl, by decide +kernel, by decide +kernel⟩
theorem ok_is_variable (T : T23 P w K mg base) : Ok P w K mg base CX0 "is_variable" ["thing"] 2 (spS varB) := by
  obtain ⟨tl, mLe⟩ := T.capitals
  obtain ⟨fS, dS, GS, bS, kS, mS⟩ := (ok_is_spelled T).ex
  refine T.ok 5 rfl sc_var (fun vs H Q E h => spS_len h) (fun kV doc pm an cdv ct us hl => match us, hl with | [_], _ => rfl) (fun f cdv A outer s H vs Q E hr h => ?_)
  obtain ⟨x, rfl, hx, k⟩ := h
  have hl := ss_len hx
  refine ⟨_, pss_one (ps_ret (pe_and (pe_call GS hr (by rfl) mS kS bS .nil pass0 (pa_cons (pv 0) pa_nil))
    (pe_and (pe_cmpR op_in_sign (pe_ix ix_str (pv 0) pe_int (fun _ _ => rfl)) (pe_glob (v := .str "ABCDEFGHIJKLMNOPQRSTUVWXYZ") rfl mLe ⟨_, rfl⟩) (by rfl))
    (pe_one (pe_or (pe_cmpR op_eq (pe_callB call_len (by rfl) T.len PySem.boot_len (pa_cons (pv 0) pa_nil)) pe_int (nomark _))
      (pe_one (pe_m0 PySem.F.slot_str_isdigit PySem.F.type_str_isdigit mt_isdigit (pe_slice sl_str (pv 0) (po_some pe_int) po_none)))))))), ?_⟩
  cases hs : spelledB x with
  | false =>
    refine s_ret (ev_is (ev_andV (a := false) (b := false) (ev_is (ev_call (ea_cons (ev_var rfl) ea_nil) (spv_S hx)) (by rw [hs])) fun z => nomatch z) ?_) k
    unfold varB
    rw [hs]
    rfl
  | true =>
    obtain ⟨c, cs, hc⟩ := ss_first hx (spelled_alnum hs)
    refine s_ret (ev_is (ev_andV (a := true) (ev_is (ev_call (ea_cons (ev_var rfl) ea_nil) (spv_S hx)) (by rw [hs])) fun _ => ev_andV (ev_op (ev_op (ev_var rfl) ev_c (rv_ixS (by omega) (at0 hc))) ev_c rv_insign) fun _ =>
      ev_orV (ev_op (ev_lenS (ev_var rfl) (by omega)) ev_c (rv_eq rfl)) fun _ => ev_m0 (g := Txt.isdigit) (ev_slS (ev_var rfl) (by omega))) ?_) k
    unfold varB
    rw [hs, firstIn_of hc]
    have e : decide (V.int ((x.length : Nat) : Int) = V.int 1) = decide (x.length = 1) := by
      by_cases q : x.length = 1
      · rw [decide_eq_true q, decide_eq_true (by rw [q]; rfl)]
      · rw [decide_eq_false q, decide_eq_false (fun z => q (by have := V.int.inj z; omega))]
    rw [e]
/-! ### has_lists -/
theorem hasLs_app : ∀ (xs ys : List O), O.hasLs (xs ++ ys) = (O.hasLs xs || O.hasLs ys)
  | [], ys => by simp [O.hasLs]
  | x :: xs, ys => by
    show (x.hasL || O.hasLs (xs ++ ys)) = (x.hasL || O.hasLs xs || O.hasLs ys)
    rw [hasLs_app xs ys, Bool.or_assoc]
def spHL : Sp := fun vs H Q _ => ∃ v o, vs = [v] ∧ OV H v o ∧ o.sz ≤ 1000 ∧ RetV (.bl o.hasL) H Q
theorem sc_hl : FnScope ["thing", "work", "part"] ["thing"] (defScope s_has_lists) := ⟨rfl, rfl, rfl, by decide +kernel, rfl, by decide +kernel, by decide +kernel⟩
theorem ok_has_lists (T : T23 P w K mg base) : Ok P w K mg base CX0 "has_lists" ["thing"] 1 spHL := by
  refine T.ok 6 rfl sc_hl (fun vs H Q E h => ?_) (fun kV doc pm an cdv ct us hl => match us, hl with | [_], _ => rfl) (fun f cdv A outer s H vs Q E hr h => ?_)
  · obtain ⟨v, z, rfl, _⟩ := h
    rfl
  · obtain ⟨v, z, rfl, hw, hz, k⟩ := h
    refine ⟨_, pss_cons (ps_set (i := 1) sc_hl.nd rfl (Or.inl rfl) (pe_lst (pa_cons (pv 0) pa_nil)))
      (pss_cons (ps_while PassesOwn.never (pt_truth (pv 1) (by intro _; rfl))
        (pss_cons (ps_set (i := 2) sc_hl.nd rfl (Or.inl rfl) (pe_bm0 PySem.F.plainAttrs_list PySem.F.slot_list_pop PySem.F.type_list_pop mt_pop (pv 1)))
        (pss_cons (ps_if (pt_val (pe_isiB T.isi T.list PyProof.Rows.boot_list (pv 2))) (pss_one (ps_ret pe_bl)) pss_nil)
        (pss_one (ps_if (pt_val (pe_isiB T.isi T.tuple PyProof.Rows.boot_tuple (pv 2))) (pss_one (ps_expr (pe_bm PySem.F.plainAttrs_list PySem.F.slot_list_extend PySem.F.type_list_extend mt_extT (pv 1) (pa_cons (pv 2) pa_nil)))) pss_nil)))))
      (pss_one (ps_ret pe_bl))), ?_⟩
    refine q_asgL (el_lst (ea_cons (ev_var rfl) ea_nil) (by show 1 ≤ 100000; decide)) fun p H1 hp e1 h1 => ?_
    refine q_while (fun m σ' H' => ∃ (xs : List V) (ts : List O) (o : Option V), σ' = [some v, some (.ref p), o] ∧ Ex H H' ∧ H' p = some (.lst xs) ∧ OVs H xs ts ∧ m = O.szs ts ∧ m ≤ 1000 ∧ O.hasLs ts = z.hasL) z.sz
      ⟨[v], [z], none, rfl, e1, h1, .cons hw .nil, by simp [O.szs], hz, by simp [O.hasLs]⟩ ?_
    rintro m σ' H' ⟨xs, ts, o, rfl, e2, h2, tv, hm, hm2, hres⟩
    refine ⟨!xs.isEmpty, et_truL (ev_var rfl) (SqL.of h2), fun hb H3 e3 => ?_, fun hb H3 e3 => ?_⟩
    · rcases List.eq_nil_or_concat ts with ht | ⟨ts', t, ht⟩
      · subst ht
        rw [show xs = [] from tv] at hb
        exact absurd hb (by decide)
      rw [List.concat_eq_append] at ht
      subst ht
      obtain ⟨us, x, rfl, tv1, tvx⟩ := OVs.snoc tv
      have hp' : H p = none := hp
      have hsum := O.szs_app ts' [t]
      have hs1 : O.szs [t] = t.sz := by simp [O.szs]
      have hlen := O.len_szs ts'
      have hle := tv1.length
      rw [hasLs_app, show O.hasLs [t] = t.hasL by simp [O.hasLs]] at hres
      refine ⟨fun σ2 H2 => ∃ m', m' < m ∧ ∃ (xs : List V) (ts : List O) (o : Option V), σ2 = [some v, some (.ref p), o] ∧ Ex H H2 ∧ H2 p = some (.lst xs) ∧ OVs H xs ts ∧ m' = O.szs ts ∧ m' ≤ 1000 ∧ O.hasLs ts = z.hasL, fun σ2 H2 z => z, ?_⟩
      refine q_pop (e3 _ _ h2) (ev_var rfl) fun H4 e4 => ?_
      have e5 : Ex H (upd H4 p (.lst us)) := Ex.mut ((e2.trans e3).trans e4) hp'
      have tvx5 := tvx.ext e5
      have tp := t.sz_pos
      refine q_when (b := t.isLst) (et_B (ev_isLst (ev_var rfl) tvx5)) (fun hL H5 e6 => ?_) fun hL H5 e6 => ?_
      · cases t with
        | lst ys =>
          refine s_ret (ev_is ev_c ?_) fun H6 e7 => k H6 ((e5.trans e6).trans e7)
          rw [← hres, show (O.lst ys).hasL = true from rfl, Bool.or_true]
        | _ => cases hL
      · refine s_when (b := t.isTup) (et_B (ev_isTup (ev_var rfl) (tvx5.ext e6))) (fun hT H6 e7 => ?_) fun hT H6 e7 => ?_
        · cases t with
          | tup ys =>
            obtain ⟨r, as, rfl, hr', ha⟩ := tvx
            have e8 := e6.trans e7
            have hal := ha.length
            have hly := O.len_szs ys
            have hty : (O.tup ys).sz = O.szs ys + 1 := rfl
            refine s_extT (e8 _ _ upd_same) (ev_var rfl) (ev_var rfl) (st_of ((e5.trans e8) _ _ hr')) (by omega) fun H7 e9 => ?_
            exact ⟨O.szs (ts' ++ ys), by rw [O.szs_app]; omega, us ++ as, ts' ++ ys, _, rfl, Ex.mut ((e5.trans e8).trans e9) hp', upd_same, tv1.append ha, rfl, by rw [O.szs_app]; omega, by rw [hasLs_app]; exact hres⟩
          | _ => cases hT
        · have hno : t.hasL = false := by cases t with
            | lst ys => cases hL
            | tup ys => cases hT
            | _ => rfl
          rw [hno, Bool.or_false] at hres
          exact ⟨O.szs ts', by omega, us, ts', _, rfl, (e5.trans e6).trans e7, e7 _ _ (e6 _ _ upd_same), tv1, rfl, by omega, hres⟩
    · have hx : xs = [] := by
        cases xs with
        | nil => rfl
        | cons _ _ => cases hb
      have ht : ts = [] := by
        have := tv.length
        rw [hx] at this
        exact List.length_eq_zero_iff.mp this.symm
      rw [ht] at hres
      refine s_ret (ev_is ev_c ?_) fun H4 e4 => k H4 ((e2.trans e3).trans e4)
      rw [← hres]
      rfl
end
end K23

set_option Elab.async false
set_option linter.all false
set_option maxRecDepth 100000
set_option maxHeartbeats 4000000
/-! frozen: lists made tuples. -/
namespace K23
open PySem PySem.Spec PyProof.Rows L2 Evl
mutual
def O.nod : O → Bool
  | .non => true | .bl _ => true | .int _ => true | .str _ => true | .dct => false | .lst xs => O.nods xs | .tup xs => O.nods xs
def O.nods : List O → Bool
  | [] => true
  | x :: xs => x.nod && O.nods xs
end
section
variable {H G : Hp}
mutual
theorem OV.tx (e : Tx H G) : ∀ {o : O} {v : V}, o.hasL = false → o.nod = true → OV H v o → OV G v o
  | .non, _, _, _, h => h
  | .bl _, _, _, _, h => h
  | .int _, _, _, _, h => h
  | .str _, _, _, _, h => h
  | .dct, _, _, h, _ => nomatch h
  | .lst _, _, h, _, _ => nomatch h
  | .tup _, _, h1, h2, ⟨a, vs, e1, e2, e3⟩ => ⟨a, vs, e1, e _ _ e2, OVs.tx e h1 h2 e3⟩
theorem OVs.tx (e : Tx H G) : ∀ {os : List O} {vs : List V}, O.hasLs os = false → O.nods os = true → OVs H vs os → OVs G vs os
  | [], _, _, _, h => h
  | _ :: _, _, h1, h2, ⟨v, us, e1, e2, e3⟩ => by
    obtain ⟨a, b⟩ := Bool.or_eq_false_iff.mp h1
    obtain ⟨c, d⟩ := Bool.and_eq_true_iff.mp h2
    exact ⟨v, us, e1, OV.tx e a c e2, OVs.tx e b d e3⟩
end
end
mutual
theorem strip_id : ∀ {o : O}, o.hasL = false → o.strip = o
  | .non, _ => rfl | .bl _, _ => rfl | .int _, _ => rfl | .str _, _ => rfl | .dct, _ => rfl
  | .lst _, h => nomatch h
  | .tup xs, h => congrArg O.tup (strips_id (os := xs) h)
theorem strips_id : ∀ {os : List O}, O.hasLs os = false → O.strips os = os
  | [], _ => rfl
  | x :: xs, h => by
    obtain ⟨a, b⟩ := Bool.or_eq_false_iff.mp h
    show x.strip :: O.strips xs = x :: xs
    rw [strip_id a, strips_id b]
end
mutual
theorem strip_noL : ∀ o : O, o.strip.hasL = false
  | .non => rfl | .bl _ => rfl | .int _ => rfl | .str _ => rfl | .dct => rfl
  | .lst xs => strips_noL xs
  | .tup xs => strips_noL xs
theorem strips_noL : ∀ os : List O, O.hasLs (O.strips os) = false
  | [] => rfl
  | x :: xs => by
    show (x.strip.hasL || O.hasLs (O.strips xs)) = false
    rw [strip_noL x, strips_noL xs]
    rfl
end
mutual
theorem strip_nod : ∀ o : O, o.strip.nod = o.nod
  | .non => rfl | .bl _ => rfl | .int _ => rfl | .str _ => rfl | .dct => rfl
  | .lst xs => strips_nod xs
  | .tup xs => strips_nod xs
theorem strips_nod : ∀ os : List O, O.nods (O.strips os) = O.nods os
  | [] => rfl
  | x :: xs => by
    show (x.strip.nod && O.nods (O.strips xs)) = (x.nod && O.nods xs)
    rw [strip_nod x, strips_nod xs]
end
theorem strips_eq : ∀ os : List O, O.strips os = os.map O.strip
  | [] => rfl
  | x :: xs => by
    show x.strip :: O.strips xs = _
    rw [strips_eq xs]
    rfl
theorem seq_strip (b : Bool) (ws : List O) : (O.seq b ws).strip = .tup (O.strips ws) := by cases b <;> rfl
theorem seq_nod (b : Bool) (ws : List O) : (O.seq b ws).nod = O.nods ws := by cases b <;> rfl
theorem nods_get : ∀ {os : List O} {i : Nat} {o : O}, O.nods os = true → os[i]? = some o → o.nod = true
  | [], _, _, _, h => by simp at h
  | x :: xs, 0, o, h, e => by
    obtain rfl : x = o := by simpa using e
    exact (Bool.and_eq_true_iff.mp h).1
  | _ :: xs, i + 1, o, h, e => nods_get (i := i) (Bool.and_eq_true_iff.mp h).2 (by simpa using e)
theorem nods_take : ∀ {os : List O} (n : Nat), O.nods os = true → O.nods (os.take n) = true
  | [], n, h => by simp [O.nods]
  | _ :: _, 0, _ => rfl
  | x :: xs, n + 1, h => by
    obtain ⟨a, b⟩ := Bool.and_eq_true_iff.mp h
    show (x.nod && O.nods (xs.take n)) = true
    rw [a, nods_take n b]
    rfl
theorem szs_drop : ∀ {os : List O} {n : Nat} {o : O}, os[n]? = some o → O.szs (os.drop n) = o.sz + O.szs (os.drop (n + 1))
  | [], _, _, e => by simp at e
  | x :: xs, 0, o, e => by
    obtain rfl : x = o := by simpa using e
    rfl
  | _ :: xs, n + 1, o, e => szs_drop (os := xs) (n := n) (by simpa using e)
theorem take_snoc {α : Type} {xs : List α} {n : Nat} {x : α} (h : xs[n]? = some x) : xs.take (n + 1) = xs.take n ++ [x] := by
  rw [List.take_succ, h]
  rfl
theorem hasL_seq {o : O} (h : o.hasL = true) : ∃ b ws, o = O.seq b ws := by
  cases o with
  | lst ws => exact ⟨true, ws, rfl⟩
  | tup ws => exact ⟨false, ws, rfl⟩
  | _ => cases h
/-- one thing that is begun: what it is, the tuple that holds it and its list, what is done -/
structure Fr where
  wv : V
  b : Bool
  ws : List O
  t : Addr
  d : Addr
  dv : List V
  n : Nat
/-- what holds of one: H0 at the def's begin -/
structure FrOk (H0 H : Hp) (f : Fr) : Prop where
  wh : OV H0 f.wv (O.seq f.b f.ws)
  tp : H f.t = some (.tup [f.wv, .ref f.d])
  dn : H f.d = some (.lst f.dv)
  new : H0 f.d = none
  ov : OVs H f.dv (O.strips (f.ws.take f.n))
  le : f.n ≤ f.ws.length
  nod : O.nods f.ws = true
  sz : O.szs f.ws ≤ 1000
theorem FrOk.len {H0 H : Hp} {f : Fr} (h : FrOk H0 H f) : f.dv.length = f.n := by
  rw [h.ov.length, strips_eq, List.length_map, List.length_take]
  exact Nat.min_eq_left h.le
/-- it stays if its list stays, and all tuples -/
theorem FrOk.keep {H0 H G : Hp} {f : Fr} (h : FrOk H0 H f) (t : Tx H G) (d : G f.d = H f.d) : FrOk H0 G f :=
  ⟨h.wh, t _ _ h.tp, d.trans h.dn, h.new, h.ov.tx t (strips_noL _) (by rw [strips_nod]; exact nods_take _ h.nod), h.le, h.nod, h.sz⟩
/-- from the top: each is the next thing of the one below -/
def Chain : List Fr → O → Prop
  | [], _ => False
  | [f], o => o = O.seq f.b f.ws
  | f :: g :: r, o => g.ws[g.n]? = some (O.seq f.b f.ws) ∧ Chain (g :: r) o
def lowM : List Fr → Nat
  | [] => 0
  | f :: r => 3 * O.szs (f.ws.drop (f.n + 1)) + 1 + lowM r
def topM : List Fr → Nat
  | [] => 0
  | f :: r => 3 * O.szs (f.ws.drop f.n) + 1 + lowM r
section
variable {K : PySem.W.Frag} {σ : L2.St} {H G : Hp} {te ta tb : TE} {v : V} {D : Ends} {tz : TS}
abbrev rTupOf (K : PySem.W.Frag) : List V → Hp → VK → Prop := fun xs H Q => ∃ p ys, xs = [.ref p] ∧ ((SqL K H p ys ∧ ∀ l, H l = none → Q (.ref l) (upd H l (.tup ys))) ∨ (SqT K H p ys ∧ Q (.ref p) H))
/-- tuple(xs), xs a list -/
theorem eu_tupL {p : Addr} {xs : List V} (h : Ev te σ H (.ref p)) (hs : SqL K H p xs) : EvU (tCB (rTupOf K) (tCons te tNil)) σ H xs := fun H1 e Q q =>
  h H1 e _ fun H2 e2 => ⟨p, xs, rfl, .inl ⟨ex_l (e.trans e2) hs, fun l hl => q l _ (fresh_back e2 hl) (e2.trans (Ex.new hl)) upd_same⟩⟩
/-- (e, []) -/
def EvPN (te : TE) (σ : L2.St) (H : Hp) (v : V) : Prop := ∀ H1, Ex H H1 → ∀ Q : VK, (∀ t d H2, H1 t = none → H1 d = none → t ≠ d → Ex H1 H2 → H2 t = some (.tup [v, .ref d]) → H2 d = some (.lst []) → Q (.ref t) H2) → te σ H1 Q
theorem epn {te : TE} (h : Ev te σ H v) : EvPN (tTup (tCons te (tCons (tLst tNil) tNil))) σ H v := fun H1 e Q q =>
  h H1 e _ fun H2 e2 => ⟨Nat.zero_le _, fun d hd => ⟨by show 2 ≤ sizeLine; decide, fun t ht => by
    have e3 : Ex H2 (upd H2 d (.lst [])) := Ex.new hd
    have td : t ≠ d := fun z => by
      rw [z, upd_same] at ht
      cases ht
    exact q t d _ (fresh_back (e2.trans e3) ht) (fresh_back e2 hd) td ((e2.trans e3).trans (Ex.new ht)) upd_same (by rw [upd_ne td.symm, upd_same])⟩⟩
theorem ev_top {B : Addr} {xs : List V} {y : V} {i : Nat} (hs : σ[i]? = some (some (.ref B))) (hB : H B = some (.lst (xs ++ [y]))) : Ev (tOp (rIxL K) (tVar i) (tUn (rU fun i => .int (-i)) (tC (.int 1)))) σ H y :=
  ev_op (ev_var hs) (ev_un ev_c ru_neg) (rv_ixL (sq_of hB) (atI_last xs y))
end
section
variable {P : Program} {w : World} {K : PySem.W.Frag} {mg : Str → Option Value} {base : Heap}
def spFz : Sp := fun vs H Q _ => ∃ v o, vs = [v] ∧ OV H v o ∧ o.sz ≤ 1000 ∧ o.nod = true ∧ ∀ (u : V) (G : Hp), Ex H G → OV G u o.strip → Q u G
theorem sc_fz : FnScope ["thing", "begun", "whole", "done"] ["thing"] (defScope s_frozen) := ⟨rfl, rfl, rfl, by decide +kernel, rfl, by decide +kernel, by decide +kernel⟩
theorem spv_hl {v : V} {o : O} {H : Hp} (h : OV H v o) (hz : o.sz ≤ 1000) : SpV spHL ([v] ++ []) H (.bl o.hasL) := fun H1 e Q q E => ⟨v, o, rfl, h.ext e, hz, q⟩
def refs (fs : List Fr) : List V := fs.reverse.map fun f => V.ref f.t
theorem refs_cons (f : Fr) (fs : List Fr) : refs (f :: fs) = refs fs ++ [V.ref f.t] := by
  unfold refs
  rw [List.reverse_cons, List.map_append]
  rfl
structure Inv5 (H0 H : Hp) (B : Addr) (o : O) (fs : List Fr) : Prop where
  ex : Ex H0 H
  nB : H0 B = none
  hB : H B = some (.lst (refs fs))
  ok : ∀ f ∈ fs, FrOk H0 H f
  ds : (B :: fs.map (·.d)).Nodup
  ch : Chain fs o
  len : fs.length + topM fs ≤ 10000
end
end K23

set_option Elab.async false
set_option linter.all false
set_option maxRecDepth 100000
set_option maxHeartbeats 4000000
/-! frozen, its loop. -/
namespace K23
open PySem PySem.Spec PyProof.Rows L2 Evl
section
variable {H0 H G : Hp} {B : Addr} {o : O} {f g : Fr} {r : List Fr}
theorem Inv5.ext (I : Inv5 H0 H B o r) (e : Ex H G) : Inv5 H0 G B o r :=
  ⟨I.ex.trans e, I.nB, e _ _ I.hB, fun f hf => (I.ok f hf).keep (Tx.of e) (by rw [(I.ok f hf).dn]; exact e _ _ (I.ok f hf).dn), I.ds, I.ch, I.len⟩
theorem Inv5.dB (I : Inv5 H0 H B o r) {f : Fr} (h : f ∈ r) : f.d ≠ B := fun z => (List.nodup_cons.mp I.ds).1 (by rw [← z]; exact List.mem_map.mpr ⟨f, h, rfl⟩)
theorem Inv5.dd (I : Inv5 H0 H B o (f :: r)) {g : Fr} (h : g ∈ r) : g.d ≠ f.d := fun z => by
  have q := (List.nodup_cons.mp (List.nodup_cons.mp I.ds).2).1
  exact q (List.mem_map.mpr ⟨g, h, z⟩)
theorem low_le : ∀ (fs : List Fr), lowM fs ≤ topM fs
  | [] => Nat.le_refl _
  | f :: r => by
    have : O.szs (f.ws.drop (f.n + 1)) ≤ O.szs (f.ws.drop f.n) := by
      cases e : f.ws[f.n]? with
      | none =>
        have h1 : f.ws.length ≤ f.n := List.getElem?_eq_none_iff.mp e
        rw [List.drop_eq_nil_of_le h1, List.drop_eq_nil_of_le (by omega)]
        exact Nat.le_refl _
      | some x => rw [szs_drop e]; omega
    show 3 * O.szs (f.ws.drop (f.n + 1)) + 1 + lowM r ≤ 3 * O.szs (f.ws.drop f.n) + 1 + lowM r
    omega
/-- one thing more is done -/
theorem Inv5.done (I : Inv5 H0 H B o (f :: r)) {x : O} {y : V} (hx : f.ws[f.n]? = some x) (hy : OV H y x.strip) :
    Inv5 H0 (upd H f.d (.lst (f.dv ++ [y]))) B o ({ f with dv := f.dv ++ [y], n := f.n + 1 } :: r) ∧ topM ({ f with dv := f.dv ++ [y], n := f.n + 1 } :: r) < topM (f :: r) := by
  have F := I.ok f (List.mem_cons_self ..)
  have t : Tx H (upd H f.d (.lst (f.dv ++ [y]))) := Tx.lst F.dn
  have hn : f.n < f.ws.length := (List.getElem?_eq_some_iff.mp hx).1
  have hs := szs_drop hx
  have hp := x.sz_pos
  have hm : topM ({ f with dv := f.dv ++ [y], n := f.n + 1 } :: r) + 3 * x.sz = topM (f :: r) := by
    show 3 * O.szs (f.ws.drop (f.n + 1)) + 1 + lowM r + 3 * x.sz = 3 * O.szs (f.ws.drop f.n) + 1 + lowM r
    rw [hs]
    omega
  refine ⟨⟨Ex.mut I.ex F.new, I.nB, ?_, ?_, I.ds, ?_, ?_⟩, by omega⟩
  · rw [upd_ne (I.dB (List.mem_cons_self ..)).symm, refs_cons]
    exact I.hB.trans (by rw [refs_cons])
  · intro g hg
    rcases List.mem_cons.mp hg with rfl | hg
    · refine ⟨F.wh, t _ _ F.tp, upd_same, F.new, ?_, hn, F.nod, F.sz⟩
      show OVs _ (f.dv ++ [y]) (O.strips (f.ws.take (f.n + 1)))
      rw [take_snoc hx, strips_eq, List.map_append, ← strips_eq]
      refine OVs.append (F.ov.tx t (strips_noL _) (by rw [strips_nod]; exact nods_take _ F.nod)) (.cons (hy.tx t (strip_noL _) (by rw [strip_nod]; exact nods_get F.nod hx)) .nil)
    · exact (I.ok g (List.mem_cons_of_mem _ hg)).keep t (upd_ne (I.dd hg))
  · cases r with
    | nil => exact I.ch
    | cons g r => exact I.ch
  · have := I.len
    show r.length + 1 + _ ≤ 10000
    have q : (f :: r).length = r.length + 1 := rfl
    omega
/-- one begins -/
theorem Inv5.push (I : Inv5 H0 H B o (f :: r)) {b : Bool} {ws : List O} {wv : V} {t d : Addr} (hx : f.ws[f.n]? = some (O.seq b ws)) (hw : OV H0 wv (O.seq b ws)) (ht : G t = some (.tup [wv, .ref d])) (hd : G d = some (.lst [])) (nd : H d = none) (e : Ex H G) :
    Inv5 H0 (upd G B (.lst (refs (f :: r) ++ [.ref t]))) B o (⟨wv, b, ws, t, d, [], 0⟩ :: f :: r) ∧ topM (⟨wv, b, ws, t, d, [], 0⟩ :: f :: r) < topM (f :: r) := by
  have F := I.ok f (List.mem_cons_self ..)
  have I1 := I.ext e
  have tB : Tx G (upd G B (.lst (refs (f :: r) ++ [.ref t]))) := Tx.lst I1.hB
  have hs := szs_drop hx
  rw [O.seq_sz] at hs
  have hdB : d ≠ B := fun z => by
    rw [z, I.hB] at nd
    cases nd
  have hm : topM (⟨wv, b, ws, t, d, [], 0⟩ :: f :: r) + 2 = topM (f :: r) := by
    show 3 * O.szs (ws.drop 0) + 1 + (3 * O.szs (f.ws.drop (f.n + 1)) + 1 + lowM r) + 2 = 3 * O.szs (f.ws.drop f.n) + 1 + lowM r
    rw [hs, List.drop_zero]
    omega
  have fresh0 : H0 d = none := fresh_back I.ex nd
  have hwz : O.szs ws + 1 ≤ 1000 := by
    have q : O.szs f.ws = O.szs (f.ws.take f.n) + O.szs (f.ws.drop f.n) := by rw [← O.szs_app, List.take_append_drop]
    have := F.sz
    omega
  refine ⟨⟨Ex.mut I1.ex I.nB, I.nB, ?_, ?_, ?_, ⟨hx, I.ch⟩, ?_⟩, by omega⟩
  · rw [upd_same, refs_cons _ (f :: r)]
  · intro g hg
    rcases List.mem_cons.mp hg with rfl | hg
    · refine ⟨hw, tB _ _ ht, by rw [upd_ne hdB]; exact hd, fresh0, .nil, Nat.zero_le _, ?_, by show O.szs ws ≤ 1000; omega⟩
      have := nods_get F.nod hx
      rw [seq_nod] at this
      exact this
    · exact (I1.ok g hg).keep tB (upd_ne (I.dB hg))
  · refine List.nodup_cons.mpr ⟨fun z => ?_, List.nodup_cons.mpr ⟨fun z => ?_, (List.nodup_cons.mp I.ds).2⟩⟩
    · rcases List.mem_cons.mp z with z | z
      · exact hdB z.symm
      · exact (List.nodup_cons.mp I.ds).1 z
    · obtain ⟨g, hg, e2⟩ := List.mem_map.mp z
      have := (I.ok g hg).dn
      rw [e2, nd] at this
      cases this
  · have := I.len
    show r.length + 1 + 1 + _ ≤ 10000
    have q : (f :: r).length = r.length + 1 := rfl
    omega
/-- the last one is done: it is what the one below waits for -/
theorem Inv5.pop (I : Inv5 H0 H B o (f :: g :: r)) (hn : f.n = f.ws.length) {u : Addr} (e1 : Ex (upd H B (.lst (refs (g :: r)))) G) (hu : G u = some (.tup f.dv)) :
    Inv5 H0 (upd G g.d (.lst (g.dv ++ [.ref u]))) B o ({ g with dv := g.dv ++ [.ref u], n := g.n + 1 } :: r) ∧ topM ({ g with dv := g.dv ++ [.ref u], n := g.n + 1 } :: r) < topM (f :: g :: r) := by
  have F := I.ok f (List.mem_cons_self ..)
  have tB : Tx H (upd H B (.lst (refs (g :: r)))) := Tx.lst I.hB
  have hx : g.ws[g.n]? = some (O.seq f.b f.ws) := I.ch.1
  have hl : lowM (g :: r) ≤ topM (g :: r) := low_le _
  have hm1 : topM (f :: g :: r) = 1 + lowM (g :: r) := by
    show 3 * O.szs (f.ws.drop f.n) + 1 + lowM (g :: r) = _
    rw [hn, List.drop_eq_nil_of_le (Nat.le_refl _)]
    rfl
  have hs := szs_drop hx
  rw [O.seq_sz] at hs
  have hm2 : topM (g :: r) = lowM (g :: r) + 3 * (O.szs f.ws + 1) := by
    show 3 * O.szs (g.ws.drop g.n) + 1 + lowM r = 3 * O.szs (g.ws.drop (g.n + 1)) + 1 + lowM r + _
    rw [hs]
    omega
  have I1 : Inv5 H0 (upd H B (.lst (refs (g :: r)))) B o (g :: r) ∨ True := .inr trivial
  -- below, without the bound
  have Gg := I.ok g (by simp)
  have tG : Tx H G := tB.trans (Tx.of e1)
  have ovU : OV G (.ref u) (O.seq f.b f.ws).strip := by
    rw [seq_strip]
    refine ⟨u, f.dv, rfl, hu, ?_⟩
    have := F.ov
    rw [hn, List.take_of_length_le (Nat.le_refl _)] at this
    exact this.tx tG (strips_noL _) (by rw [strips_nod]; exact F.nod)
  have keepD : ∀ h ∈ g :: r, G h.d = some (.lst h.dv) := fun h hh => e1 _ _ (by rw [upd_ne (I.dB (List.mem_cons_of_mem _ hh))]; exact (I.ok h (List.mem_cons_of_mem _ hh)).dn)
  have t : Tx G (upd G g.d (.lst (g.dv ++ [.ref u]))) := Tx.lst (keepD g (List.mem_cons_self ..))
  have hgn : g.n < g.ws.length := (List.getElem?_eq_some_iff.mp hx).1
  have ds2 : (B :: (g :: r).map (·.d)).Nodup := by
    have h1 := List.nodup_cons.mp I.ds
    exact List.nodup_cons.mpr ⟨fun z => h1.1 (List.mem_cons_of_mem _ z), (List.nodup_cons.mp h1.2).2⟩
  have dgr : ∀ h ∈ r, h.d ≠ g.d := fun h hh z => (List.nodup_cons.mp (List.nodup_cons.mp ds2).2).1 (List.mem_map.mpr ⟨h, hh, z⟩)
  have hm3 : topM ({ g with dv := g.dv ++ [.ref u], n := g.n + 1 } :: r) = lowM (g :: r) := rfl
  refine ⟨⟨Ex.mut ((Ex.mut I.ex I.nB).trans e1) Gg.new, I.nB, ?_, ?_, ds2, ?_, ?_⟩, by omega⟩
  · rw [upd_ne (I.dB (by simp)).symm, refs_cons]
    exact (e1 _ _ upd_same).trans (by rw [refs_cons])
  · intro h hh
    rcases List.mem_cons.mp hh with rfl | hh
    · refine ⟨Gg.wh, t _ _ (tG _ _ Gg.tp), upd_same, Gg.new, ?_, hgn, Gg.nod, Gg.sz⟩
      show OVs _ (g.dv ++ [.ref u]) (O.strips (g.ws.take (g.n + 1)))
      rw [take_snoc hx, strips_eq, List.map_append, ← strips_eq]
      refine OVs.append (Gg.ov.tx (tG.trans t) (strips_noL _) (by rw [strips_nod]; exact nods_take _ Gg.nod)) (.cons (ovU.tx t (strip_noL _) (by rw [strip_nod]; exact nods_get Gg.nod hx)) .nil)
    · have hk := I.ok h (by simp [hh])
      refine hk.keep (tG.trans t) ?_
      rw [upd_ne (dgr h hh), keepD h (List.mem_cons_of_mem _ hh), hk.dn]
  · cases r with
    | nil => exact I.ch.2
    | cons h r => exact I.ch.2
  · have := I.len
    have q : (f :: g :: r).length = r.length + 2 := rfl
    show r.length + 1 + _ ≤ 10000
    omega
end
section
variable {K : PySem.W.Frag} {σ : L2.St} {H G : Hp} {te ta tb : TE} {v : V} {D : Ends} {tz : TS}
/-- xs.pop() -/
theorem q_popD {l : Addr} {xs : List V} {y : V} (hl : H l = some (.lst (xs ++ [y]))) (ha : Ev ta σ H (.ref l)) (k : ∀ H1, Ex H H1 → tz D σ (upd H1 l (.lst xs))) : tSeq (tDrop (tBM0 K "list" rPop ta)) tz D σ H :=
  ha H (Ex.refl H) _ fun H1 e1 => ⟨.inl ⟨rfl, _, sq_of (e1 l _ hl)⟩, l, _, y, rfl, rfl, e1 l _ hl, last_at, by
    rw [List.dropLast_concat]
    exact k H1 e1⟩
/-- xs = [(e, [])] -/
theorem q_asgPN {i : Nat} (h : EvPN te σ H v) (k : ∀ t d B H2, H t = none → H d = none → Ex H H2 → H2 t = some (.tup [v, .ref d]) → H2 d = some (.lst []) → H2 B = none → tz D (σ.set i (some (.ref B))) (upd H2 B (.lst [.ref t]))) :
    tSeq (tAsg (tLst (tCons te tNil)) (gName i)) tz D σ H := h H (Ex.refl H) _ fun t d H2 nt nd td e2 ht hd => ⟨by show 1 ≤ sizeLine; decide, fun B hB => k t d B H2 nt nd e2 ht hd hB⟩
/-- x, y = t -/
theorem q_unp {i j : Nat} {t : Addr} {x y : V} (h : Ev te σ H (.ref t)) (ht : H t = some (.tup [x, y])) (k : ∀ H1, Ex H H1 → tz D ((σ.set i (some x)).set j (some y)) H1) : tSeq (tAsg te (gTup K 2 (gCons (gName i) (gCons (gName j) gNil)))) tz D σ H :=
  h H (Ex.refl H) _ fun H1 e => ⟨t, [x, y], rfl, st_of (e _ _ ht), rfl, _, _, rfl, _, _, rfl, rfl, k H1 e⟩
/-- xs.append((e, [])) -/
theorem s_appPN {l : Addr} {xs : List V} (hl : H l = some (.lst xs)) (ha : Ev ta σ H (.ref l)) (h : EvPN te σ H v) (hz : xs.length < 100000) (k : ∀ t d H1, H t = none → H d = none → t ≠ d → Ex H H1 → H1 t = some (.tup [v, .ref d]) → H1 d = some (.lst []) → D.nx σ (upd H1 l (.lst (xs ++ [.ref t])))) :
    tDrop (tBM K "list" rAppend ta (tCons te tNil)) D σ H := ha H (Ex.refl H) _ fun H1 e1 => ⟨.inl ⟨rfl, _, sq_of (e1 l _ hl)⟩, h H1 e1 _ fun t d H2 nt nd td e2 ht hd =>
  ⟨l, xs, .ref t, rfl, rfl, e2 l _ (e1 l _ hl), sz_lt hz, k t d H2 (fresh_back e1 nt) (fresh_back e1 nd) td (e1.trans e2) ht hd⟩⟩
end
section
variable {P : Program} {w : World} {K : PySem.W.Frag} {mg : Str → Option Value} {base : Heap}
theorem ok_frozen (T : T23 P w K mg base) : Ok P w K mg base CX0 "frozen" ["thing"] 2 spFz := by
  obtain ⟨fH, dH, GH, bH, kH, mH⟩ := (ok_has_lists T).ex
  refine T.ok 7 rfl sc_fz (fun vs H Q E h => ?_) (fun kV doc pm an cdv ct us hl => match us, hl with | [_], _ => rfl) (fun f cdv A outer s H vs Q E hr h => ?_)
  · obtain ⟨v, z, rfl, _⟩ := h
    rfl
  · obtain ⟨v, z, rfl, hw, hz, hnod, k⟩ := h
    refine ⟨_, pss_cons (ps_if (pt_not (pt_val (pe_call GH hr (by rfl) mH kH bH .nil pass0 (pa_cons (pv 0) pa_nil)))) (pss_one (ps_ret (pv 0))) pss_nil)
      (pss_cons (ps_set (i := 1) sc_fz.nd rfl (Or.inl rfl) (pe_lst (pa_cons (pe_tup (pa_cons (pv 0) (pa_cons (pe_lst pa_nil) pa_nil))) pa_nil)))
      (pss_one (ps_while PassesOwn.never (pt_val pe_bl)
        (pss_cons (ps_asg (pe_ix ix_list (pv 1) (pe_un un_neg pe_int) (fun _ _ => rfl)) (pg_tup rfl (pgs_cons (pg_name (i := 2) sc_fz.nd rfl (Or.inl rfl)) (pgs_cons (pg_name (i := 3) sc_fz.nd rfl (Or.inl rfl)) pgs_nil))))
        (pss_one (ps_if (pt_cmpR op_eq (pe_callB call_len (by rfl) T.len PySem.boot_len (pa_cons (pv 3) pa_nil)) (pe_callB call_len (by rfl) T.len PySem.boot_len (pa_cons (pv 2) pa_nil)) (nomark _))
          (pss_cons (ps_expr (pe_bm0 PySem.F.plainAttrs_list PySem.F.slot_list_pop PySem.F.type_list_pop mt_pop (pv 1)))
          (pss_cons (ps_if (pt_not (pt_truth (pv 1) (by intro _; rfl))) (pss_one (ps_ret (pe_callTy call_tuple_of (by rfl) T.tuple PyProof.Rows.boot_tuple (pa_cons (pv 3) pa_nil)))) pss_nil)
          (pss_one (ps_expr (pe_bm PySem.F.plainAttrs_list PySem.F.slot_list_append PySem.F.type_list_append mt_append (pe_ix ix_tup (pe_ix ix_list (pv 1) (pe_un un_neg pe_int) (fun _ _ => rfl)) pe_int (fun _ _ => rfl)) (pa_cons (pe_callTy call_tuple_of (by rfl) T.tuple PyProof.Rows.boot_tuple (pa_cons (pv 3) pa_nil)) pa_nil))))))
          (pss_one (ps_if (pt_val (pe_call GH hr (by rfl) mH kH bH .nil pass0 (pa_cons (pe_ix ix_seq (pv 2) (pe_callB call_len (by rfl) T.len PySem.boot_len (pa_cons (pv 3) pa_nil)) (fun _ _ => rfl)) pa_nil)))
            (pss_one (ps_expr (pe_bm PySem.F.plainAttrs_list PySem.F.slot_list_append PySem.F.type_list_append mt_append (pv 1) (pa_cons (pe_tup (pa_cons (pe_ix ix_seq (pv 2) (pe_callB call_len (by rfl) T.len PySem.boot_len (pa_cons (pv 3) pa_nil)) (fun _ _ => rfl)) (pa_cons (pe_lst pa_nil) pa_nil))) pa_nil))))
            (pss_one (ps_expr (pe_bm PySem.F.plainAttrs_list PySem.F.slot_list_append PySem.F.type_list_append mt_append (pv 3) (pa_cons (pe_ix ix_seq (pv 2) (pe_callB call_len (by rfl) T.len PySem.boot_len (pa_cons (pv 3) pa_nil)) (fun _ _ => rfl)) pa_nil)))))))))))), ?_⟩
    refine q_when (b := !z.hasL) (et_not (et_B (ev_call (ea_cons (ev_var rfl) ea_nil) (spv_hl hw hz)))) (fun hb H1 e1 => ?_) fun hb H1 e1 => ?_
    · have hno : z.hasL = false := by simpa using hb
      refine s_ret (ev_var rfl) fun H2 e2 => k v H2 (e1.trans e2) ?_
      rw [strip_id hno]
      exact hw.ext (e1.trans e2)
    have hyes : z.hasL = true := by simpa using hb
    obtain ⟨b, ws, rfl⟩ := hasL_seq hyes
    have hwsz : O.szs ws + 1 ≤ 1000 := by rw [← O.seq_sz (b := b)]; exact hz
    have hnods : O.nods ws = true := by rw [← seq_nod b]; exact hnod
    refine q_asgPN (epn (ev_var rfl)) fun t d B H2 nt nd e2 ht hd hB => ?_
    have e12 := e1.trans e2
    have hBd : B ≠ d := fun z => by
      rw [z, hd] at hB
      cases hB
    have hBt : B ≠ t := fun z => by
      rw [z, ht] at hB
      cases hB
    refine s_while (fun m σ' H' => ∃ (fs : List Fr) (o1 o2 : Option V), σ' = [some v, some (.ref B), o1, o2] ∧ Inv5 H H' B (O.seq b ws) fs ∧ m = topM fs) (topM [⟨v, b, ws, t, d, [], 0⟩]) ⟨[⟨v, b, ws, t, d, [], 0⟩], none, none, rfl, ?_, rfl⟩ ?_
    · refine ⟨Ex.mut e12 (fresh_back e12 hB), fresh_back e12 hB, upd_same, fun f hf => ?_, ?_, rfl, ?_⟩
      · obtain rfl : f = ⟨v, b, ws, t, d, [], 0⟩ := by simpa using hf
        exact ⟨hw, by rw [upd_ne hBt.symm]; exact ht, by rw [upd_ne hBd.symm]; exact hd, fresh_back e1 nd, .nil, Nat.zero_le _, hnods, by show O.szs ws ≤ 1000; omega⟩
      · simp [hBd]
      · show 1 + (3 * O.szs (ws.drop 0) + 1 + 0) ≤ 10000
        rw [List.drop_zero]
        omega
    rintro m σ' H' ⟨fs, o1, o2, rfl, I, rfl⟩
    match fs, I with
    | [], I => exact I.ch.elim
    | f :: r, I =>
    refine ⟨true, et_B ev_c, fun _ H3 e3 => ⟨fun σ2 H2 => ∃ m', m' < topM (f :: r) ∧ ∃ (fs : List Fr) (o1 o2 : Option V), σ2 = [some v, some (.ref B), o1, o2] ∧ Inv5 H H2 B (O.seq b ws) fs ∧ m' = topM fs, fun _ _ z => z, ?_⟩, fun z => nomatch z⟩
    have I3 := I.ext e3
    have F3 := I3.ok f (List.mem_cons_self ..)
    refine q_unp (ev_top (xs := refs r) (y := .ref f.t) rfl (by rw [I3.hB, refs_cons])) F3.tp fun H4 e4 => ?_
    have I4 := I3.ext e4
    have F := I4.ok f (List.mem_cons_self ..)
    obtain ⟨wa, wvs, ewv, hwa, hov⟩ := F.wh.seq
    have hwl : wvs.length = f.ws.length := hov.length
    have hwa4 : SqB H4 f.b wa wvs := I4.ex _ _ hwa
    have hdl := F.len
    have hlen := I4.len
    rw [ewv]
    refine s_if (b := decide (f.n = f.ws.length)) (et_is (et_test (ev_op (ev_lenL (ev_var rfl) (sq_of F.dn)) (ev_lenQ (ev_var rfl) hwa4) (rv_eq rfl))) ?_) (fun hb H5 e5 => ?_) fun hb H5 e5 => ?_
    · rw [hdl, hwl]
      by_cases q : f.n = f.ws.length
      · rw [decide_eq_true q, decide_eq_true (by rw [q])]
      · rw [decide_eq_false q, decide_eq_false (fun z => q (by have := V.int.inj z; omega))]
    · have hn : f.n = f.ws.length := of_decide_eq_true hb
      have I5 := I4.ext e5
      have F5 := I5.ok f (List.mem_cons_self ..)
      refine q_popD (xs := refs r) (y := .ref f.t) (by rw [I5.hB, refs_cons]) (ev_var rfl) fun H6 e6 => ?_
      have I6 := I5.ext e6
      have F6 := I6.ok f (List.mem_cons_self ..)
      have hBs : (upd H6 B (.lst (refs r))) B = some (.lst (refs r)) := upd_same
      have hfd : (upd H6 B (.lst (refs r))) f.d = some (.lst f.dv) := by rw [upd_ne (I6.dB (List.mem_cons_self ..))]; exact F6.dn
      refine q_when (b := !!(refs r).isEmpty) (et_not (et_truL (ev_var rfl) (sq_of hBs))) (fun he H7 e7 => ?_) fun he H7 e7 => ?_
      · match r, I6, e7, he, hfd with
        | [], I6, e7, he, hfd =>
          refine s_retU (eu_tupL (ev_var rfl) (sq_of (e7 _ _ hfd))) fun u G hu e8 h8 => k (.ref u) G (((Ex.mut I6.ex I6.nB).trans e7).trans e8) ?_
          rw [show O.seq b ws = O.seq f.b f.ws from I6.ch, seq_strip]
          refine ⟨u, f.dv, rfl, h8, ?_⟩
          have q := F6.ov
          rw [hn, List.take_of_length_le (Nat.le_refl _)] at q
          exact q.tx (((Tx.lst I6.hB).trans (Tx.of e7)).trans (Tx.of e8)) (strips_noL _) (by rw [strips_nod]; exact F6.nod)
        | g :: r, I6, e7, he, hfd =>
          rw [refs_cons] at he
          simp at he
      · match r, I6, e7, he, hfd, hBs with
        | [], I6, e7, he, hfd, hBs =>
          exact absurd he (by simp [refs])
        | g :: r, I6, e7, he, hfd, hBs =>
          have Gg := I6.ok g (by simp)
          have hgd : (upd H6 B (.lst (refs (g :: r)))) g.d = some (.lst g.dv) := by rw [upd_ne (I6.dB (by simp))]; exact Gg.dn
          have hgt : (upd H6 B (.lst (refs (g :: r)))) g.t = some (.tup [g.wv, .ref g.d]) := Tx.lst I6.hB _ _ Gg.tp
          refine s_appU (e7 _ _ hgd) (ev_op (ev_top (xs := refs r) (y := .ref g.t) rfl (by rw [e7 _ _ hBs, refs_cons])) ev_c (rv_ixT (st_of (e7 _ _ hgt)) (atI_nat (j := 1) rfl))) (eu_tupL (ev_var rfl) (sq_of (e7 _ _ hfd))) ?_ fun u G hu e8 h8 => ?_
          · have := Gg.len
            have := Gg.le
            have := O.len_szs g.ws
            have := Gg.sz
            omega
          · obtain ⟨J, lt⟩ := I6.pop hn (e7.trans e8) h8
            exact ⟨_, lt, _, _, _, rfl, J, rfl⟩
    · have hn : f.n ≠ f.ws.length := of_decide_eq_false hb
      have hlt : f.n < f.ws.length := Nat.lt_of_le_of_ne F.le hn
      obtain ⟨x, hx⟩ : ∃ x, f.ws[f.n]? = some x := ⟨f.ws[f.n], by simp [hlt]⟩
      obtain ⟨y, hy, hyo⟩ := hov.geto hx
      have I5 := I4.ext e5
      have F5 := I5.ok f (List.mem_cons_self ..)
      have hwa5 : SqB H5 f.b wa wvs := I5.ex _ _ hwa
      have hxz : x.sz ≤ 1000 := by
        have q : O.szs f.ws = O.szs (f.ws.take f.n) + O.szs (f.ws.drop f.n) := by rw [← O.szs_app, List.take_append_drop]
        have := szs_drop hx
        have := F.sz
        omega
      have ix : ∀ {G : Hp}, Ex H5 G → Ev (tOp (rIxQ K) (tVar 2) (tLen K (tVar 3))) [some v, some (.ref B), some (.ref wa), some (.ref f.d)] G y := fun e => ev_op (ev_var rfl) (ev_lenL (ev_var rfl) (sq_of (e _ _ F5.dn))) (rv_ixQ (hwa5.ext e) (by rw [F5.len]; exact atI_nat hy))
      refine s_if (b := x.hasL) (et_B (ev_call (ea_cons (ix (Ex.refl _)) ea_nil) (spv_hl (hyo.ext I5.ex) hxz))) (fun hL H6 e6 => ?_) fun hL H6 e6 => ?_
      · obtain ⟨b2, ws2, rfl⟩ := hasL_seq hL
        have I6 := I5.ext e6
        refine s_appPN I6.hB (ev_var rfl) (epn (ix e6)) ?_ fun t d G nt nd td e7 ht hd => ?_
        · unfold refs
          rw [List.length_map, List.length_reverse]
          omega
        · obtain ⟨J, lt⟩ := I6.push hx hyo ht hd nd e7
          exact ⟨_, lt, _, _, _, rfl, J, rfl⟩
      · have I6 := I5.ext e6
        have F6 := I6.ok f (List.mem_cons_self ..)
        refine s_app F6.dn (ev_var rfl) (ix e6) ?_ fun G e7 => ?_
        · have := O.len_szs f.ws
          have := F.sz
          omega
        · have I7 := I6.ext e7
          obtain ⟨J, lt⟩ := I7.done (y := y) hx (by rw [strip_id hL]; exact hyo.ext I7.ex)
          exact ⟨_, lt, _, _, _, rfl, J, rfl⟩
end
end K23

set_option Elab.async false
set_option linter.all false
set_option maxRecDepth 100000
set_option maxHeartbeats 4000000
/-! Words fit. -/
namespace K23
open PySem PySem.Spec PyProof.Rows L2 Evl
def headB (h : O) (n : Nat) : Bool := match h with
  | .str s => decide (n ≤ 6) && nameB s
  | _ => false
mutual
def O.fit : O → Bool
  | .str s => varB s
  | .lst xs => O.fitL xs
  | .tup xs => O.fitL xs
  | .non => false | .bl _ => false | .int _ => false | .dct => false
def O.fitL : List O → Bool
  | [] => false
  | h :: as => headB h as.length && O.fits as
def O.fits : List O → Bool
  | [] => true
  | x :: xs => x.fit && O.fits xs
end
mutual
def O.ss : O → Bool
  | .str s => SS.contains s
  | .lst xs => O.sss xs
  | .tup xs => O.sss xs
  | .non => true | .bl _ => true | .int _ => true | .dct => true
def O.sss : List O → Bool
  | [] => true
  | x :: xs => x.ss && O.sss xs
end
def placesL : List O → Bool
  | [] => false
  | h :: as => headB h as.length
def O.placesB : O → Bool
  | .lst xs => placesL xs
  | .tup xs => placesL xs
  | _ => false
theorem fits_app : ∀ (xs ys : List O), O.fits (xs ++ ys) = (O.fits xs && O.fits ys)
  | [], ys => by simp [O.fits]
  | x :: xs, ys => by
    show (x.fit && O.fits (xs ++ ys)) = (x.fit && O.fits xs && O.fits ys)
    rw [fits_app xs ys, Bool.and_assoc]
theorem sss_app : ∀ (xs ys : List O), O.sss (xs ++ ys) = (O.sss xs && O.sss ys)
  | [], ys => by simp [O.sss]
  | x :: xs, ys => by
    show (x.ss && O.sss (xs ++ ys)) = (x.ss && O.sss xs && O.sss ys)
    rw [sss_app xs ys, Bool.and_assoc]
theorem seq_ss (b : Bool) (xs : List O) : (O.seq b xs).ss = O.sss xs := by cases b <;> rfl
theorem seq_fit (b : Bool) (xs : List O) : (O.seq b xs).fit = O.fitL xs := by cases b <;> rfl
theorem seq_places (b : Bool) (xs : List O) : (O.seq b xs).placesB = placesL xs := by cases b <;> rfl
theorem str_ss {s : Str} (h : (O.str s).ss = true) : s ∈ SS := List.contains_iff_mem.mp h
section
variable {K : PySem.W.Frag} {σ : L2.St} {H G : Hp} {te ta tb : TE} {v : V} {D : Ends} {tz : TS}
theorem el_listQ {b : Bool} {p : Addr} {xs : List V} (ha : Ev ta σ H (.ref p)) (h : SqB H b p xs) : EvL (tCB (rListS K) (tCons ta tNil)) σ H xs := fun H1 e Q q =>
  ha H1 e _ fun H2 e2 => ⟨p, xs, rfl, by
    cases b with
    | true => exact .inl (sq_of (h.ext (e.trans e2)))
    | false => exact .inr (st_of (h.ext (e.trans e2))), fun l hl => q l _ (fresh_back e2 hl) (e2.trans (Ex.new hl)) upd_same⟩
/-- k not in d -/
theorem ev_notInD {ty td : TE} {d : Addr} {kvs : List (Key × V)} {k : Key} (h1 : Ev ty σ H (kV k)) (h2 : Ev td σ H (.ref d)) (hd : H d = some (.dK kvs)) : Ev (tDNotIn ty td) σ H (.bl (!(valV kvs k).isSome)) := fun H1 e Q q =>
  h1 H1 e _ fun H2 e2 => h2 H2 (e.trans e2) _ fun H3 e3 => ⟨d, _, rfl, DGet.k (e3 _ _ (e2 _ _ (e _ _ hd))), q H3 (e2.trans e3)⟩
/-- d[k] = v -/
theorem s_dput {td ty tv : TE} {d : Addr} {kvs : List (Key × V)} {k : Key} (hd : H d = some (.dK kvs)) (h2 : Ev tv σ H v) (h1 : Ev td σ H (.ref d)) (h0 : Ev ty σ H (kV k)) (hl : kvs.length < 100000) (q : ∀ H1, Ex H H1 → D.nx σ (upd H1 d (.dK (putK kvs k v)))) : sDPut td ty tv D σ H :=
  h2 H (Ex.refl H) _ fun H1 e1 => h1 H1 e1 _ fun H2 e2 => h0 H2 (e1.trans e2) _ fun H3 e3 => ⟨d, _, rfl, DPut.k (e3 _ _ (e2 _ _ (e1 _ _ hd))) (sz_lt hl), q H3 ((e1.trans e2).trans e3)⟩
end
theorem putK_new {kvs : List (Key × V)} {k : Key} {v : V} (h : valV kvs k = none) : putK kvs k v = kvs ++ [(k, v)] := by
  unfold putK
  have q : (kvs.any fun kv => decide (kv.1 = k)) = false := by
    rw [List.any_eq_false]
    intro p hp e
    have e1 : p.1 = k := of_decide_eq_true e
    unfold valV at h
    have := List.find?_eq_none.mp (Option.map_eq_none_iff.mp h) p hp
    exact this (decide_eq_true e1)
  rw [q]
  rfl
theorem valV_mem {kvs : List (Key × V)} {k : Key} (h : (valV kvs k).isSome = true) : ∃ v, (k, v) ∈ kvs := by
  unfold valV at h
  cases e : kvs.find? fun kv => decide (kv.1 = k) with
  | none => rw [e] at h; cases h
  | some p =>
    have h1 := List.find?_some e
    have h2 := List.mem_of_find?_eq_some e
    have e1 : p.1 = k := of_decide_eq_true h1
    exact ⟨p.2, by rw [← e1]; exact h2⟩
section
variable {P : Program} {w : World} {K : PySem.W.Frag} {mg : Str → Option Value} {base : Heap}
def spPl : Sp := fun vs H Q _ => ∃ v o, vs = [v, .non] ∧ OV H v o ∧ o.ss = true ∧ RetV (.bl o.placesB) H Q
theorem spv_pl {v : V} {o : O} {H : Hp} (h : OV H v o) (hs : o.ss = true) : SpV spPl ([v, .non] ++ []) H (.bl o.placesB) := fun H1 e Q q E => ⟨v, o, rfl, h.ext e, hs, q⟩
theorem sc_places : FnScope ["thing", "arities"] ["thing", "arities"] (defScope s_has_places) := ⟨rfl, rfl, rfl, by decide +kernel, rfl, by decide +kernel, by decide +kernel⟩
theorem ok_has_places (T : T23 P w K mg base) : Ok P w K mg base CX0 "has_places" ["thing", "arities"] 3 spPl := by
  obtain ⟨tl, mMo⟩ := T.most
  obtain ⟨fN, dN, GN, bN, kN, mN⟩ := (ok_is_name T).ex
  refine T.ok 11 rfl sc_places (fun vs H Q E h => ?_) (fun kV doc pm an cdv ct us hl => match us, hl with | [_, _], _ => rfl) (fun f cdv A outer s H vs Q E hr h => ?_)
  · obtain ⟨v, z, rfl, _⟩ := h
    rfl
  · obtain ⟨v, z, rfl, hw, hss, k⟩ := h
    refine ⟨_, pss_cons (ps_if (PW.pt (pw_or (pt_not (pt_val (pe_isiLT T.isi T.list T.tuple (pv 0)))) (pw_or (pt_cmpR op_eq (pe_callB call_len (by rfl) T.len PySem.boot_len (pa_cons (pv 0) pa_nil)) pe_int (nomark _))
        (pw_or1 (pt_not (pt_val (pe_isiB T.isi T.str PyProof.Rows.boot_str (pe_ix ix_seq (pv 0) pe_int (fun _ _ => rfl))))))))) (pss_one (ps_ret pe_bl)) pss_nil)
      (pss_cons (ps_if (pt_cmp (pc_isN (pv 1))) (pss_one (ps_ret (pe_and (pe_cmpR op_le (pe_callB call_len (by rfl) T.len PySem.boot_len (pa_cons (pv 0) pa_nil)) (pe_op op_add (pe_glob (v := .int 6) rfl mMo ⟨_, rfl⟩) pe_int) (nomark _))
        (pe_one (pe_call GN hr (by rfl) mN kN bN .nil pass0 (pa_cons (pe_ix ix_seq (pv 0) pe_int (fun _ _ => rfl)) pa_nil)))))) pss_nil)
      (pss_one ps_never)), ?_⟩
    cases hq : z.isLst || z.isTup with
    | false =>
      refine q_when (b := true) (et_is (et_or (a := true) (b := true) (et_is (et_not (et_B (ev_isSeq (ev_var rfl) hw))) (by rw [hq]; rfl)) fun z => nomatch z) rfl) (fun _ H1 e1 => ?_) fun z => nomatch z
      refine s_ret (ev_is ev_c ?_) fun H2 e2 => k H2 (e1.trans e2)
      cases z with
      | lst xs => cases hq
      | tup xs => cases hq
      | _ => rfl
    | true =>
      obtain ⟨b, xs, rfl⟩ := O.seq_of hq
      obtain ⟨a, us, rfl, ha, hov⟩ := hw.seq
      have hsq : SqB H b a us := ha
      rw [seq_places] at k
      rw [seq_ss] at hss
      match xs, hov, hss, k with
      | [], hov, hss, k =>
        obtain rfl : us = [] := hov
        refine q_when (b := true) (et_is (et_or (a := false) (b := true) (et_is (et_not (et_B (ev_isSeq (ev_var rfl) hw))) (by rw [hq]; rfl)) fun _ => et_or (a := true) (b := true) (et_is (et_test (ev_op (ev_lenQ (ev_var rfl) hsq) ev_c (rv_eq rfl))) (by decide)) fun z => nomatch z) rfl) (fun _ H1 e1 => ?_) fun z => nomatch z
        exact s_ret ev_c fun H2 e2 => k H2 (e1.trans e2)
      | h :: as, ⟨u, us', e0, hu, has⟩, hss, k =>
        subst e0
        obtain ⟨hh, hr2⟩ := Bool.and_eq_true_iff.mp hss
        have ev0 : ∀ {G : Hp}, Ex H G → Ev (tOp (rIxQ K) (tVar 0) (tC (.int 0))) [some (.ref a), some .non] G u := fun e => ev_op (ev_var rfl) ev_c (rv_ixQ (hsq.ext e) (atI_nat (j := 0) rfl))
        have hl : (u :: us').length = us'.length + 1 := rfl
        have hal := has.length
        have e12 : decide (V.int (((u :: us').length : Nat) : Int) = V.int 0) = false := decide_eq_false (by rw [hl]; intro q; have := V.int.inj q; omega)
        cases hst : h.isStr with
        | false =>
          refine q_when (b := true) (et_is (et_or (a := false) (b := true) (et_is (et_not (et_B (ev_isSeq (ev_var rfl) hw))) (by rw [hq]; rfl)) fun _ => et_is (et_or (a := false) (b := true) (et_is (et_test (ev_op (ev_lenQ (ev_var rfl) hsq) ev_c (rv_eq rfl))) e12) fun _ =>
            et_is (et_not (et_B (ev_isStr (ev0 (Ex.refl _)) hu))) (by rw [hst]; rfl)) rfl) rfl) (fun _ H1 e1 => ?_) fun z => nomatch z
          refine s_ret (ev_is ev_c ?_) fun H2 e2 => k H2 (e1.trans e2)
          cases h with
          | str s => cases hst
          | _ => rfl
        | true =>
          obtain ⟨s, rfl⟩ : ∃ s, h = .str s := by
            cases h with
            | str s => exact ⟨s, rfl⟩
            | _ => cases hst
          obtain rfl : u = .str s := hu
          refine q_when (b := false) (et_is (et_or (a := false) (b := false) (et_is (et_not (et_B (ev_isSeq (ev_var rfl) hw))) (by rw [hq]; rfl)) fun _ => et_is (et_or (a := false) (b := false) (et_is (et_test (ev_op (ev_lenQ (ev_var rfl) hsq) ev_c (rv_eq rfl))) e12) fun _ =>
            et_is (et_not (et_B (ev_isStr (o := .str s) (ev0 (Ex.refl _)) rfl))) rfl) rfl) rfl) (fun z => nomatch z) fun _ H1 e1 => ?_
          refine q_when (b := true) (et_test (ev_isN (ev_var rfl) rfl)) (fun _ H2 e2 => ?_) (fun z => nomatch z)
          refine s_ret (ev_is (ev_andV (ev_op (ev_lenQ (ev_var rfl) (hsq.ext (e1.trans e2))) (ev_op ev_c ev_c rv_I0) rv_I0) fun _ => ev_call (ea_cons (ev0 (e1.trans e2)) ea_nil) (spv_S (str_ss hh))) ?_) fun H3 e3 => k H3 ((e1.trans e2).trans e3)
          show V.bl (decide ((((V.str s :: us').length : Nat) : Int) ≤ 6 + 1) && nameB s) = V.bl (decide (as.length ≤ 6) && nameB s)
          have e : decide ((((V.str s :: us').length : Nat) : Int) ≤ 6 + 1) = decide (as.length ≤ 6) := by
            by_cases q : as.length ≤ 6
            · rw [decide_eq_true q, decide_eq_true (by rw [show (V.str s :: us').length = us'.length + 1 from rfl]; omega)]
            · rw [decide_eq_false q, decide_eq_false (by rw [show (V.str s :: us').length = us'.length + 1 from rfl]; omega)]
          rw [e]
end
end K23

set_option Elab.async false
set_option linter.all false
set_option maxRecDepth 100000
set_option maxHeartbeats 4000000
/-! Words fit, further. -/
namespace K23
open PySem PySem.Spec PyProof.Rows L2 Evl
section
variable {P : Program} {w : World} {K : PySem.W.Frag} {mg : Str → Option Value} {base : Heap}
def spFit : Sp := fun vs H Q _ => ∃ (a : Addr) (b : Bool) (us : List V) (os : List O), vs = [.ref a, .non, .non] ∧ SqB H b a us ∧ OVs H us os ∧ O.sss os = true ∧ O.szs os ≤ 1000 ∧ RetV (.bl (O.fits os)) H Q
abbrev nFit : List Str := ["words", "functions", "scope", "stood", "work", "part"]
theorem sc_fit : FnScope nFit ["words", "functions", "scope"] (defScope s_words_fit) := ⟨rfl, rfl, rfl, by decide +kernel, rfl, by decide +kernel, by decide +kernel⟩
theorem ok_words_fit (T : T23 P w K mg base) : Ok P w K mg base CX0 "words_fit" ["words", "functions", "scope"] 4 spFit := by
  obtain ⟨fN, dN, GN, bN, kN, mN⟩ := (ok_has_places T).ex
  obtain ⟨fV, dV, GV, bV, kV', mV⟩ := (ok_is_variable T).ex
  refine T.ok 12 rfl sc_fit (fun vs H Q E h => ?_) (fun kV doc pm an cdv ct us hl => match us, hl with | [_, _, _], _ => rfl) (fun f cdv A outer s H vs Q E hr h => ?_)
  · obtain ⟨a, b, us, os, rfl, _⟩ := h
    rfl
  · obtain ⟨a, b, us, os, rfl, ha, hov, hss, hz, k⟩ := h
    refine ⟨_, pss_cons (ps_set (i := 3) sc_fit.nd rfl (Or.inl rfl) pe_dnewK)
      (pss_cons (ps_set (i := 4) sc_fit.nd rfl (Or.inl rfl) (pe_callTy call_list_of (by rfl) T.list PyProof.Rows.boot_list (pa_cons (pv 0) pa_nil)))
      (pss_cons (ps_while PassesOwn.never (pt_truth (pv 4) (by intro _; rfl))
        (pss_cons (ps_set (i := 5) sc_fit.nd rfl (Or.inl rfl) (pe_bm0 PySem.F.plainAttrs_list PySem.F.slot_list_pop PySem.F.type_list_pop mt_pop (pv 4)))
        (pss_one (ps_if (pt_not (pt_val (pe_isiB T.isi T.str PyProof.Rows.boot_str (pv 5))))
          (pss_cons (ps_if (pt_not (pt_val (pe_call GN hr (by rfl) mN kN bN .nil pass0 (pa_cons (pv 5) (pa_cons (pv 1) pa_nil))))) (pss_one (ps_ret pe_bl)) pss_nil)
            (pss_one (ps_expr (pe_bm PySem.F.plainAttrs_list PySem.F.slot_list_extend PySem.F.type_list_extend mt_extQ (pv 4) (pa_cons (pe_slice sl_seq (pv 5) (po_some pe_int) po_none) pa_nil)))))
          (pss_one (ps_if (pt_cmp (pc_dnotin (hu_of hr) (pv 5) (pv 3)))
            (pss_cons (ps_if (PW.pt (pw_or (pt_not (pt_val (pe_call GV (hr.mono (by decide)) (by rfl) mV kV' bV .nil pass0 (pa_cons (pv 5) pa_nil)))) (pw_or1 (PW.pt (pw_and (pt_cmp (pc_notN (pv 2))) (pw_and1 (pt_cmp (pc_dnotin (hu_of hr) (pv 5) (pv 2))))))))) (pss_one (ps_ret pe_bl)) pss_nil)
              (pss_one (ps_dput (hu_of hr) (pv 3) (pv 5) pe_bl rfl))) pss_nil))))))
      (pss_one (ps_ret pe_bl)))), ?_⟩
    intro d hd
    have e0 : Ex H (upd H d (.dK [])) := Ex.new hd
    refine q_asgL (el_listQ (ev_var rfl) (ha.ext e0)) fun p H1 hp e1 h1 => ?_
    have hp0 : H p = none := fresh_back e0 hp
    have hpd : p ≠ d := fun z => by
      rw [z, upd_same] at hp
      cases hp
    refine q_while (fun m σ' H' => ∃ (xs : List V) (ts : List O) (kvs : List (Key × V)) (o : Option V), σ' = [some (.ref a), some .non, some .non, some (.ref d), some (.ref p), o] ∧ Ex H H' ∧ H' p = some (.lst xs) ∧ H' d = some (.dK kvs) ∧ OVs H xs ts ∧ m = O.szs ts ∧ kvs.length + m ≤ 1000 ∧ O.sss ts = true ∧
        (∀ q ∈ kvs, ∃ s, q.1 = Sum.inr s ∧ varB s = true) ∧ O.fits ts = O.fits os) (O.szs os)
      ⟨us, os, [], none, rfl, e0.trans e1, h1, e1 _ _ upd_same, hov, rfl, by simpa using hz, hss, (fun q hq => absurd hq (by simp)), rfl⟩ ?_
    rintro m σ' H' ⟨xs, ts, kvs, o, rfl, e2, h2, h2d, tv, hm, hm2, hss', hkv, hres⟩
    refine ⟨!xs.isEmpty, et_truL (ev_var rfl) (SqL.of h2), fun hb H3 e3 => ?_, fun hb H3 e3 => ?_⟩
    · rcases List.eq_nil_or_concat ts with ht | ⟨ts', t, ht⟩
      · subst ht
        rw [show xs = [] from tv] at hb
        exact absurd hb (by decide)
      rw [List.concat_eq_append] at ht
      subst ht
      obtain ⟨us', x, rfl, tv1, tvx⟩ := OVs.snoc tv
      have hsum := O.szs_app ts' [t]
      have hs1 : O.szs [t] = t.sz := by simp [O.szs]
      have hlen := O.len_szs ts'
      have hle := tv1.length
      have tp := t.sz_pos
      rw [fits_app, show O.fits [t] = t.fit by simp [O.fits]] at hres
      rw [sss_app, show O.sss [t] = t.ss by simp [O.sss]] at hss'
      obtain ⟨hs1', hs2'⟩ := Bool.and_eq_true_iff.mp hss'
      refine ⟨fun σ2 H2 => ∃ m', m' < m ∧ ∃ (xs : List V) (ts : List O) (kvs : List (Key × V)) (o : Option V), σ2 = [some (.ref a), some .non, some .non, some (.ref d), some (.ref p), o] ∧ Ex H H2 ∧ H2 p = some (.lst xs) ∧ H2 d = some (.dK kvs) ∧ OVs H xs ts ∧ m' = O.szs ts ∧ kvs.length + m' ≤ 1000 ∧ O.sss ts = true ∧
        (∀ q ∈ kvs, ∃ s, q.1 = Sum.inr s ∧ varB s = true) ∧ O.fits ts = O.fits os, fun σ2 H2 z => z, ?_⟩
      refine q_pop (e3 _ _ h2) (ev_var rfl) fun H4 e4 => ?_
      have e5 : Ex H (upd H4 p (.lst us')) := Ex.mut ((e2.trans e3).trans e4) hp0
      have h5d : (upd H4 p (.lst us')) d = some (.dK kvs) := by
        rw [upd_ne hpd.symm]
        exact e4 _ _ (e3 _ _ h2d)
      have tvx5 := tvx.ext e5
      refine s_if (b := !t.isStr) (et_not (et_B (ev_isStr (ev_var rfl) tvx5))) (fun hS H5 e6 => ?_) fun hS H5 e6 => ?_
      · have hns : t.isStr = false := by simpa using hS
        refine q_when (b := !t.placesB) (et_not (et_B (ev_call (ea_cons (ev_var rfl) (ea_cons (ev_var rfl) ea_nil)) (spv_pl (tvx5.ext e6) hs2')))) (fun hP H6 e7 => ?_) fun hP H6 e7 => ?_
        · have hnp : t.placesB = false := by simpa using hP
          refine s_ret (ev_is ev_c ?_) fun G e8 => k G (((e5.trans e6).trans e7).trans e8)
          have hf : t.fit = false := by
            cases t with
            | lst xs =>
              cases xs with
              | nil => rfl
              | cons h as => show (headB h as.length && O.fits as) = false; rw [show headB h as.length = false from hnp]; rfl
            | tup xs =>
              cases xs with
              | nil => rfl
              | cons h as => show (headB h as.length && O.fits as) = false; rw [show headB h as.length = false from hnp]; rfl
            | str s => cases hns
            | _ => rfl
          rw [← hres, hf, Bool.and_false]
        · have hp1 : t.placesB = true := by simpa using hP
          obtain ⟨b2, ys, rfl⟩ : ∃ b ys, t = O.seq b ys := by
            cases t with
            | lst xs => exact ⟨true, xs, rfl⟩
            | tup xs => exact ⟨false, xs, rfl⟩
            | _ => cases hp1
          rw [seq_places] at hp1
          rw [seq_ss] at hs2'
          rw [seq_fit] at hres
          rw [O.seq_sz] at hs1
          obtain ⟨r, as, rfl, hr', hya⟩ := tvx.seq
          match ys, hp1, hya, hs2', hres, hs1 with
          | hd1 :: tl1, hp1, ⟨u, us2, e0', hu, has⟩, hs2', hres, hs1 =>
            subst e0'
            have hh1 : headB hd1 tl1.length = true := hp1
            have hres2 : (O.fits ts' && O.fits tl1) = O.fits os := by
              rw [← hres]
              show _ = (O.fits ts' && (headB hd1 tl1.length && O.fits tl1))
              rw [hh1, Bool.true_and]
            have hsz2 : O.szs (hd1 :: tl1) = hd1.sz + O.szs tl1 := rfl
            have hdp := hd1.sz_pos
            have hal := has.length
            have hlt := O.len_szs tl1
            have e8 := (e5.trans e6).trans e7
            have hr8 : SqB H6 b2 r (u :: us2) := e8 _ _ hr'
            refine s_extQ ((e6.trans e7) _ _ upd_same) (ev_var rfl) (eq_tail (ev_var rfl) hr8) (by omega) fun H7 e9 => ?_
            have e10 := (e6.trans e7).trans e9
            refine ⟨O.szs (ts' ++ tl1), by rw [O.szs_app]; omega, us' ++ us2, ts' ++ tl1, kvs, _, rfl, Ex.mut (e8.trans e9) hp0, upd_same, by rw [upd_ne hpd.symm]; exact e10 _ _ h5d, tv1.append has, rfl, by rw [O.szs_app]; omega, ?_, hkv, by rw [fits_app]; exact hres2⟩
            rw [sss_app, hs1', (Bool.and_eq_true_iff.mp hs2').2]
            rfl
      · have hst : t.isStr = true := by simpa using hS
        obtain ⟨s, rfl⟩ : ∃ s, t = .str s := by
          cases t with
          | str s => exact ⟨s, rfl⟩
          | _ => cases hst
        obtain rfl : x = .str s := tvx
        have hms : s ∈ SS := str_ss hs2'
        have hsz1 : (O.str s).sz = 1 := rfl
        refine s_when (b := !(valV kvs (Sum.inr s)).isSome) (et_B (ev_notInD (k := Sum.inr s) (ev_var rfl) (ev_var rfl) (e6 _ _ h5d))) (fun hN H6 e7 => ?_) fun hN H6 e7 => ?_
        · have hnone : valV kvs (Sum.inr s : Key) = none := by
            cases q : valV kvs (Sum.inr s : Key) with
            | none => rfl
            | some y => rw [q] at hN; cases hN
          refine q_when (b := !varB s) (et_is (et_or (b := false) (et_not (et_B (ev_call (ea_cons (ev_var rfl) ea_nil) (spv_S hms)))) fun _ => et_is (et_and (a := false) (b := false) (et_B (ev_notN (ev_var rfl) rfl)) fun z => nomatch z) rfl) (Bool.or_false _)) (fun hV H7 e8 => ?_) fun hV H7 e8 => ?_
          · have hv0 : varB s = false := by simpa using hV
            refine s_ret (ev_is ev_c ?_) fun G e9 => k G ((((e5.trans e6).trans e7).trans e8).trans e9)
            rw [← hres, show (O.str s).fit = varB s from rfl, hv0, Bool.and_false]
          · have hv1 : varB s = true := by simpa using hV
            have e9 := (e6.trans e7).trans e8
            refine s_dput (k := Sum.inr s) (e9 _ _ h5d) ev_c (ev_var rfl) (ev_var rfl) (by omega) fun H8 e10 => ?_
            rw [putK_new hnone]
            refine ⟨O.szs ts', by omega, us', ts', _, _, rfl, Ex.mut ((e5.trans e9).trans e10) hd, ?_, upd_same, tv1, rfl, by rw [List.length_append, List.length_singleton]; omega, hs1', fun q hq => ?_, ?_⟩
            · rw [upd_ne hpd]
              exact e10 _ _ (e9 _ _ upd_same)
            · rcases List.mem_append.mp hq with hq | hq
              · exact hkv q hq
              · obtain rfl : q = (Sum.inr s, V.bl true) := by simpa using hq
                exact ⟨s, rfl, hv1⟩
            · rw [← hres, show (O.str s).fit = varB s from rfl, hv1, Bool.and_true]
        · have hsome : (valV kvs (Sum.inr s : Key)).isSome = true := by
            cases q : valV kvs (Sum.inr s : Key) with
            | none => rw [q] at hN; cases hN
            | some y => rfl
          obtain ⟨v, hv⟩ := valV_mem hsome
          obtain ⟨s', es, hv1⟩ := hkv _ hv
          obtain rfl : s = s' := Sum.inr.inj es
          refine ⟨O.szs ts', by omega, us', ts', kvs, _, rfl, (e5.trans e6).trans e7, (e6.trans e7) _ _ upd_same, (e6.trans e7) _ _ h5d, tv1, rfl, by omega, hs1', hkv, ?_⟩
          rw [← hres, show (O.str s).fit = varB s from rfl, hv1, Bool.and_true]
    · have hx : xs = [] := by
        cases xs with
        | nil => rfl
        | cons _ _ => cases hb
      have ht : ts = [] := by
        have := tv.length
        rw [hx] at this
        exact List.length_eq_zero_iff.mp this.symm
      rw [ht] at hres
      refine s_ret (ev_is ev_c ?_) fun H4 e4 => k H4 ((e2.trans e3).trans e4)
      rw [← hres]
      rfl
end
end K23

set_option Elab.async false
set_option linter.all false
set_option maxRecDepth 100000
set_option maxHeartbeats 4000000
/-! Atoms fit; an own error raised. -/
namespace K23
open PySem PySem.Spec PyProof.Rows L2 Evl
def eqL : List O → Bool
  | [.str s, _, _] => s == "="
  | _ => false
def O.eqB : O → Bool
  | .lst xs => eqL xs
  | .tup xs => eqL xs
  | _ => false
/-- of three things the first is a text -/
def e3L : List O → Bool
  | [h, _, _] => h.isStr
  | _ => true
def O.e3 : O → Bool
  | .lst xs => e3L xs
  | .tup xs => e3L xs
  | _ => true
def tailL : List O → Bool
  | [] => false
  | _ :: as => O.fits as
def O.fitA : O → Bool
  | .lst xs => (eqL xs || placesL xs) && tailL xs
  | .tup xs => (eqL xs || placesL xs) && tailL xs
  | _ => false
def O.fitW (o : O) : Bool := o.fit || o.fitA
theorem seq_eqB (b : Bool) (xs : List O) : (O.seq b xs).eqB = eqL xs := by cases b <;> rfl
theorem seq_e3 (b : Bool) (xs : List O) : (O.seq b xs).e3 = e3L xs := by cases b <;> rfl
theorem seq_fitA (b : Bool) (xs : List O) : (O.seq b xs).fitA = ((eqL xs || placesL xs) && tailL xs) := by cases b <;> rfl
theorem head_nod {h : O} {n : Nat} (k : headB h n = true) : h.nod = true := by
  cases h with
  | str s => rfl
  | _ => cases k
mutual
theorem fit_nod : ∀ {o : O}, o.fit = true → o.nod = true
  | .str _, _ => rfl
  | .lst xs, h => fitL_nod (xs := xs) h
  | .tup xs, h => fitL_nod (xs := xs) h
  | .non, h => nomatch h
  | .bl _, h => nomatch h
  | .int _, h => nomatch h
  | .dct, h => nomatch h
theorem fitL_nod : ∀ {xs : List O}, O.fitL xs = true → O.nods xs = true
  | [], h => nomatch h
  | h :: as, k => by
    obtain ⟨a, b⟩ := Bool.and_eq_true_iff.mp k
    show (h.nod && O.nods as) = true
    rw [head_nod a, fits_nod b]
    rfl
theorem fits_nod : ∀ {xs : List O}, O.fits xs = true → O.nods xs = true
  | [], _ => rfl
  | x :: xs, k => by
    obtain ⟨a, b⟩ := Bool.and_eq_true_iff.mp k
    show (x.nod && O.nods xs) = true
    rw [fit_nod a, fits_nod b]
    rfl
end
theorem fitA_nodL {xs : List O} (k : ((eqL xs || placesL xs) && tailL xs) = true) : O.nods xs = true := by
  obtain ⟨a, b⟩ := Bool.and_eq_true_iff.mp k
  match xs, a, b with
  | h :: as, a, b =>
    have hh : h.nod = true := by
      rcases Bool.or_eq_true_iff.mp a with q | q
      · cases h with
        | str s => rfl
        | _ => cases q
      · exact head_nod q
    show (h.nod && O.nods as) = true
    rw [hh, fits_nod (show O.fits as = true from b)]
    rfl
theorem fitW_nod {o : O} (h : o.fitW = true) : o.nod = true := by
  rcases Bool.or_eq_true_iff.mp h with q | q
  · exact fit_nod q
  · cases o with
    | lst xs => exact fitA_nodL q
    | tup xs => exact fitA_nodL q
    | _ => cases q
section
variable {K : PySem.W.Frag} {σ : L2.St} {H G : Hp} {te ta tb : TE} {v : V} {D : Ends} {tz : TS}
/-- a call with a new list or tuple ahead -/
theorem ev_callNQ {sp : Sp} {vs dvs xs : List V} {E : XK} {tr : TA} {z : V} (h : EvQ te σ H xs) (hr : EvA tr σ H vs) (hp : ∀ b p H1, Ex H H1 → SqB H1 b p xs → SpV sp ((.ref p :: vs) ++ dvs) H1 z) : Ev (tCall sp dvs E (tCons te tr)) σ H z := fun H1 e Q q =>
  h H1 e _ fun b p H2 _ e2 h2 => hr H2 (e.trans e2) _ fun H3 e3 => hp b p H3 ((e.trans e2).trans e3) (h2.ext e3) H3 (Ex.refl _) Q (fun H4 e4 => q H4 ((e2.trans e3).trans e4)) E
end
section
variable {P : Program} {w : World} {K : PySem.W.Frag} {mg : Str → Option Value} {base : Heap}
def spF (n : Nat) (f : O → Bool) : Sp := fun vs H Q _ => ∃ v o, vs = v :: List.replicate n .non ∧ OV H v o ∧ o.ss = true ∧ o.sz ≤ 900 ∧ o.e3 = true ∧ RetV (.bl (f o)) H Q
theorem spF_len {n : Nat} {f : O → Bool} {vs : List V} {H : Hp} {Q : VK} {E : XK} (h : spF n f vs H Q E) : vs.length = n + 1 := by
  obtain ⟨v, o, rfl, _⟩ := h
  simp
theorem sc_wf : FnScope ["thing", "functions", "scope"] ["thing", "functions", "scope"] (defScope s_word_fits) := ⟨rfl, rfl, rfl, by decide +kernel, rfl, by decide +kernel, by decide +kernel⟩
theorem ok_word_fits (T : T23 P w K mg base) : Ok P w K mg base CX0 "word_fits" ["thing", "functions", "scope"] 5 (spF 2 O.fit) := by
  obtain ⟨fN, dN, GN, bN, kN, mN⟩ := (ok_words_fit T).ex
  refine T.ok 13 rfl sc_wf (fun vs H Q E h => spF_len h) (fun kV doc pm an cdv ct us hl => match us, hl with | [_, _, _], _ => rfl) (fun f cdv A outer s H vs Q E hr h => ?_)
  obtain ⟨v, z, rfl, hw, hss, hz, _, k⟩ := h
  refine ⟨_, pss_one (ps_ret (pe_call GN hr (by rfl) mN kN bN .nil pass0 (pa_cons (pe_lst (pa_cons (pv 0) pa_nil)) (pa_cons (pv 1) (pa_cons (pv 2) pa_nil))))), ?_⟩
  refine s_ret (ev_is (ev_callNL (el_lst (ea_cons (ev_var rfl) ea_nil) (by show 1 ≤ 100000; decide)) (ea_cons (ev_var rfl) (ea_cons (ev_var rfl) ea_nil)) fun p H1 e1 h1 H2 e2 Q q E => ⟨p, true, [v], [z], rfl, e2 _ _ h1, .cons (hw.ext (e1.trans e2)) .nil, by simp [O.sss, hss], by simp [O.szs]; omega, q⟩) ?_) k
  simp [O.fits]
theorem sc_eq : FnScope ["thing"] ["thing"] (defScope s_is_equality) := ⟨rfl, rfl, rfl, by decide +kernel, rfl, by decide +kernel, by decide +kernel⟩
theorem ok_is_equality (T : T23 P w K mg base) : Ok P w K mg base CX0 "is_equality" ["thing"] 2 (spF 0 O.eqB) := by
  obtain ⟨fL, dL, GL, bL, kL, mL⟩ := (ok_is_list T).ex
  refine T.ok 14 rfl sc_eq (fun vs H Q E h => spF_len h) (fun kV doc pm an cdv ct us hl => match us, hl with | [_], _ => rfl) (fun f cdv A outer s H vs Q E hr h => ?_)
  obtain ⟨v, z, rfl, hw, hss, hz, he3, k⟩ := h
  refine ⟨_, pss_one (ps_ret (pe_and (pe_call GL hr (by rfl) mL kL bL .nil pass0 (pa_cons (pv 0) pa_nil)) (pe_and (pe_cmpR op_eq (pe_callB call_len (by rfl) T.len PySem.boot_len (pa_cons (pv 0) pa_nil)) pe_int (nomark _)) (pe_one (pe_cmpR op_eq (pe_ix ix_seq (pv 0) pe_int (fun _ _ => rfl)) pe_str (nomark _)))))), ?_⟩
  cases hq : z.isLst || z.isTup with
  | false =>
    refine s_ret (ev_is (ev_andV (a := false) (b := false) (ev_is (ev_call (ea_cons (ev_var rfl) ea_nil) (spv_B hw)) (by rw [hq])) fun z => nomatch z) ?_) k
    cases z with
    | lst xs => cases hq
    | tup xs => cases hq
    | _ => rfl
  | true =>
    obtain ⟨b, xs, rfl⟩ := O.seq_of hq
    obtain ⟨a, us, rfl, ha, hov⟩ := hw.seq
    have hsq : SqB H b a us := ha
    rw [seq_eqB] at k
    rw [seq_e3] at he3
    have hul := hov.length
    by_cases h3 : xs.length = 3
    · match xs, h3, hov, he3, k, hul with
      | [h, x, y], h3, ⟨u, us', e0, hu, has⟩, he3, k, hul =>
        subst e0
        obtain ⟨s, rfl⟩ : ∃ s, h = .str s := by
          cases h with
          | str s => exact ⟨s, rfl⟩
          | _ => cases he3
        obtain rfl : u = .str s := hu
        refine s_ret (ev_is (ev_andV (a := true) (ev_is (ev_call (ea_cons (ev_var rfl) ea_nil) (spv_B hw)) (by rw [hq])) fun _ => ev_andV (a := true) (ev_is (ev_op (ev_lenQ (ev_var rfl) hsq) ev_c (rv_eq rfl)) (congrArg V.bl (decide_eq_true (by rw [hul]; rfl)))) fun _ => ev_op (ev_op (ev_var rfl) ev_c (rv_ixQ hsq (atI_nat (j := 0) rfl))) ev_c (rv_eq rfl)) ?_) k
        show V.bl (true && (true && decide (V.str s = V.str "="))) = V.bl (s == "=")
        by_cases q : s = "="
        · subst q
          rfl
        · rw [decide_eq_false (fun z => q (V.str.inj z)), beq_eq_false_iff_ne.mpr q]
          rfl
    · refine s_ret (ev_is (ev_andV (a := true) (b := false) (ev_is (ev_call (ea_cons (ev_var rfl) ea_nil) (spv_B hw)) (by rw [hq])) fun _ => ev_is (ev_andV (a := false) (b := false) (ev_is (ev_op (ev_lenQ (ev_var rfl) hsq) ev_c (rv_eq rfl)) (congrArg V.bl (decide_eq_false (by rw [hul]; intro q; exact h3 (by have := V.int.inj q; omega))))) fun z => nomatch z) rfl) ?_) k
      have e : eqL xs = false := by
        unfold eqL
        split
        · exact absurd rfl h3
        · rfl
      rw [e]
      rfl
theorem spv_F0 {f : O → Bool} {v : V} {o : O} {H : Hp} (h : OV H v o) (hs : o.ss = true) (hz : o.sz ≤ 900) (h3 : o.e3 = true) : SpV (spF 0 f) ([v] ++ []) H (.bl (f o)) := fun H1 e Q q E => ⟨v, o, rfl, h.ext e, hs, hz, h3, q⟩
theorem sc_af : FnScope ["thing", "functions", "predicates", "scope"] ["thing", "functions", "predicates", "scope"] (defScope s_atom_fits) := ⟨rfl, rfl, rfl, by decide +kernel, rfl, by decide +kernel, by decide +kernel⟩
theorem ok_atom_fits (T : T23 P w K mg base) : Ok P w K mg base CX0 "atom_fits" ["thing", "functions", "predicates", "scope"] 5 (spF 3 O.fitA) := by
  obtain ⟨fE, dE, GE, bE, kE, mE⟩ := (ok_is_equality T).ex
  obtain ⟨fP, dP, GP, bP, kP, mP⟩ := (ok_has_places T).ex
  obtain ⟨fN, dN, GN, bN, kN, mN⟩ := (ok_words_fit T).ex
  refine T.ok 15 rfl sc_af (fun vs H Q E h => spF_len h) (fun kV doc pm an cdv ct us hl => match us, hl with | [_, _, _, _], _ => rfl) (fun f cdv A outer s H vs Q E hr h => ?_)
  obtain ⟨v, z, rfl, hw, hss, hz, he3, k⟩ := h
  refine ⟨_, pss_one (ps_ret (pe_and (pe_or (pe_call GE (hr.mono (by decide)) (by rfl) mE kE bE .nil pass0 (pa_cons (pv 0) pa_nil)) (pe_one (pe_call GP (hr.mono (by decide)) (by rfl) mP kP bP .nil pass0 (pa_cons (pv 0) (pa_cons (pv 2) pa_nil)))))
    (pe_one (pe_call GN hr (by rfl) mN kN bN .nil pass0 (pa_cons (pe_slice sl_seq (pv 0) (po_some pe_int) po_none) (pa_cons (pv 1) (pa_cons (pv 3) pa_nil))))))), ?_⟩
  have hor : Ev (tOrV (tCall (spF 0 O.eqB) [] E0 (tCons (tVar 0) tNil)) (tCall spPl [] E0 (tCons (tVar 0) (tCons (tVar 2) tNil)))) (L2.start ["thing", "functions", "predicates", "scope"] (v :: List.replicate 3 .non)) H (.bl (z.eqB || z.placesB)) :=
    ev_orV (ev_call (ea_cons (ev_var rfl) ea_nil) (spv_F0 hw hss hz he3)) fun _ => ev_call (ea_cons (ev_var rfl) (ea_cons (ev_var rfl) ea_nil)) (spv_pl hw hss)
  cases hb : z.eqB || z.placesB with
  | false =>
    rw [hb] at hor
    refine s_ret (ev_is (ev_andV (a := false) (b := false) hor fun z => nomatch z) ?_) k
    cases z with
    | lst xs => show V.bl false = V.bl ((eqL xs || placesL xs) && tailL xs); rw [show (eqL xs || placesL xs) = false from hb]; rfl
    | tup xs => show V.bl false = V.bl ((eqL xs || placesL xs) && tailL xs); rw [show (eqL xs || placesL xs) = false from hb]; rfl
    | _ => rfl
  | true =>
    rw [hb] at hor
    obtain ⟨b, xs, rfl⟩ : ∃ b xs, z = O.seq b xs := by
      cases z with
      | lst xs => exact ⟨true, xs, rfl⟩
      | tup xs => exact ⟨false, xs, rfl⟩
      | _ => cases hb
    obtain ⟨a, us, rfl, ha, hov⟩ := hw.seq
    have hsq : SqB H b a us := ha
    rw [seq_fitA] at k
    rw [seq_eqB, seq_places] at hb
    rw [seq_ss] at hss
    rw [O.seq_sz] at hz
    match xs, hov, hb, k, hss, hz with
    | h :: as, ⟨u, us', e0, hu, has⟩, hb, k, hss, hz =>
      subst e0
      have hsz : O.szs (h :: as) = h.sz + O.szs as := rfl
      refine s_ret (ev_is (ev_andV (a := true) hor fun _ => ev_callNQ (eq_tail (ev_var rfl) hsq) (ea_cons (ev_var rfl) (ea_cons (ev_var rfl) ea_nil)) fun b p H1 e1 h1 H2 e2 Q q E => ⟨p, b, us', as, rfl, h1.ext e2, has.ext (e1.trans e2), (Bool.and_eq_true_iff.mp hss).2, by omega, q⟩) ?_) k
      rw [hb]
      rfl
theorem sc_iaw : FnScope ["thing"] ["thing"] (defScope s_is_any_word) := ⟨rfl, rfl, rfl, by decide +kernel, rfl, by decide +kernel, by decide +kernel⟩
theorem ok_is_any_word (T : T23 P w K mg base) : Ok P w K mg base CX0 "is_any_word" ["thing"] 6 (spF 0 O.fit) := by
  obtain ⟨fN, dN, GN, bN, kN, mN⟩ := (ok_word_fits T).ex
  refine T.ok 16 rfl sc_iaw (fun vs H Q E h => spF_len h) (fun kV doc pm an cdv ct us hl => match us, hl with | [_], _ => rfl) (fun f cdv A outer s H vs Q E hr h => ?_)
  obtain ⟨v, z, rfl, hw, hss, hz, h3, k⟩ := h
  refine ⟨_, pss_one (ps_ret (pe_call GN hr (by rfl) mN kN bN .nil pass0 (pa_cons (pv 0) (pa_cons pe_non (pa_cons pe_non pa_nil))))), ?_⟩
  exact s_ret (ev_call (ea_cons (ev_var rfl) (ea_cons ev_c (ea_cons ev_c ea_nil))) fun H1 e Q q E => ⟨v, z, rfl, hw.ext e, hss, hz, h3, q⟩) k
theorem sc_iaa : FnScope ["thing"] ["thing"] (defScope s_is_any_atom) := ⟨rfl, rfl, rfl, by decide +kernel, rfl, by decide +kernel, by decide +kernel⟩
theorem ok_is_any_atom (T : T23 P w K mg base) : Ok P w K mg base CX0 "is_any_atom" ["thing"] 6 (spF 0 O.fitA) := by
  obtain ⟨fN, dN, GN, bN, kN, mN⟩ := (ok_atom_fits T).ex
  refine T.ok 17 rfl sc_iaa (fun vs H Q E h => spF_len h) (fun kV doc pm an cdv ct us hl => match us, hl with | [_], _ => rfl) (fun f cdv A outer s H vs Q E hr h => ?_)
  obtain ⟨v, z, rfl, hw, hss, hz, h3, k⟩ := h
  refine ⟨_, pss_one (ps_ret (pe_call GN hr (by rfl) mN kN bN .nil pass0 (pa_cons (pv 0) (pa_cons pe_non (pa_cons pe_non (pa_cons pe_non pa_nil)))))), ?_⟩
  exact s_ret (ev_call (ea_cons (ev_var rfl) (ea_cons ev_c (ea_cons ev_c (ea_cons ev_c ea_nil)))) fun H1 e Q q E => ⟨v, z, rfl, hw.ext e, hss, hz, h3, q⟩) k
end
end K23

set_option Elab.async false
set_option linter.all false
set_option maxRecDepth 100000
set_option maxHeartbeats 4000000
/-! An own error raised; checked words. -/
namespace K23
open PySem PySem.Spec PyProof.Rows L2 Evl
/-- what __init__ leaves of a new error -/
def spI (K : PySem.W.Frag) : Sp := fun vs H Q _ => ∃ (a C : Addr) (x : V), vs = [.ref a, x] ∧ OexC K C ∧ PySem.W.findIn K (.ref C) "thing" = some none ∧ H a = some (exo a C none) ∧
  ∀ d, H d = none → d ≠ a → Q .non (upd (upd H d (exd d [("thing", x)])) a (exo a C (some d)))
section
variable {P : Program} {w : World} {K : PySem.W.Frag} {mg : Str → Option Value} {base : Heap} {qual : Str} {params : Arguments} {scope : Scope} {fI : Addr} {fd : FuncData} {p1 p2 p3 p4 : Pos}
theorem vis_of {N ps : List Str} {sc : Scope} (S : FnScope N ps sc) {x : Str} (h : x ∈ ps) : Vis sc x := by
  rcases S.par x h with q | q
  · exact .inl q
  · exact .inr (.inl q)
theorem ok_init (F : FunD K "__init__" qual params [.Assign [.Attribute (.Name "self" p1) "thing" p2] (.Name "thing" p3) p4] scope [] [] fI fd) (S : FnScope ["self", "thing"] ["self", "thing"] scope) : FnOk P w K mg base CX0 1 fI fd ["self", "thing"] (spI K) := by
  refine F.ok S (fun vs H Q E hs => ?_) (fun cdv A outer s H vs Q E hr hs => ?_)
  · obtain ⟨a, C, x, rfl, _⟩ := hs
    rfl
  · obtain ⟨a, C, x, rfl, T, hno, ha, k⟩ := hs
    refine ⟨_, PSs.nox (pss_one (ps_ost (pe_var (i := 0) rfl (vis_of S (by simp))) (pe_var (i := 1) rfl (vis_of S (by simp))))), ?_⟩
    exact ⟨_, rfl, _, rfl, a, C, rfl, T, hno, .inl ⟨ha, fun dx n ne => k dx n ne⟩⟩
end
/-- raise x(e) -/
def tRz (K : PySem.W.Frag) (C : Addr) (W : WX) (te : TE) : TS := fun _ σ H => tMkO C (spI K) [] (tCons te tNil) σ H fun cls d H' => W cls d σ H'
theorem ps_raiseE {X : Cx} {x : Str} {W : WX} {a : Expr} {te : TE} {p pos pos2 : Pos} (hc : X.calm = true) (T : ErrC X.prog X.w X.K X.mg X.base x) (tk : Takes X W) (hr : Room 2 X.A) (ha : PE X a te) (hg : Gl X x := by rfl)
    (hdb : (x == ("__debug__" : Str)) = false := by decide) (he : starEach (a :: []) X.env = (false, eval a X.env) :: starEach [] X.env := by rfl) (hpl : (backTo pos (starEach [] X.env)).any (·.1) = false := by rfl) :
    PS X (.Raise (some (.Call (.Name x p) [a] [] pos)) none pos2) (tRz X.K (He.ga X.K x) W te) := by
  obtain ⟨fI, fd, p1, p2, p3, p4, params, scope, qual, iC, tI, F, S, B⟩ := T.ini
  have G1 := ok_init (P := X.prog) (w := X.w) (mg := X.mg) (base := X.base) F S
  exact ps_raise hc tk (pmk_oex T.oex iC tI G1 hr B .nil pass0 hg T.gl (pa_cons ha pa_nil he) hdb he hpl)
theorem s_raise {P : Program} {w : World} {K : PySem.W.Frag} {mg : Str → Option Value} {base : Heap} {x : Str} {σ : L2.St} {H : Hp} {te : TE} {v : V} {W : WX} {D : Ends} (T : ErrC P w K mg base x) (h : Ev te σ H v)
    (q : ∀ (d : Addr) (G : Hp), Ex H G → G d = some (.xd [("thing", v)]) → W (.ref (He.ga K x)) (some d) σ G) : tRz K (He.ga K x) W te D σ H :=
  h H (Ex.refl H) _ fun H1 e1 => ⟨by show 1 ≤ 1000; decide, fun a na => ⟨a, _, v, rfl, T.oex, T.no, upd_same, fun d nd ne => ⟨rfl, d, [("thing", v)], upd_same, by rw [upd_ne ne, upd_same], by
    rw [upd_ne ne] at nd
    exact nd, q d _ (fun b o e => by
      rw [upd_ne ne] at nd
      have e2 := e1 _ _ e
      have nbd : b ≠ d := ne_of_none e2 nd
      have nba : b ≠ a := ne_of_none e2 na
      rw [upd_ne nbd, del_ne nba, upd_ne nba, upd_ne nbd, upd_ne nba]
      exact e2) upd_same⟩⟩⟩
/-- a word or an atom, all in it known -/
structure Rd (H : Hp) (v : V) (o : O) : Prop where
  ov : OV H v o
  ss : o.ss = true
  sz : o.sz ≤ 900
  e3 : o.e3 = true
theorem Rd.ext {H G : Hp} {v : V} {o : O} (e : Ex H G) (h : Rd H v o) : Rd G v o := ⟨h.ov.ext e, h.ss, h.sz, h.e3⟩
section
variable {P : Program} {w : World} {K : PySem.W.Frag} {mg : Str → Option Value} {base : Heap}
/-- an error that keeps v -/
def Bad (K : PySem.W.Frag) (x : Str) (v : V) (H : Hp) (E : XK) : Prop := ∀ (d : Addr) (G : Hp), Ex H G → G d = some (.xd [("thing", v)]) → E (.ref (He.ga K x)) (some d) G
def spCw (K : PySem.W.Frag) : Sp := fun vs H Q E => ∃ v o, vs = [v] ∧ Rd H v o ∧ (o.fitW = true → ∀ (u : V) (G : Hp), Ex H G → OV G u o.strip → Q u G) ∧ (o.fitW = false → Bad K "BadWord" v H E)
theorem sc_cw : FnScope ["thing"] ["thing"] (defScope s_checked_word) := ⟨rfl, rfl, rfl, by decide +kernel, rfl, by decide +kernel, by decide +kernel⟩
theorem ok_checked_word (T : T23 P w K mg base) : Ok P w K mg base (L2.CX P w) "checked_word" ["thing"] 7 (spCw K) := by
  obtain ⟨fN, dN, GN, bN, kN, mN⟩ := (ok_is_any_word T).ex
  obtain ⟨fA, dA, GA, bA, kA, mA⟩ := (ok_is_any_atom T).ex
  obtain ⟨fF, dF, GF, bF, kF, mF⟩ := (ok_frozen T).ex
  refine T.okX 18 rfl sc_cw (fun vs H Q E h => ?_) (fun kV doc pm an cdv ct us hl => match us, hl with | [_], _ => rfl) (fun f cdv A outer s H vs Q E hr h => ?_)
  · obtain ⟨v, z, rfl, _⟩ := h
    rfl
  · obtain ⟨v, z, rfl, hw, k1, k2⟩ := h
    refine ⟨_, pss_cons (ps_if (PW.pt (pw_and (pt_not (pt_val (pe_call GN hr (by rfl) mN kN bN .nil pass0 (pa_cons (pv 0) pa_nil)))) (pw_and1 (pt_not (pt_val (pe_call GA hr (by rfl) mA kA bA .nil pass0 (pa_cons (pv 0) pa_nil)))))))
        (pss_one (ps_raiseE rfl T.bw (takes_of rfl rfl rfl rfl) (hr.mono (by decide)) (pv 0))) pss_nil)
      (pss_one (ps_ret (pe_call GF (hr.mono (by decide)) (by rfl) mF kF bF .nil pass0 (pa_cons (pv 0) pa_nil)))), ?_⟩
    refine q_when (b := !z.fit && !z.fitA) (et_and (et_not (et_B (ev_call (ea_cons (ev_var rfl) ea_nil) (spv_F0 hw.ov hw.ss hw.sz hw.e3)))) fun _ => et_not (et_B (ev_call (ea_cons (ev_var rfl) ea_nil) (spv_F0 hw.ov hw.ss hw.sz hw.e3)))) (fun hb H1 e1 => ?_) fun hb H1 e1 => ?_
    · have hno : z.fitW = false := by
        unfold O.fitW
        cases h1 : z.fit <;> cases h2 : z.fitA <;> simp_all
      exact s_raise T.bw (ev_var rfl) fun d G e hd => k2 hno d G (e1.trans e) hd
    · have hyes : z.fitW = true := by
        unfold O.fitW
        cases h1 : z.fit <;> cases h2 : z.fitA <;> simp_all
      have hsz := hw.sz
      refine ev_var (v := v) rfl H1 (Ex.refl _) _ fun H2 e2 => ?_
      exact ⟨v, z, rfl, hw.ov.ext (e1.trans e2), by omega, fitW_nod hyes, fun u G e hu => k1 hyes u G ((e1.trans e2).trans e) hu⟩
end
end K23

set_option Elab.async false
set_option linter.all false
set_option maxRecDepth 100000
set_option maxHeartbeats 4000000
/-! Right words as trees; places in them. -/
namespace K23
open PySem PySem.Spec PyProof.Rows L2 Evl
inductive W where
  | v (s : Str) | n (s : Str) (as : List W)
mutual
def W.o : W → O
  | .v s => .str s
  | .n s as => .tup (.str s :: W.os as)
def W.os : List W → List O
  | [] => []
  | x :: xs => x.o :: W.os xs
end
mutual
def W.dp : W → Nat
  | .v _ => 0
  | .n _ as => W.dps as + 1
def W.dps : List W → Nat
  | [] => 0
  | x :: xs => max x.dp (W.dps xs)
end
mutual
def W.sz : W → Nat
  | .v _ => 1
  | .n _ as => W.szs as + 2
def W.szs : List W → Nat
  | [] => 0
  | x :: xs => x.sz + W.szs xs
end
def WV (H : Hp) (u : V) (w : W) : Prop := OV H u w.o
def WVs (H : Hp) (us : List V) (ws : List W) : Prop := OVs H us (W.os ws)
mutual
theorem W.noL : ∀ w : W, w.o.hasL = false
  | .v _ => rfl
  | .n _ as => by show (false || O.hasLs (W.os as)) = false; rw [W.noLs as]; rfl
theorem W.noLs : ∀ ws : List W, O.hasLs (W.os ws) = false
  | [] => rfl
  | x :: xs => by show (x.o.hasL || O.hasLs (W.os xs)) = false; rw [W.noL x, W.noLs xs]; rfl
end
mutual
theorem W.nod : ∀ w : W, w.o.nod = true
  | .v _ => rfl
  | .n _ as => by show (true && O.nods (W.os as)) = true; rw [W.nods as]; rfl
theorem W.nods : ∀ ws : List W, O.nods (W.os ws) = true
  | [] => rfl
  | x :: xs => by show (x.o.nod && O.nods (W.os xs)) = true; rw [W.nod x, W.nods xs]; rfl
end
mutual
theorem W.osz : ∀ w : W, w.o.sz = w.sz
  | .v _ => rfl
  | .n _ as => by show (1 + O.szs (W.os as)) + 1 = W.szs as + 2; rw [W.oszs as]; omega
theorem W.oszs : ∀ ws : List W, O.szs (W.os ws) = W.szs ws
  | [] => rfl
  | x :: xs => by show x.o.sz + O.szs (W.os xs) = x.sz + W.szs xs; rw [W.osz x, W.oszs xs]
end
theorem W.os_map : ∀ ws : List W, W.os ws = ws.map W.o
  | [] => rfl
  | x :: xs => congrArg (x.o :: ·) (W.os_map xs)
section
variable {H G : Hp} {u : V} {w : W}
theorem WV.tx (e : Tx H G) (h : WV H u w) : WV G u w := OV.tx e w.noL w.nod h
theorem WV.ext (e : Ex H G) (h : WV H u w) : WV G u w := OV.ext e h
theorem WVs.tx {us : List V} {ws : List W} (e : Tx H G) (h : WVs H us ws) : WVs G us ws := OVs.tx e (W.noLs ws) (W.nods ws) h
theorem WVs.ext {us : List V} {ws : List W} (e : Ex H G) (h : WVs H us ws) : WVs G us ws := OVs.ext e h
theorem WVs.length {us : List V} {ws : List W} (h : WVs H us ws) : us.length = ws.length := by
  rw [OVs.length h, W.os_map, List.length_map]
theorem WVs.get {us : List V} {ws : List W} {i : Nat} {x : W} (h : WVs H us ws) (e : ws[i]? = some x) : ∃ v, us[i]? = some v ∧ WV H v x :=
  OVs.geto h (by rw [W.os_map, List.getElem?_map, e]; rfl)
theorem WVs.getv {us : List V} {ws : List W} {i : Nat} {v : V} (h : WVs H us ws) (e : us[i]? = some v) : ∃ x, ws[i]? = some x ∧ WV H v x := by
  obtain ⟨o, a, b⟩ := OVs.get h e
  rw [W.os_map, List.getElem?_map] at a
  obtain ⟨x, hx, rfl⟩ := Option.map_eq_some_iff.mp a
  exact ⟨x, hx, b⟩
/-- what is no variable is a tuple: its name, its parts -/
theorem WV.tup {s : Str} {as : List W} (h : WV H u (.n s as)) : ∃ r us, u = .ref r ∧ H r = some (.tup (.str s :: us)) ∧ WVs H us as := by
  obtain ⟨r, vs, e, h1, v0, us, e2, h0, h2⟩ := h
  subst e2
  obtain rfl : v0 = .str s := h0
  exact ⟨r, us, e, h1, h2⟩
theorem WV.of {s : Str} {as : List W} {r : Addr} {us : List V} (h : H r = some (.tup (.str s :: us))) (k : WVs H us as) : WV H (.ref r) (.n s as) := ⟨r, _, rfl, h, _, _, rfl, rfl, k⟩
theorem WV.str {s : Str} (h : WV H u (.v s)) : u = .str s := h
end
theorem W.lt_dp : ∀ {as : List W} {i : Nat} {x : W}, as[i]? = some x → x.dp ≤ W.dps as
  | [], _, _, e => by simp at e
  | a :: as, 0, x, e => by
    obtain rfl : a = x := by simpa using e
    exact Nat.le_max_left _ _
  | a :: as, i + 1, x, e => Nat.le_trans (W.lt_dp (as := as) (i := i) (by simpa using e)) (Nat.le_max_right _ _)
theorem W.lt_sz : ∀ {as : List W} {i : Nat} {x : W}, as[i]? = some x → x.sz ≤ W.szs as
  | [], _, _, e => by simp at e
  | a :: as, 0, x, e => by
    obtain rfl : a = x := by simpa using e
    exact Nat.le_add_right _ _
  | a :: as, i + 1, x, e => Nat.le_trans (W.lt_sz (as := as) (i := i) (by simpa using e)) (Nat.le_add_left _ _)
/-- the part at a place -/
def W.at : W → List Nat → Option W
  | w, [] => some w
  | .v _, _ :: _ => none
  | .n _ as, i :: p => match as[i]? with
    | some x => x.at p
    | none => none
section
variable {K : PySem.W.Frag} {σ : L2.St} {H G : Hp} {te ta tb tl : TE} {v : V} {D : Ends} {tz tu : TS} {tt : TT}
/-- over a list or a tuple -/
abbrev iQ (K : PySem.W.Frag) (tl : TE) : TI := fun σ H R => iList K tl σ H R ∨ iTup K tl σ H R
theorem pi_or {X : Cx} {tg e : Expr} {i1 i2 : TI} (h1 : PI X tg e i1) (h2 : PI X tg e i2) : PI X tg e (fun σ H R => i1 σ H R ∨ i2 σ H R) :=
  ⟨fun pins s σ H R I h => h.elim (h1.run pins s σ H R I) (h2.run pins s σ H R I)⟩
theorem pi_seq {X : Cx} {tg l : Expr} (hl : PE X l tl) : PI X tg l (iQ X.K tl) := pi_or (pi_list hl) (pi_tup hl)
theorem q_forQ {b : Bool} {a : Addr} {xs : List V} {j : Nat} (h : Ev tl σ H (.ref a)) (hx : SqB H b a xs) (Pv : Nat → L2.St → Hp → Prop) (h0 : ∀ H1, Ex H H1 → Pv 0 σ H1) (hl : ∀ i σ' H', i ≤ xs.length → Pv i σ' H' → SqB H' b a xs)
    (hs : ∀ i x σ' H', xs[i]? = some x → Pv i σ' H' → tu { D with nx := Pv (i + 1), ct := Pv (i + 1), bk := tz D } (σ'.set j (some x)) H') (hd : ∀ σ' H', Pv xs.length σ' H' → tz D σ' H') : tSeq (tFor (iQ K tl) (gName j) tu) tz D σ H := by
  cases b with
  | true => exact .inl (q_forLn h (sq_of hx) Pv h0 (fun i σ' H' hi p => sq_of (hl i σ' H' hi p)) hs hd)
  | false => exact .inr (q_forT h (st_of hx) Pv h0 (fun i σ' H' hi p => st_of (hl i σ' H' hi p)) hs hd)
theorem el_lcQ {b : Bool} {a : Addr} {xs : List V} {j : Nat} {vs : List Nat} (f : Nat → Bool) (g : Nat → V) (h : Ev tl σ H (.ref a)) (hx : SqB H b a xs) (hz : xs.length ≤ 40000) (hw : ∀ x, wipe ((wipe σ vs).set j (some x)) vs = wipe σ vs)
    (ht : ∀ (i : Nat) (x : V) H1, Ex H H1 → xs[i]? = some x → EvT tt ((wipe σ vs).set j (some x)) H1 (f i)) (he : ∀ (i : Nat) (x : V) H1, Ex H H1 → xs[i]? = some x → f i = true → Ev te ((wipe σ vs).set j (some x)) H1 (g i)) :
    EvL (tLc (iQ K tl) (gName j) tt te vs) σ H (given xs.length f g) := by
  cases b with
  | true => exact fun H1 e Q q => .inl (el_lcL f g h (sq_of hx) hz hw ht he H1 e Q q)
  | false =>
    exact fun H0 e Q q => .inr (h H0 e _ fun H1 e1 => ⟨a, rfl, ⟨xs, ex_t (e.trans e1) (st_of hx)⟩, fun Dl hD =>
      lc_tup (xs := xs) (Cw H1 f g Dl) ⟨hD, Ex.new hD, upd_same⟩ (fun i H' _ p => ex_t ((e.trans e1).trans p.2.1) (st_of hx)) (fun i x H' hi p => ⟨hw x, cw_turn p (by have := (List.getElem?_eq_some_iff.mp hi).1; omega) (ht i x H1 (e.trans e1) hi) (fun hf => he i x H1 (e.trans e1) hi hf)⟩)
        (fun H' p => q Dl H' (fresh_back e1 p.1) (e1.trans p.2.1) p.2.2)⟩)
end
/-- numbers as they stand in a row -/
def nums (p : List Nat) : List V := p.map fun i : Nat => V.int (i : Nat)
theorem nums_len (p : List Nat) : (nums p).length = p.length := by simp [nums]
theorem nums_get {p : List Nat} {i : Nat} {x : V} (h : (nums p)[i]? = some x) : ∃ k, p[i]? = some k ∧ x = .int (k : Int) := by
  unfold nums at h
  rw [List.getElem?_map] at h
  obtain ⟨k, a, b⟩ := Option.map_eq_some_iff.mp h
  exact ⟨k, a, b.symm⟩
section
variable {P : Program} {w : World} {K : PySem.W.Frag} {mg : Str → Option Value} {base : Heap}
def optV (H : Hp) (u : V) : Option W → Prop
  | none => u = .non
  | some x => WV H u x
def spPa : Sp := fun vs H Q _ => ∃ (u : V) (a : Addr) (b : Bool) (z : W) (p : List Nat), vs = [u, .ref a] ∧ WV H u z ∧ SqB H b a (nums p) ∧ ∀ (r : V) (G : Hp), Ex H G → optV G r (z.at p) → Q r G
theorem sc_pa : FnScope ["word", "place", "index"] ["word", "place"] (defScope s_part_at) := ⟨rfl, rfl, rfl, by decide +kernel, rfl, by decide +kernel, by decide +kernel⟩
theorem at_snoc : ∀ {p : List Nat} {z : W} {k : Nat}, z.at (p ++ [k]) = (z.at p).bind fun x => x.at [k]
  | [], z, k => by cases z <;> rfl
  | i :: p, .v s, k => rfl
  | i :: p, .n s as, k => by
    show (match as[i]? with | some x => x.at (p ++ [k]) | none => none) = (match as[i]? with | some x => x.at p | none => none).bind fun x => x.at [k]
    cases as[i]? with
    | none => rfl
    | some x => exact at_snoc (p := p) (z := x)
theorem at_none {z : W} {p r : List Nat} (h : z.at p = none) : z.at (p ++ r) = none := by
  induction r generalizing p with
  | nil => rw [List.append_nil]; exact h
  | cons k r ih =>
    have e : p ++ k :: r = (p ++ [k]) ++ r := by simp
    rw [e]
    refine ih ?_
    rw [at_snoc, h]
    rfl
theorem ok_part_at (T : T23 P w K mg base) : Ok P w K mg base CX0 "part_at" ["word", "place"] 1 spPa := by
  refine T.ok 9 rfl sc_pa (fun vs H Q E h => ?_) (fun kV doc pm an cdv ct us hl => match us, hl with | [_, _], _ => rfl) (fun f cdv A outer s H vs Q E hr h => ?_)
  · obtain ⟨u, a, b, z, p, rfl, _⟩ := h
    rfl
  · obtain ⟨u, a, b, z, p, rfl, hw, ha, k⟩ := h
    refine ⟨_, pss_cons (ps_for PassesOwn.never rfl (pi_seq (pv 1)) (pg_name (i := 2) sc_pa.nd rfl (Or.inl rfl))
        (pss_cons (ps_if (PW.pt (pw_or (pt_val (pe_isiB T.isi T.str PyProof.Rows.boot_str (pv 0))) (pw_or1 (pt_cmpR op_ge (pv 2) (pe_op op_sub (pe_callB call_len (by rfl) T.len PySem.boot_len (pa_cons (pv 0) pa_nil)) pe_int) (nomark _))))) (pss_one (ps_ret pe_non)) pss_nil)
        (pss_one (ps_set (i := 0) sc_pa.nd rfl (Or.inl rfl) (pe_ix ix_tup (pv 0) (pe_op op_add (pv 2) pe_int) (fun _ _ => rfl))))))
      (pss_one (ps_ret (pv 0))), ?_⟩
    refine q_forQ (b := b) (xs := nums p) (ev_var rfl) ha (fun i σ' H' => ∃ (r : V) (o : Option V) (x : W), σ' = [some r, some (.ref a), o] ∧ Ex H H' ∧ WV H' r x ∧ z.at (p.take i) = some x) ?_ ?_ ?_ ?_
    · exact fun H1 e1 => ⟨u, none, z, rfl, e1, hw.ext e1, rfl⟩
    · rintro i σ' H' hi ⟨r, o, x, rfl, e, _⟩
      exact ha.ext e
    · rintro i y σ' H' hy ⟨r, o, x, rfl, e, hx, hat⟩
      obtain ⟨j, hj, rfl⟩ := nums_get hy
      have hpt : p.take (i + 1) = p.take i ++ [j] := take_snoc hj
      have hsplit : p = p.take (i + 1) ++ p.drop (i + 1) := (List.take_append_drop _ _).symm
      have fin : z.at (p.take (i + 1)) = none → z.at p = none := fun q => by
        rw [hsplit]
        exact at_none q
      cases x with
      | v s =>
        obtain rfl : r = .str s := hx
        refine q_when (b := true) (et_is (et_or (a := true) (b := true) (et_B (ev_isStr (o := .str s) (ev_var rfl) rfl)) fun z => nomatch z) rfl) (fun _ H1 e1 => ?_) fun z => nomatch z
        refine s_ret ev_c fun G e2 => k .non G ((e.trans e1).trans e2) ?_
        rw [fin (by rw [hpt, at_snoc, hat]; rfl)]
        rfl
      | n s as =>
        obtain ⟨t, us, rfl, ht, hus⟩ := hx.tup
        have hul := hus.length
        have hlen : (V.str s :: us).length = us.length + 1 := rfl
        refine q_when (b := decide (as.length ≤ j)) (et_is (et_or (a := false) (et_B (ev_isStr (o := .tup (.str s :: W.os as)) (ev_var rfl) ⟨t, _, rfl, ht, _, _, rfl, rfl, hus⟩)) fun _ => et_test (ev_op (ev_var rfl) (ev_op (ev_lenT (ev_var rfl) (st_of ht)) ev_c rv_I0) rv_I0)) ?_) (fun hb H1 e1 => ?_) fun hb H1 e1 => ?_
        · show (false || decide ((j : Int) ≥ (((V.str s :: us).length : Nat) : Int) - 1)) = _
          rw [Bool.false_or]
          by_cases q : as.length ≤ j
          · rw [decide_eq_true q, decide_eq_true (by rw [hlen]; omega)]
          · rw [decide_eq_false q, decide_eq_false (by rw [hlen]; omega)]
        · have hb' := of_decide_eq_true hb
          refine s_ret ev_c fun G e2 => k .non G ((e.trans e1).trans e2) ?_
          rw [fin (by rw [hpt, at_snoc, hat]; show (match as[j]? with | some x => W.at x [] | none => none) = none; rw [List.getElem?_eq_none_iff.mpr hb'])]
          rfl
        · have hb' : j < as.length := by have := of_decide_eq_false hb; omega
          obtain ⟨x', hx'⟩ : ∃ x', as[j]? = some x' := ⟨as[j], by simp [hb']⟩
          obtain ⟨y', hy', hwy⟩ := hus.get hx'
          have ht1 := e1 _ _ ht
          refine s_asg (ev_op (z := y') (y := .int ((j : Int) + 1)) (ev_var rfl) (ev_op (ev_var rfl) ev_c rv_I0) (rv_ixT (st_of ht1) ?_)) fun H2 e2 => ⟨y', _, x', rfl, (e.trans e1).trans e2, (hwy.ext e1).ext e2, ?_⟩
          · show atI (V.str s :: us) ((j : Int) + 1) = some y'
            rw [show ((j : Int) + 1) = ((j + 1 : Nat) : Int) by omega]
            exact atI_nat (j := j + 1) (by simpa using hy')
          · rw [hpt, at_snoc, hat]
            show (match as[j]? with | some x => W.at x [] | none => none) = some x'
            rw [hx']
            cases x' <;> rfl
    · rintro σ' H' ⟨r, o, x, rfl, e, hx, hat⟩
      rw [nums_len, List.take_of_length_le (Nat.le_refl _)] at hat
      refine s_ret (ev_var rfl) fun G e2 => k r G (e.trans e2) ?_
      rw [hat]
      exact hx.ext e2
end
end K23

set_option Elab.async false
set_option linter.all false
set_option maxRecDepth 100000
set_option maxHeartbeats 4000000
/-! All places of a word. -/
namespace K23
open PySem PySem.Spec PyProof.Rows L2 Evl
section
variable {K : PySem.W.Frag} {σ : L2.St} {H G : Hp} {te ta tb tl tk tx : TE} {tt : TT} {v : V} {D : Ends} {tu tz : TS}
theorem s_extLP {l : Addr} {xs : List V} {P : List V → Hp → Prop} (hl : H l = some (.lst xs)) (ha : Ev ta σ H (.ref l)) (hb : EvLP te σ H P) (hs : ∀ zs G, P zs G → xs.length + zs.length ≤ 100000) (k : ∀ zs H1, Ex H H1 → P zs H1 → D.nx σ (upd H1 l (.lst (xs ++ zs)))) :
    tDrop (tBM K "list" rExtend ta (tCons te tNil)) D σ H := ha H (Ex.refl H) _ fun H1 e1 => ⟨.inl ⟨rfl, _, sq_of (e1 l _ hl)⟩, hb H1 e1 _ fun p zs H2 _ e2 hp pz =>
  ⟨l, p, xs, zs, rfl, rfl, e2 l _ (e1 l _ hl), hp, sz_of (hs zs H2 pz), k zs H2 (e1.trans e2) pz⟩⟩
theorem et_yes : EvT tYes σ H true := fun H1 e Q q => q H1 (Ex.refl _)
theorem s_forEnumNT {xs : List V} {j1 j2 : Nat} (h : EvU tl σ H xs) (Pv : Nat → L2.St → Hp → Prop) (h0 : ∀ H1, Ex H H1 → Pv 0 σ H1)
    (hs : ∀ (i : Nat) x σ' H' H2, xs[i]? = some x → Pv i σ' H' → Ex H' H2 → ∀ N : L2.St → Hp → Prop, (∀ σ3 H3, Pv (i + 1) σ3 H3 → Tx H2 H3 → N σ3 H3) → tu { D with nx := N, ct := N, bk := D.nx } ((σ'.set j1 (some (.int i))).set j2 (some x)) H2) (hd : ∀ σ' H', Pv xs.length σ' H' → D.nx σ' H') : tFor (iEnumT K (tCons tl tNil)) (gPair K j1 j2) tu D σ H :=
  q_forEnumNT (D := D) (tz := fun D => D.nx) h Pv h0 hs hd
end
theorem filter_true (l : List Nat) : (l.filter fun _ => true) = l := List.filter_eq_self.mpr fun _ _ => rfl
theorem A2.of_get {α β : Type} {R : α → β → Prop} : ∀ {as : List α} {bs : List β}, as.length = bs.length → (∀ (i : Nat) a b, as[i]? = some a → bs[i]? = some b → R a b) → A2 R as bs
  | [], [], _, _ => trivial
  | a :: as, b :: bs, h, k => ⟨k 0 a b rfl rfl, A2.of_get (Nat.succ.inj h) fun i x y e1 e2 => k (i + 1) x y (by simpa using e1) (by simpa using e2)⟩
  | [], _ :: _, h, _ => nomatch h
  | _ :: _, [], h, _ => nomatch h
theorem a2_range {β : Type} {R : V → β → Prop} {L : List β} {n : Nat} {acc : List V} (hn : n = L.length) (h : A2 (fun j y => ∃ q, L[j]? = some q ∧ R y q) (List.range n) acc) : A2 R acc L := by
  have hl := h.length
  rw [List.length_range] at hl
  refine A2.of_get (by omega) fun i a b e1 e2 => ?_
  obtain ⟨j, hj, q, hq, hr⟩ := h.getb e1
  have hil : i < n := by have := (List.getElem?_eq_some_iff.mp e1).1; omega
  rw [List.getElem?_range hil] at hj
  obtain rfl : i = j := Option.some.inj hj
  rw [hq] at e2
  obtain rfl : q = b := Option.some.inj e2
  exact hr
mutual
def W.parts : W → List (List Nat × W)
  | .v s => [([], .v s)]
  | .n s as => ([], .n s as) :: W.partsL 0 as
def W.partsL : Nat → List W → List (List Nat × W)
  | _, [] => []
  | i, a :: as => (a.parts.map fun q => (i :: q.1, q.2)) ++ W.partsL (i + 1) as
end
theorem W.partsL_snoc : ∀ (xs : List W) (x : W) (j : Nat), W.partsL j (xs ++ [x]) = W.partsL j xs ++ x.parts.map fun q => ((j + xs.length) :: q.1, q.2)
  | [], x, j => by simp [W.partsL]
  | y :: ys, x, j => by
    show (y.parts.map fun q => (j :: q.1, q.2)) ++ W.partsL (j + 1) (ys ++ [x]) = ((y.parts.map fun q => (j :: q.1, q.2)) ++ W.partsL (j + 1) ys) ++ _
    rw [W.partsL_snoc ys x (j + 1), List.append_assoc]
    have e : j + 1 + ys.length = j + (y :: ys).length := by simp; omega
    rw [e]
mutual
theorem W.parts_len : ∀ w : W, w.parts.length ≤ w.sz
  | .v _ => Nat.le_refl _
  | .n _ as => by
    have := W.partsL_len 0 as
    show (W.partsL 0 as).length + 1 ≤ W.szs as + 2
    omega
theorem W.partsL_len : ∀ (i : Nat) (ws : List W), (W.partsL i ws).length ≤ W.szs ws
  | _, [] => Nat.le_refl _
  | i, x :: xs => by
    have h1 := W.parts_len x
    have h2 := W.partsL_len (i + 1) xs
    show ((x.parts.map _) ++ W.partsL (i + 1) xs).length ≤ x.sz + W.szs xs
    rw [List.length_append, List.length_map]
    omega
end
mutual
theorem W.parts_deep : ∀ (w : W) (q : List Nat × W), q ∈ w.parts → q.1.length ≤ w.dp
  | .v _, q, h => by
    obtain rfl : q = _ := by simpa [W.parts] using h
    exact Nat.le_refl _
  | .n s as, q, h => by
    rcases List.mem_cons.mp h with rfl | h
    · exact Nat.zero_le _
    · exact W.partsL_deep 0 as q h
theorem W.partsL_deep : ∀ (i : Nat) (ws : List W) (q : List Nat × W), q ∈ W.partsL i ws → q.1.length ≤ W.dps ws + 1
  | _, [], q, h => nomatch h
  | i, x :: xs, q, h => by
    rcases List.mem_append.mp h with h | h
    · obtain ⟨r, hr, rfl⟩ := List.mem_map.mp h
      have h1 := W.parts_deep x r hr
      have h2 : x.dp ≤ W.dps (x :: xs) := Nat.le_max_left _ _
      show r.1.length + 1 ≤ _
      omega
    · have h1 := W.partsL_deep (i + 1) xs q h
      have h2 : W.dps xs ≤ W.dps (x :: xs) := Nat.le_max_right _ _
      omega
end
/-- what is told of a place: its list, B of it -/
def PlV (B : Addr → Prop) (H : Hp) (x : V) (p : List Nat) : Prop := ∃ l, x = .ref l ∧ B l ∧ H l = some (.lst (nums p))
theorem PlV.mut {B B' : Addr → Prop} {H G : Hp} {x : V} {p : List Nat} (h : PlV B H x p) (l : ∀ a o, B a → H a = some o → G a = some o) (b : ∀ a, B a → B' a) : PlV B' G x p := by
  obtain ⟨a, rfl, h1, h2⟩ := h
  exact ⟨a, rfl, b _ h1, l _ _ h1 h2⟩
section
variable {P : Program} {w : World} {K : PySem.W.Frag} {mg : Str → Option Value} {base : Heap}
def plc (z : W) : List (List Nat) := z.parts.map (·.1)
def plcL (i : Nat) (ws : List W) : List (List Nat) := (W.partsL i ws).map (·.1)
theorem plcL_snoc (xs : List W) (x : W) : plcL 0 (xs ++ [x]) = plcL 0 xs ++ (plc x).map fun p => xs.length :: p := by
  unfold plcL plc
  rw [W.partsL_snoc, List.map_append, List.map_map, List.map_map, Nat.zero_add]
  rfl
def spPi (m : Nat) : Sp := fun vs H Q _ => ∃ v z, vs = [v] ∧ WV H v z ∧ z.dp < m ∧ m ≤ 40 ∧ z.sz ≤ 1000 ∧
  ∀ p xs H', H p = none → Ex H H' → H' p = some (.lst xs) → A2 (PlV (fun l => H l = none ∧ l ≠ p) H') xs (plc z) → Q (.ref p) H'
abbrev nPi : List Str := ["word", "told", "index", "part", "place"]
theorem sc_pi : FnScope nPi ["word"] (defScope s_places_in) := ⟨rfl, rfl, rfl, by decide +kernel, rfl, by decide +kernel, by decide +kernel⟩
theorem ok_places_in (T : T23 P w K mg base) : ∀ m, Ok P w K mg base CX0 "places_in" ["word"] (m + 1) (spPi m)
  | 0 => T.ok 20 rfl sc_pi (fun vs H Q E h => by obtain ⟨v, z, rfl, _⟩ := h; rfl) (fun kV doc pm an cdv ct us hl => match us, hl with | [_], _ => rfl) (fun f cdv A outer s H vs Q E hr h => by obtain ⟨v, z, _, _, h0, _⟩ := h; exact absurd h0 (Nat.not_lt_zero _))
  | m + 1 => by
    obtain ⟨fR, dR, GR, bR, kR, mR⟩ := (ok_places_in T m).ex
    refine T.ok 20 rfl sc_pi (fun vs H Q E h => ?_) (fun kV doc pm an cdv ct us hl => match us, hl with | [_], _ => rfl) (fun f cdv A outer s H vs Q E hr h => ?_)
    · obtain ⟨v, z, rfl, _⟩ := h
      rfl
    · obtain ⟨v, z, rfl, hw, hz, hm, hs, k⟩ := h
      refine ⟨_, pss_cons (ps_set (i := 1) sc_pi.nd rfl (Or.inl rfl) (pe_lst (pa_cons (pe_lst pa_nil) pa_nil)))
        (pss_cons (ps_if (pt_not (pt_val (pe_isiB T.isi T.str PyProof.Rows.boot_str (pv 0))))
          (pss_one (ps_for PassesOwn.never rfl (pi_enumT (by rfl) T.enumerate (pa_cons (pe_slice sl_tup (pv 0) (po_some pe_int) po_none) pa_nil)) (pg_tup rfl (pgs_cons (pg_name (i := 2) sc_pi.nd rfl (Or.inr rfl)) (pgs_cons (pg_name (i := 3) sc_pi.nd rfl (Or.inl rfl)) pgs_nil)))
            (pss_one (ps_expr (pe_bm PySem.F.plainAttrs_list PySem.F.slot_list_extend PySem.F.type_list_extend mt_extend (pv 1) (pa_cons
              (pe_lc (own := [("place", 4)]) (g := gName 4) (tt := tYes) (te := tOp rCat (tLst (tCons (tVar 2) tNil)) (tVar 4)) rfl sc_pi.nd (pi_list (pe_call GR hr (by rfl) mR kR bR .nil pass0 (pa_cons (pv 3) pa_nil))) (blkOk_by (N := nPi) (sc := defScope s_places_in) (by decide +kernel))
                (fun _ _ _ _ _ => pg_name (i := 4) sc_pi.nd rfl (Or.inl rfl)) (fun _ _ _ _ _ => pts_nil)
                (fun _ _ _ _ _ => pe_op op_cat (pe_lst (pa_cons (pv 2) pa_nil)) (pv 4))) pa_nil)))))) pss_nil)
        (pss_one (ps_ret (pv 1)))), ?_⟩
      refine ⟨Nat.zero_le _, fun l hl => ⟨by show 1 ≤ sizeLine; decide, fun p hp => ?_⟩⟩
      have e1 : Ex H (upd H l (.lst [])) := Ex.new hl
      have e3 := e1.trans (Ex.new (o := .lst [.ref l]) hp)
      have hp0 : H p = none := fresh_back e1 hp
      have hlp : l ≠ p := by
        intro q
        rw [← q, upd_same] at hp
        cases hp
      have first : PlV (fun l => H l = none ∧ l ≠ p) (upd (upd H l (.lst [])) p (.lst [.ref l])) (.ref l) [] :=
        ⟨l, rfl, ⟨hl, hlp⟩, by rw [upd_ne hlp, upd_same]; rfl⟩
      have keep : ∀ {G1 G2 : Hp} {xs : List V} {L : List (List Nat)}, A2 (PlV (fun l => H l = none ∧ l ≠ p) G1) xs L → (∀ a o, a ≠ p → G1 a = some o → G2 a = some o) → A2 (PlV (fun l => H l = none ∧ l ≠ p) G2) xs L :=
        fun h e => h.mono fun a b q => q.mut (fun c o q1 q2 => e c o q1.2 q2) fun _ q => q
      cases z with
      | v sv =>
        obtain rfl : v = .str sv := hw
        refine q_when (b := false) (et_not (a := true) (et_B (ev_isStr (o := .str sv) (ev_var rfl) rfl))) (fun z => nomatch z) fun _ H1 e4 => ?_
        refine s_ret (ev_var rfl) fun H2 e5 => k p [.ref l] H2 hp0 ((e3.trans e4).trans e5) (e5 _ _ (e4 _ _ upd_same)) ?_
        exact keep (G1 := upd (upd H l (.lst [])) p (.lst [.ref l])) ⟨first, trivial⟩ fun a o _ q => e5 _ _ (e4 _ _ q)
      | n sn as =>
        obtain ⟨r, us, rfl, hr1, hu⟩ := hw.tup
        have hul := hu.length
        have hdp : W.dps as < m := by have : (W.n sn as).dp = W.dps as + 1 := rfl; omega
        have hsz : W.szs as + 2 ≤ 1000 := hs
        refine q_when (b := true) (et_not (a := false) (et_B (ev_isStr (o := (W.n sn as).o) (ev_var rfl) (hw.ext e3)))) (fun _ H1 e4 => ?_) (fun z => nomatch z)
        have e04 := e3.trans e4
        refine s_forEnumNT (eu_tail (ev_var rfl) (st_of (e04 _ _ hr1))) (fun i σ' H' => Ex H H' ∧ (∃ a b : Option V, σ' = [some (.ref r), some (.ref p), a, b, none]) ∧ ∃ xs, H' p = some (.lst xs) ∧ A2 (PlV (fun l => H l = none ∧ l ≠ p) H') xs ([] :: plcL 0 (as.take i))) ?_ ?_ ?_
        · intro H2 e5
          refine ⟨e04.trans e5, ⟨none, none, rfl⟩, [.ref l], e5 _ _ (e4 _ _ upd_same), ?_⟩
          exact keep (G1 := upd (upd H l (.lst [])) p (.lst [.ref l])) ⟨first, trivial⟩ fun a o _ q => e5 _ _ (e4 _ _ q)
        · rintro i x σ' H' H2 hx ⟨e5, ⟨a, b, rfl⟩, xs, h5, hP⟩ e6 N hN
          have e06 := e5.trans e6
          have h6 := e6 _ _ h5
          obtain ⟨y, hy, hwy⟩ := (hu.ext e06).getv hx
          have hyd := W.lt_dp hy
          have hys := W.lt_sz hy
          have hlenx := hP.length
          have hpl := W.partsL_len 0 (as.take i)
          have htk : W.szs (as.take i) ≤ W.szs as := by
            have : ∀ (l : List W) (n : Nat), W.szs (l.take n) ≤ W.szs l := by
              intro l
              induction l with
              | nil => intro n; simp [W.szs]
              | cons c l ih =>
                intro n
                cases n with
                | zero => exact Nat.zero_le _
                | succ n => show c.sz + W.szs (l.take n) ≤ c.sz + W.szs l; have := ih n; omega
            exact this as i
          have hxl : xs.length ≤ 1001 := by
            rw [hlenx]
            show (plcL 0 (as.take i)).length + 1 ≤ 1001
            unfold plcL
            rw [List.length_map]
            omega
          refine s_extLP (P := fun zs G => A2 (PlV (fun l => H2 l = none) G) zs ((plc y).map fun q => i :: q)) h6 (ev_var rfl) ?_ (fun zs G q => ?_) fun zs H3 e7 q => ?_
          · intro H3 e7 Q3 q3
            refine ⟨x, rfl, x, y, rfl, hwy.ext e7, by omega, by omega, by omega, fun pq ps H5 hpq e9 h9 hparts => ?_⟩
            have hpln := hparts.length
            have hpl2 : (plc y).length ≤ y.sz := by unfold plc; rw [List.length_map]; exact W.parts_len y
            refine ⟨pq, rfl, ⟨ps, sq_of h9⟩, fun Dl hD => lc_it walk_list (Cwp H5 (fun _ => true) (fun j v G => ∃ q, (plc y)[j]? = some q ∧ PlV (fun l => H2 l = none ∧ l ≠ Dl) G v (i :: q)) Dl) (cwp0 hD) (fun i G _ c => sq_of (c.2.1 _ _ h9)) ?_ ?_⟩
            · rintro j v G G' hj c ⟨rfl, hv⟩
              obtain ⟨q5, hq5, l5, rfl, k1, k2⟩ := hparts.get hv
              have eG := c.2.1
              obtain ⟨acc, hacc, _⟩ := c.2.2
              refine ⟨rfl, cwp_turn (fun _ v => ?_) c (Ex.refl _) (by omega) et_yes (fun _ G3 e10 => ?_)⟩
              · intro G1 G2 xs1 a0 a1 a2 a3 ⟨q, hq, hp⟩
                exact ⟨q, hq, hp.mut (fun a o q1 q2 => a3 a o q1.2 q2) fun _ q => q⟩
              · intro G4 e11 Q4 q4
                have e12 := (eG.trans e10).trans e11
                refine ⟨_, rfl, by show 1 ≤ sizeLine; decide, fun l6 hl6 => ⟨_, rfl, l6, l5, _, nums q5, rfl, rfl, upd_same, Ex.new hl6 _ _ (e12 _ _ k2), sz_of ?_, fun l7 hl7 => ?_⟩⟩
                · have hq6 := List.mem_of_getElem? hq5
                  obtain ⟨q7, hq7, rfl⟩ := List.mem_map.mp hq6
                  have := W.parts_deep y q7 hq7
                  rw [nums_len]
                  simp
                  omega
                have x6 : Ex G4 (upd G4 l6 (.lst [.int i])) := Ex.new hl6
                have h47 : G4 l7 = none := fresh_back x6 hl7
                refine q4 _ _ (x6.trans (Ex.new hl7)) ⟨q5, hq5, l7, rfl, ⟨fresh_back (((e7.trans e9).trans e12)) h47, fun z => ?_⟩, upd_same⟩
                rw [z, e11 _ _ (e10 _ _ hacc)] at h47
                cases h47
            · rintro G c
              obtain ⟨acc, hacc, hal, ha2⟩ := c.2.2
              rw [filter_true] at ha2
              refine q3 Dl acc G (fresh_back e9 c.1) (e9.trans c.2.1) hacc ?_
              have h3 : A2 (fun v q => PlV (fun l => H2 l = none ∧ l ≠ Dl) G v (i :: q)) acc (plc y) := a2_range hpln ha2
              refine A2.of_get (by rw [List.length_map]; exact h3.length) fun j a b e1 e2 => ?_
              obtain ⟨q, hq, hr⟩ := h3.get e1
              rw [List.getElem?_map, hq] at e2
              obtain rfl : i :: q = b := Option.some.inj e2
              exact hr.mut (fun _ _ _ q => q) fun _ q => q.1
          · have := q.length
            rw [List.length_map] at this
            have hpl2 : (plc y).length ≤ y.sz := by unfold plc; rw [List.length_map]; exact W.parts_len y
            omega
          · refine hN _ _ ⟨Ex.mut (e06.trans e7) hp0, ⟨_, _, rfl⟩, xs ++ zs, upd_same, ?_⟩ ((Tx.of e7).trans (Tx.lst (e7 _ _ h6)))
            rw [take_snoc hy, plcL_snoc, List.length_take, Nat.min_eq_left (by have := (List.getElem?_eq_some_iff.mp hy).1; omega)]
            refine A2.append (as := xs) (bs := [] :: plcL 0 (as.take i)) ?_ ?_
            · refine keep hP fun a o nn q => ?_
              rw [upd_ne nn]
              exact e7 _ _ (e6 _ _ q)
            · refine q.mono fun a b q => q.mut (fun c o q1 q2 => ?_) fun c q1 => ⟨fresh_back e06 q1, fun z => ?_⟩
              · rw [upd_ne (fun z => by rw [z, h6] at q1; cases q1)]
                exact q2
              · rw [z, h6] at q1
                cases q1
        · rintro σ' H' ⟨e5, ⟨a, b, rfl⟩, xs, h5, hP⟩
          rw [hul, List.take_length] at hP
          exact s_ret (ev_var rfl) fun H2 e6 => k p xs H2 hp0 (e5.trans e6) (e6 _ _ h5) (keep hP fun a o _ q => e6 _ _ q)
end
end K23

set_option Elab.async false
set_option linter.all false
set_option maxRecDepth 100000
set_option maxHeartbeats 4000000
/-! places, word_at. -/
namespace K23
open PySem PySem.Spec PyProof.Rows L2 Evl
/-- numbers told by any object: a list or a tuple of them -/
def numL : List O → Option (List Nat)
  | [] => some []
  | .int i :: r => if 0 ≤ i then (numL r).map (i.toNat :: ·) else none
  | _ :: _ => none
def O.numQ : O → Option (List Nat)
  | .lst xs => numL xs
  | .tup xs => numL xs
  | _ => none
def goodP (z : W) (o : O) : Bool := match o.numQ with
  | some p => (z.at p).isSome
  | none => false
theorem numL_some : ∀ {xs : List O} {p : List Nat} {H : Hp} {us : List V}, numL xs = some p → OVs H us xs → us = nums p ∧ ∀ (i : Nat) (o : O), xs[i]? = some o → o.isNumber = true
  | [], p, H, us, h, k => by
    obtain rfl : [] = p := Option.some.inj h
    exact ⟨k, fun i o e => by simp at e⟩
  | .int i :: r, p, H, us, h, ⟨u, us', e, hu, k⟩ => by
    unfold numL at h
    by_cases q : 0 ≤ i
    · rw [if_pos q] at h
      obtain ⟨p', hp, rfl⟩ := Option.map_eq_some_iff.mp h
      obtain ⟨a, b⟩ := numL_some hp k
      obtain rfl : u = .int i := hu
      refine ⟨?_, fun j o e2 => ?_⟩
      · rw [e, a]
        show _ = V.int ((i.toNat : Nat) : Int) :: nums p'
        rw [Int.toNat_of_nonneg q]
      · cases j with
        | zero =>
          obtain rfl : O.int i = o := by simpa using e2
          exact decide_eq_true q
        | succ j => exact b j o (by simpa using e2)
    · rw [if_neg q] at h
      cases h
  | .non :: _, _, _, _, h, _ => nomatch h
  | .bl _ :: _, _, _, _, h, _ => nomatch h
  | .str _ :: _, _, _, _, h, _ => nomatch h
  | .dct :: _, _, _, _, h, _ => nomatch h
  | .lst _ :: _, _, _, _, h, _ => nomatch h
  | .tup _ :: _, _, _, _, h, _ => nomatch h
theorem numL_none : ∀ {xs : List O}, numL xs = none → ∃ (i : Nat) (o : O), xs[i]? = some o ∧ o.isNumber = false
  | [], h => nomatch h
  | .int i :: r, h => by
    unfold numL at h
    by_cases q : 0 ≤ i
    · rw [if_pos q] at h
      obtain ⟨j, o, a, b⟩ := numL_none (Option.map_eq_none_iff.mp h)
      exact ⟨j + 1, o, by simpa using a, b⟩
    · exact ⟨0, .int i, rfl, decide_eq_false q⟩
  | .non :: _, _ => ⟨0, _, rfl, rfl⟩
  | .bl _ :: _, _ => ⟨0, _, rfl, rfl⟩
  | .str _ :: _, _ => ⟨0, _, rfl, rfl⟩
  | .dct :: _, _ => ⟨0, _, rfl, rfl⟩
  | .lst _ :: _, _ => ⟨0, _, rfl, rfl⟩
  | .tup _ :: _, _ => ⟨0, _, rfl, rfl⟩
theorem given_pos {n : Nat} {f : Nat → Bool} {g : Nat → V} {i : Nat} (h : i < n) (k : f i = true) : 0 < (given n f g).length := by
  unfold given
  rw [List.length_map]
  exact List.length_pos_iff_exists_mem.mpr ⟨i, List.mem_filter.mpr ⟨List.mem_range.mpr h, k⟩⟩
theorem ev_lenNG {K : PySem.W.Frag} {σ : L2.St} {H : Hp} {te : TE} {xs : List V} (h : EvL te σ H xs) : Ev (tLen K te) σ H (.int (xs.length : Nat)) := fun H1 e Q q => h H1 e _ fun p H2 _ e2 hp => ⟨.ref p, xs.length, rfl, .inl ⟨xs, sq_of hp, rfl⟩, q H2 e2⟩
theorem given_zero {n : Nat} {f : Nat → Bool} {g : Nat → V} (h : ∀ i, i < n → f i = false) : given n f g = [] := by
  unfold given
  rw [List.filter_eq_nil_iff.mpr fun i hi q => by rw [h i (List.mem_range.mp hi)] at q; cases q]
  rfl
section
variable {P : Program} {w : World} {K : PySem.W.Frag} {mg : Str → Option Value} {base : Heap}
def spCp (K : PySem.W.Frag) : Sp := fun vs H Q E => ∃ (u v : V) (z : W) (o : O), vs = [u, v] ∧ WV H u z ∧ OV H v o ∧ o.sz ≤ 1000 ∧ (goodP z o = true → RetV .non H Q) ∧ (goodP z o = false → Bad K "BadPlace" v H E)
abbrev nCp : List Str := ["word", "place", "index"]
theorem sc_cp : FnScope nCp ["word", "place"] (defScope s_check_place) := ⟨rfl, rfl, rfl, by decide +kernel, rfl, by decide +kernel, by decide +kernel⟩
theorem ok_check_place (T : T23 P w K mg base) : Ok P w K mg base (L2.CX P w) "check_place" ["word", "place"] 4 (spCp K) := by
  obtain ⟨fL, dL, GL, bL, kL, mL⟩ := (ok_is_list T).ex
  obtain ⟨fN, dN, GN, bN, kN, mN⟩ := (ok_is_number T).ex
  obtain ⟨fA, dA, GA, bA, kA, mA⟩ := (ok_part_at T).ex
  refine T.okX 19 rfl sc_cp (fun vs H Q E h => ?_) (fun kV doc pm an cdv ct us hl => match us, hl with | [_, _], _ => rfl) (fun f cdv A outer s H vs Q E hr h => ?_)
  · obtain ⟨u, v, z, o, rfl, _⟩ := h
    rfl
  · obtain ⟨u, v, z, o, rfl, hw, ho, hz, k1, k2⟩ := h
    have hr2 := hr.mono (j := 2) (by decide)
    refine ⟨_, pss_cons (ps_if (PW.pt (pw_or (pt_not (pt_val (pe_call GL (hr.mono (by decide)) (by rfl) mL kL bL .nil pass0 (pa_cons (pv 1) pa_nil))))
        (pw_or1 (pt_cmpR op_gt (pe_callB call_len (by rfl) T.len PySem.boot_len (pa_cons (pe_lc (own := [("index", 2)]) (g := gName 2) (tt := tNot (tB (tCall (spB O.isNumber) [] E0 (tCons (tVar 2) tNil)))) (te := tVar 2) rfl sc_cp.nd (pi_seq (pv 1)) (blkOk_by (N := nCp) (sc := defScope s_check_place) (by decide +kernel))
          (fun _ _ _ _ _ => pg_name (i := 2) sc_cp.nd rfl (Or.inl rfl)) (fun _ _ _ _ _ => pts_one (pt_not (pt_val (pe_call GN hr2 (by rfl) mN kN bN .nil pass0 (pa_cons (pv 2) pa_nil))))) (fun _ _ _ _ _ => pv 2)) pa_nil)) pe_int (nomark _)))))
        (pss_one (ps_raiseE rfl T.bp (takes_of rfl rfl rfl rfl) (hr.mono (by decide)) (pv 1))) pss_nil)
      (pss_one (ps_if (pt_cmp (pc_isN (pe_call GA (hr.mono (by decide)) (by rfl) mA kA bA .nil pass0 (pa_cons (pv 0) (pa_cons (pv 1) pa_nil))))) (pss_one (ps_raiseE rfl T.bp (takes_of rfl rfl rfl rfl) (hr.mono (by decide)) (pv 1))) pss_nil)), ?_⟩
    cases hq : o.isLst || o.isTup with
    | false =>
      have hno : goodP z o = false := by
        cases o with
        | lst xs => cases hq
        | tup xs => cases hq
        | _ => rfl
      refine q_when (b := true) (et_is (et_or (a := true) (b := true) (et_is (et_not (et_B (ev_call (ea_cons (ev_var rfl) ea_nil) (spv_B ho)))) (by rw [hq]; rfl)) fun z => nomatch z) rfl) (fun _ H1 e1 => ?_) fun z => nomatch z
      exact s_raise T.bp (ev_var rfl) fun d G e hd => k2 hno d G (e1.trans e) hd
    | true =>
      obtain ⟨b, xs, rfl⟩ := O.seq_of hq
      obtain ⟨a, us, rfl, ha, hov⟩ := ho.seq
      have hsq : SqB H b a us := ha
      have hul := hov.length
      have hxl := O.len_szs xs
      rw [O.seq_sz] at hz
      have hgood : goodP z (O.seq b xs) = (match numL xs with | some p => (z.at p).isSome | none => false) := by cases b <;> rfl
      rw [hgood] at k1 k2
      have hcomp : ∀ G, Ex H G → EvL (tLc (iQ K (tVar 1)) (gName 2) (tNot (tB (tCall (spB O.isNumber) [] E0 (tCons (tVar 2) tNil)))) (tVar 2) [2]) [some u, some (.ref a), none] G (given us.length (fun i => !((xs[i]?).map O.isNumber).getD true) (fun i => (us[i]?).getD .non)) := fun G e =>
        el_lcQ _ _ (ev_var rfl) (hsq.ext e) (by omega) (fun _ => rfl) (fun i x H1 e1 hx => by
          obtain ⟨o', ho', hov'⟩ := hov.get hx
          rw [ho']
          exact et_not (et_B (ev_call (ea_cons (ev_var rfl) ea_nil) (spv_B (hov'.ext (e.trans e1)))))) (fun i x H1 e1 hx _ => by
          rw [hx]
          exact ev_var rfl)
      cases hn : numL xs with
      | none =>
        rw [hn] at k2
        obtain ⟨i, o', hi, hno⟩ := numL_none hn
        have hil : i < us.length := by have := (List.getElem?_eq_some_iff.mp hi).1; omega
        refine q_when (b := true) (et_is (et_or (a := false) (b := true) (et_is (et_not (et_B (ev_call (ea_cons (ev_var rfl) ea_nil) (spv_B ho)))) (by rw [hq]; rfl)) fun _ => et_is (et_test (ev_op (ev_lenNG (hcomp H (Ex.refl _))) ev_c rv_I0)) ?_) rfl) (fun _ H1 e1 => ?_) fun z => nomatch z
        · have := given_pos (n := us.length) (f := fun i => !((xs[i]?).map O.isNumber).getD true) (g := fun i => (us[i]?).getD .non) hil (by show (!((xs[i]?).map O.isNumber).getD true) = true; rw [hi]; show (!o'.isNumber) = true; rw [hno]; rfl)
          exact decide_eq_true (by omega)
        · exact s_raise T.bp (ev_var rfl) fun d G e hd => k2 rfl d G (e1.trans e) hd
      | some p =>
        rw [hn] at k1 k2
        obtain ⟨hus, hall⟩ := numL_some hn hov
        have hz0 : given us.length (fun i => !((xs[i]?).map O.isNumber).getD true) (fun i => (us[i]?).getD .non) = [] := given_zero fun i hi => by
          obtain ⟨o', ho'⟩ : ∃ o', xs[i]? = some o' := ⟨xs[i]'(by omega), by simp⟩
          show (!((xs[i]?).map O.isNumber).getD true) = false
          rw [ho']
          show (!o'.isNumber) = false
          rw [hall i o' ho']
          rfl
        refine q_when (b := false) (et_is (et_or (a := false) (b := false) (et_is (et_not (et_B (ev_call (ea_cons (ev_var rfl) ea_nil) (spv_B ho)))) (by rw [hq]; rfl)) fun _ => et_is (et_test (ev_op (ev_lenNG (hcomp H (Ex.refl _))) ev_c rv_I0)) (by rw [hz0]; decide)) rfl) (fun z => nomatch z) fun _ H1 e1 => ?_
        refine s_when (b := !(z.at p).isSome) (fun H2 e2 Q2 q2 => ?_) (fun hb H2 e2 => ?_) fun hb H2 e2 => ?_
        · refine ⟨u, rfl, .ref a, rfl, u, a, b, z, p, rfl, hw.ext (e1.trans e2), ?_, fun r G e hr => ⟨_, rfl, ?_⟩⟩
          · rw [← hus]
            exact hsq.ext (e1.trans e2)
          · cases hat : z.at p with
            | none =>
              rw [hat] at hr q2
              rw [show r = .non from hr]
              exact q2 G e
            | some x =>
              rw [hat] at hr q2
              have hne : r ≠ .non := by
                cases x with
                | v s => rw [show r = .str s from hr]; exact fun z => nomatch z
                | n s as =>
                  obtain ⟨t, us, rfl, _⟩ := WV.tup hr
                  exact fun z => nomatch z
              rw [decide_eq_false hne]
              exact q2 G e
        · have hb' : (z.at p).isSome = false := by simpa using hb
          exact s_raise T.bp (ev_var rfl) fun d G e hd => k2 hb' d G ((e1.trans e2).trans e) hd
        · have hb' : (z.at p).isSome = true := by simpa using hb
          exact k1 hb' H2 (e1.trans e2)
end
end K23

set_option Elab.async false
set_option linter.all false
set_option maxRecDepth 100000
set_option maxHeartbeats 4000000
/-! A part put at a place; depths; variables. -/
namespace K23
open PySem PySem.Spec PyProof.Rows L2 Evl
def W.put : W → List Nat → W → W
  | _, [], y => y
  | .v s, _ :: _, _ => .v s
  | .n s as, i :: p, y => match as[i]? with
    | some x => .n s (as.set i (x.put p y))
    | none => .n s as
theorem WVs.set {H : Hp} : ∀ {us : List V} {ws : List W} {i : Nat} {r : V} {x : W}, WVs H us ws → WV H r x → WVs H (us.set i r) (ws.set i x)
  | us, [], i, r, x, h, _ => by
    have h : us = [] := h
    rw [h]
    exact rfl
  | us, w :: ws, 0, r, x, ⟨u, us', e, h1, h2⟩, k => by
    rw [e]
    exact ⟨r, us', rfl, k, h2⟩
  | us, w :: ws, i + 1, r, x, ⟨u, us', e, h1, h2⟩, k => by
    rw [e]
    exact ⟨u, _, rfl, h1, WVs.set h2 k⟩
theorem cut_to (xs : List V) (k : Nat) : cutV xs none (some (k : Int)) = xs.take k := by
  unfold cutV
  rw [HT.sIx_none, HT.sIx_nat, List.drop_zero, Nat.sub_zero]
  by_cases h : k ≤ xs.length
  · rw [Nat.min_eq_left h]
  · rw [Nat.min_eq_right (by omega), List.take_of_length_le (Nat.le_refl _), List.take_of_length_le (by omega)]
theorem cut_from (xs : List V) (k : Nat) : cutV xs (some (k : Int)) none = xs.drop k := by
  unfold cutV
  rw [HT.sIx_none, HT.sIx_nat]
  by_cases h : k ≤ xs.length
  · rw [Nat.min_eq_left h, List.take_of_length_le (by rw [List.length_drop]; omega)]
  · rw [Nat.min_eq_right (by omega), List.drop_eq_nil_of_le (Nat.le_refl _), List.drop_eq_nil_of_le (by omega)]
    simp
section
variable {K : PySem.W.Frag} {σ : L2.St} {H G : Hp} {te ta tb tl : TE} {v : V}
/-- t[:k], k within -/
theorem eu_to {a : Addr} {xs : List V} {k : Nat} (h : Ev te σ H (.ref a)) (hk : Ev tb σ H (.int (k : Nat))) (ha : SqT K H a xs) (hl : k < xs.length) : EvU (tSl (rSlT K) te tNoPart (tPart tb)) σ H (xs.take k) := fun H1 e Q q =>
  h H1 e _ fun H2 e2 => hk H2 (e.trans e2) _ fun H3 e3 => ⟨_, rfl, a, xs, rfl, ex_t ((e.trans e2).trans e3) ha, fun z => by
    have h2 := z.2
    rw [HT.sIx_nat] at h2
    omega, fun p hp => by
    rw [cut_to]
    exact q p _ (fresh_back (e2.trans e3) hp) ((e2.trans e3).trans (Ex.new hp)) upd_same⟩
/-- t[k:], k from 1 on -/
theorem eu_from {a : Addr} {xs : List V} {k : Nat} (h : Ev te σ H (.ref a)) (hk : Ev tb σ H (.int (k : Nat))) (ha : SqT K H a xs) (hl : 1 ≤ k) (hx : xs ≠ []) : EvU (tSl (rSlT K) te (tPart tb) tNoPart) σ H (xs.drop k) := fun H1 e Q q =>
  h H1 e _ fun H2 e2 => hk H2 (e.trans e2) _ fun H3 e3 => ⟨_, rfl, a, xs, rfl, ex_t ((e.trans e2).trans e3) ha, fun z => by
    have h2 := z.1
    rw [HT.sIx_nat] at h2
    have := List.length_pos_iff.mpr hx
    omega, fun p hp => by
    rw [cut_from]
    exact q p _ (fresh_back (e2.trans e3) hp) ((e2.trans e3).trans (Ex.new hp)) upd_same⟩
/-- a new tuple of which P holds -/
def EvUP (te : TE) (σ : L2.St) (H : Hp) (P : List V → Hp → Prop) : Prop := ∀ H1, Ex H H1 → ∀ Q : VK, (∀ p xs H2, H1 p = none → Ex H1 H2 → H2 p = some (.tup xs) → P xs H2 → Q (.ref p) H2) → te σ H1 Q
theorem EvUP.of {xs : List V} (h : EvU te σ H xs) : EvUP te σ H (fun ys _ => ys = xs) := fun H1 e Q q => h H1 e _ fun p H2 n e2 h2 => q p xs H2 n e2 h2 rfl
theorem eup_one {P : V → Hp → Prop} (h : EvP te σ H P) (up : ∀ r, Up (P r)) : EvUP (tTup (tCons te tNil)) σ H (fun ys G => ∃ r, ys = [r] ∧ P r G) := fun H1 e Q q =>
  h H1 e _ fun r H2 e2 pr => ⟨by show 1 ≤ sizeLine; decide, fun p hp => q p [r] _ (fresh_back e2 hp) (e2.trans (Ex.new hp)) upd_same ⟨r, rfl, up r _ _ (Ex.new hp) pr⟩⟩
theorem eup_cat {P1 P2 : List V → Hp → Prop} (ha : EvUP ta σ H P1) (hb : EvUP tb σ H P2) (u1 : ∀ xs, Up (P1 xs)) (u2 : ∀ xs, Up (P2 xs)) (ne : ∀ xs G, P1 xs G → xs ≠ []) (hl : ∀ xs ys G, P1 xs G → P2 ys G → xs.length + ys.length ≤ 100000) :
    EvUP (tOp (rCatT K) ta tb) σ H (fun zs G => ∃ xs ys, zs = xs ++ ys ∧ P1 xs G ∧ P2 ys G) := fun H1 e Q q =>
  ha H1 e _ fun p1 xs H2 n1 e2 h1 q1 => hb H2 (e.trans e2) _ fun p2 ys H3 n2 e3 h2 q2 => ⟨p1, p2, xs, ys, rfl, rfl, st_of (e3 _ _ h1), st_of h2, ne _ _ q1, sz_of (hl _ _ _ (u1 _ _ _ e3 q1) q2),
    fun z => by
      subst z
      exact q p1 xs H3 n1 (e2.trans e3) (e3 _ _ h1) ⟨xs, [], by simp, u1 _ _ _ e3 q1, q2⟩,
    fun _ p hp => q p (xs ++ ys) _ (fresh_back (e2.trans e3) hp) ((e2.trans e3).trans (Ex.new hp)) upd_same ⟨xs, ys, rfl, u1 _ _ _ (e3.trans (Ex.new hp)) q1, u2 _ _ _ (Ex.new hp) q2⟩⟩
theorem s_retUP {D : Ends} {P : List V → Hp → Prop} (h : EvUP te σ H P) (k : ∀ p xs H1, H p = none → Ex H H1 → H1 p = some (.tup xs) → P xs H1 → D.rt (.ref p) H1) : tRet te D σ H := h H (Ex.refl H) _ k
end
theorem W.len_szs : ∀ l : List W, l.length ≤ W.szs l
  | [] => Nat.le_refl _
  | c :: l => by
    have h1 : 1 ≤ c.sz := by cases c <;> simp [W.sz]
    have h2 := W.len_szs l
    show l.length + 1 ≤ c.sz + W.szs l
    omega
theorem at_cons {s : Str} {as : List W} {i : Nat} {p : List Nat} (h : ((W.n s as).at (i :: p)).isSome = true) : ∃ x, as[i]? = some x ∧ (x.at p).isSome = true := by
  have h : (match as[i]? with | some x => x.at p | none => none).isSome = true := h
  cases e : as[i]? with
  | none => rw [e] at h; cases h
  | some x => rw [e] at h; exact ⟨x, rfl, h⟩
section
variable {P : Program} {w : World} {K : PySem.W.Frag} {mg : Str → Option Value} {base : Heap}
def spWp (m : Nat) : Sp := fun vs H Q _ => ∃ (u q : V) (a : Addr) (b : Bool) (z y : W) (p : List Nat), vs = [u, .ref a, q] ∧ WV H u z ∧ SqB H b a (nums p) ∧ WV H q y ∧ p.length < m ∧ m ≤ 40 ∧ z.sz ≤ 1000 ∧ (z.at p).isSome = true ∧ ∀ (r : V) (G : Hp), Ex H G → WV G r (z.put p y) → Q r G
theorem ep_wp {σ : L2.St} {H : Hp} {m : Nat} {t1 t2 t3 : TE} {ux q : V} {x y : W} {p : List Nat} (h1 : Ev t1 σ H ux) (h2 : EvQ t2 σ H (nums p)) (h3 : Ev t3 σ H q) (hw : WV H ux x) (hy : WV H q y) (hp : p.length < m) (hm : m ≤ 40) (hs : x.sz ≤ 1000) (ha : (x.at p).isSome = true) :
    EvP (tCall (spWp m) [] E0 (tCons t1 (tCons t2 (tCons t3 tNil)))) σ H (fun r G => WV G r (x.put p y)) := fun H1 e Q k =>
  h1 H1 e _ fun H2 e2 => h2 H2 (e.trans e2) _ fun b a H3 _ e3 h3' => h3 H3 ((e.trans e2).trans e3) _ fun H4 e4 => ⟨ux, q, a, b, x, y, p, rfl, hw.ext (((e.trans e2).trans e3).trans e4), h3'.ext e4, hy.ext (((e.trans e2).trans e3).trans e4), hp, hm, hs, ha, fun r G e5 hr => k r G (((e2.trans e3).trans e4).trans e5) hr⟩
abbrev nWp : List Str := ["word", "place", "part", "at"]
theorem sc_wp : FnScope nWp ["word", "place", "part"] (defScope s_with_part) := ⟨rfl, rfl, rfl, by decide +kernel, rfl, by decide +kernel, by decide +kernel⟩
theorem ok_with_part (T : T23 P w K mg base) : ∀ m, Ok P w K mg base CX0 "with_part" ["word", "place", "part"] (m + 1) (spWp m)
  | 0 => T.ok 10 rfl sc_wp (fun vs H Q E h => by obtain ⟨u, q, a, b, z, y, p, rfl, _⟩ := h; rfl) (fun kV doc pm an cdv ct us hl => match us, hl with | [_, _, _], _ => rfl) (fun f cdv A outer s H vs Q E hr h => by obtain ⟨u, q, a, b, z, y, p, _, _, _, _, h0, _⟩ := h; exact absurd h0 (Nat.not_lt_zero _))
  | m + 1 => by
    obtain ⟨fR, dR, GR, bR, kR, mR⟩ := (ok_with_part T m).ex
    refine T.ok 10 rfl sc_wp (fun vs H Q E h => ?_) (fun kV doc pm an cdv ct us hl => match us, hl with | [_, _, _], _ => rfl) (fun f cdv A outer s H vs Q E hr h => ?_)
    · obtain ⟨u, q, a, b, z, y, p, rfl, _⟩ := h
      rfl
    · obtain ⟨u, q, a, b, z, y, p, rfl, hw, ha, hy, hp, hm, hs, hat, k⟩ := h
      refine ⟨_, pss_cons (ps_if (pt_cmpR op_eq (pe_callB call_len (by rfl) T.len PySem.boot_len (pa_cons (pv 1) pa_nil)) pe_int (nomark _)) (pss_one (ps_ret (pv 2))) pss_nil)
        (pss_cons (ps_set (i := 3) sc_wp.nd rfl (Or.inl rfl) (pe_op op_add (pe_ix ix_seq (pv 1) pe_int (fun _ _ => rfl)) pe_int))
        (pss_one (ps_ret (pe_op op_catT (pe_op op_catT (pe_slice sl_tup (pv 0) po_none (po_some (pv 3))) (pe_tup (pa_cons (pe_call GR hr (by rfl) mR kR bR .nil pass0 (pa_cons (pe_ix ix_tup (pv 0) (pv 3) (fun _ _ => rfl)) (pa_cons (pe_slice sl_seq (pv 1) (po_some pe_int) po_none) (pa_cons (pv 2) pa_nil)))) pa_nil)))
          (pe_slice sl_tup (pv 0) (po_some (pe_op op_add (pv 3) pe_int)) po_none))))), ?_⟩
      have hpl := nums_len p
      cases p with
      | nil =>
        refine q_when (b := true) (et_is (et_test (ev_op (ev_lenQ (ev_var rfl) ha) ev_c (rv_eq rfl))) rfl) (fun _ H1 e1 => ?_) fun z => nomatch z
        refine s_ret (ev_var rfl) fun H2 e2 => k q H2 (e1.trans e2) ?_
        have : z.put [] y = y := by cases z <;> rfl
        rw [this]
        exact hy.ext (e1.trans e2)
      | cons i p =>
        refine q_when (b := false) (et_is (et_test (ev_op (ev_lenQ (ev_var rfl) ha) ev_c (rv_eq rfl))) (decide_eq_false (by rw [nums_len]; intro q; have := V.int.inj q; simp at this; omega))) (fun z => nomatch z) fun _ H1 e1 => ?_
        have ha1 := ha.ext e1
        refine q_asg (v := .int ((i + 1 : Nat) : Int)) (ev_is (ev_op (x := .int (i : Nat)) (ev_op (ev_var rfl) ev_c (rv_ixQ ha1 (atI_nat (j := 0) rfl))) ev_c rv_I0) rfl) fun H2 e2 => ?_
        have e02 := e1.trans e2
        cases z with
        | v sv => cases hat
        | n s as =>
          obtain ⟨x, hx, hat2⟩ := at_cons hat
          have hil := (List.getElem?_eq_some_iff.mp hx).1
          obtain ⟨t, us, rfl, ht, hus⟩ := hw.tup
          have hul := hus.length
          obtain ⟨ux, hux, hwx⟩ := hus.get hx
          have hsx := W.lt_sz hx
          have hsz : W.szs as + 2 ≤ 1000 := hs
          have hasl := W.len_szs as
          have ht2 := e02 _ _ ht
          have st2 : SqT K H2 t (V.str s :: us) := st_of ht2
          have hix : Ev (tOp (rIxT K) (tVar 0) (tVar 3)) [some (.ref t), some (.ref a), some q, some (.int ((i + 1 : Nat) : Int))] H2 ux := ev_op (ev_var rfl) (ev_var rfl) (rv_ixT st2 (atI_nat (by simpa using hux)))
          have hcall := ep_wp (m := m) hix (eq_tail (K := K) (b := b) (a := a) (x := V.int (i : Nat)) (xs := nums p) (ev_var (i := 1) rfl) (ha.ext e02)) (ev_var (i := 2) rfl) (hwx.ext e02) (hy.ext e02) (by simp at hp; omega) (by omega) (by omega) hat2
          refine s_retUP (eup_cat (eup_cat (EvUP.of (eu_to (k := i + 1) (ev_var rfl) (ev_var rfl) st2 (by simp; omega))) (eup_one hcall fun r G1 G2 e h => WV.ext e h) (fun _ _ _ _ h => h) (fun xs G1 G2 e h => by
              obtain ⟨r, h1, h2⟩ := h
              exact ⟨r, h1, WV.ext e h2⟩) (fun xs G h => by rw [h]; simp) (fun xs ys G h1 h2 => by
              obtain ⟨r, rfl, _⟩ := h2
              rw [h1, List.length_take]
              simp
              omega))
            (EvUP.of (eu_from (k := i + 2) (ev_var rfl) (ev_is (ev_op (ev_var rfl) ev_c rv_I0) rfl) st2 (by omega) (by simp))) (fun xs G1 G2 e h => by
              obtain ⟨a1, a2, h0, h1, r, h2, h3⟩ := h
              exact ⟨a1, a2, h0, h1, r, h2, WV.ext e h3⟩) (fun _ _ _ _ h => h) (fun xs G h => by
              obtain ⟨a1, a2, h0, h1, r, h2, h3⟩ := h
              rw [h0, h1]
              simp) (fun xs ys G h1 h2 => by
              obtain ⟨a1, a2, h0, h1, r, h3, h4⟩ := h1
              rw [h0, h1, h2, h3]
              simp
              omega)) fun pp xs G _ e3 hpp hxs => ?_
          obtain ⟨xs1, ys1, rfl, ⟨a1, a2, rfl, rfl, r, rfl, hr⟩, rfl⟩ := hxs
          refine k _ G (e02.trans e3) ?_
          have e4 : (W.n s as).put (i :: p) y = .n s (as.set i (x.put p y)) := by
            show (match as[i]? with | some x => W.n s (as.set i (x.put p y)) | none => .n s as) = _
            rw [hx]
          rw [e4]
          have e5 : (V.str s :: us).take (i + 1) ++ [r] ++ (V.str s :: us).drop (i + 2) = V.str s :: us.set i r := by
            rw [List.set_eq_take_append_cons_drop, if_pos (by omega)]
            simp
          rw [e5] at hpp
          exact WV.of hpp (WVs.set ((hus.ext e02).ext e3) hr)
end
end K23

set_option Elab.async false
set_option linter.all false
set_option maxRecDepth 100000
set_option maxHeartbeats 4000000
/-! Depths, variables. -/
namespace K23
open PySem PySem.Spec PyProof.Rows L2 Evl
section
variable {K : PySem.W.Frag} {σ : L2.St} {H : Hp} {te tl : TE} {tt : TT}
theorem el_lcNT {xs : List V} {j : Nat} {vs : List Nat} (f : Nat → Bool) (g : Nat → V) (h : EvU tl σ H xs) (hz : xs.length ≤ 40000) (hw : ∀ x, wipe ((wipe σ vs).set j (some x)) vs = wipe σ vs)
    (ht : ∀ (i : Nat) (x : V) H1, Ex H H1 → xs[i]? = some x → EvT tt ((wipe σ vs).set j (some x)) H1 (f i)) (he : ∀ (i : Nat) (x : V) H1, Ex H H1 → xs[i]? = some x → f i = true → Ev te ((wipe σ vs).set j (some x)) H1 (g i)) :
    EvL (tLc (iTup K tl) (gName j) tt te vs) σ H (given xs.length f g) := fun H0 e Q q => h H0 e _ fun a H1 ha e1 hx => ⟨a, rfl, ⟨xs, st_of hx⟩, fun Dl hD =>
  lc_tup (xs := xs) (Cw H1 f g Dl) ⟨hD, Ex.new hD, upd_same⟩ (fun i H' _ p => st_of (p.2.1 a _ hx)) (fun i x H' hi p => ⟨hw x, cw_turn p (by have := (List.getElem?_eq_some_iff.mp hi).1; omega) (ht i x H1 (e.trans e1) hi) (fun hf => he i x H1 (e.trans e1) hi hf)⟩)
    (fun H' p => q Dl H' (fresh_back e1 p.1) (e1.trans p.2.1) p.2.2)⟩
end
theorem ev_maxL {K : PySem.W.Frag} {σ : L2.St} {H : Hp} {te : TE} {ns : List Int} {m : Int} (h : EvL te σ H (ns.map V.int)) (hp : 0 < ns.length) (hm : ∀ m', m' ∈ ns → (∀ y, y ∈ ns → y ≤ m') → m' = m) : Ev (tCB (rMax K) (tCons te tNil)) σ H (.int m) := fun H1 e Q q =>
  h H1 e _ fun p H2 _ e2 h2 => ⟨p, ns, rfl, sq_of h2, hp, fun m' a b => by
    rw [hm m' a b]
    exact q H2 e2⟩
theorem given_map {α : Type} (xs : List α) (g : α → V) (n : Nat) (hn : n = xs.length) : given n (fun _ => true) (fun i => ((xs[i]?).map g).getD .non) = xs.map g := by
  subst hn
  unfold given
  rw [filter_true]
  refine List.ext_getElem? fun i => ?_
  rw [List.getElem?_map, List.getElem?_map]
  by_cases h : i < xs.length
  · rw [List.getElem?_range h]
    show some (((xs[i]?).map g).getD .non) = _
    rw [List.getElem?_eq_getElem h]
    rfl
  · rw [List.getElem?_eq_none_iff.mpr (by simp; omega), List.getElem?_eq_none_iff.mpr (by omega)]
    rfl
mutual
def W.de : W → Nat
  | .v _ => 0
  | .n _ as => W.dn as
def W.dn : List W → Nat
  | [] => 0
  | a :: r => max a.de (W.des r) + 1
def W.des : List W → Nat
  | [] => 0
  | a :: r => max a.de (W.des r)
end
theorem W.de_le : ∀ {as : List W} {x : W}, x ∈ as → x.de ≤ W.des as
  | a :: as, x, h => by
    rcases List.mem_cons.mp h with rfl | h
    · exact Nat.le_max_left _ _
    · exact Nat.le_trans (W.de_le h) (Nat.le_max_right _ _)
theorem W.de_max : ∀ {as : List W} {m : Nat}, (∃ x ∈ as, x.de = m) → (∀ x ∈ as, x.de ≤ m) → m = W.des as
  | as, m, ⟨x, hx, e⟩, h => by
    have h1 := W.de_le hx
    have h2 : ∀ as : List W, (∀ x ∈ as, x.de ≤ m) → W.des as ≤ m := by
      intro as
      induction as with
      | nil => intro _; exact Nat.zero_le _
      | cons a as ih =>
        intro h
        have q1 := h a (List.mem_cons_self ..)
        have q2 := ih fun x hx => h x (List.mem_cons_of_mem _ hx)
        show max a.de (W.des as) ≤ m
        omega
    have := h2 as h
    omega
theorem W.dn_des {as : List W} (h : as ≠ []) : W.dn as = W.des as + 1 := by
  cases as with
  | nil => exact absurd rfl h
  | cons a r => rfl
mutual
def W.vars : W → List Str
  | .v s => [s]
  | .n _ as => W.varsL [] as
def W.varsL : List Str → List W → List Str
  | acc, [] => acc
  | acc, a :: r => W.varsL (acc ++ a.vars.filter fun s => !acc.contains s) r
end
section
variable {P : Program} {w : World} {K : PySem.W.Frag} {mg : Str → Option Value} {base : Heap}
def spDe (m : Nat) : Sp := fun vs H Q _ => ∃ v z, vs = [v] ∧ WV H v z ∧ z.dp < m ∧ m ≤ 40 ∧ z.sz ≤ 1000 ∧ RetV (.int (z.de : Nat)) H Q
abbrev nDe : List Str := ["word", "part"]
theorem spv_de {m : Nat} {v : V} {z : W} {H : Hp} (h : WV H v z) (hd : z.dp < m) (hm : m ≤ 40) (hs : z.sz ≤ 1000) : SpV (spDe m) ([v] ++ []) H (.int (z.de : Nat)) := fun H1 e Q q E => ⟨v, z, rfl, h.ext e, hd, hm, hs, q⟩
theorem sc_de : FnScope nDe ["word"] (defScope s_depth_of) := ⟨rfl, rfl, rfl, by decide +kernel, rfl, by decide +kernel, by decide +kernel⟩
theorem ok_depth_of (T : T23 P w K mg base) : ∀ m, Ok P w K mg base CX0 "depth_of" ["word"] (m + 1) (spDe m)
  | 0 => T.ok 24 rfl sc_de (fun vs H Q E h => by obtain ⟨v, z, rfl, _⟩ := h; rfl) (fun kV doc pm an cdv ct us hl => match us, hl with | [_], _ => rfl) (fun f cdv A outer s H vs Q E hr h => by obtain ⟨v, z, _, _, h0, _⟩ := h; exact absurd h0 (Nat.not_lt_zero _))
  | m + 1 => by
    obtain ⟨fR, dR, GR, bR, kR, mR⟩ := (ok_depth_of T m).ex
    refine T.ok 24 rfl sc_de (fun vs H Q E h => ?_) (fun kV doc pm an cdv ct us hl => match us, hl with | [_], _ => rfl) (fun f cdv A outer s H vs Q E hr h => ?_)
    · obtain ⟨v, z, rfl, _⟩ := h
      rfl
    · obtain ⟨v, z, rfl, hw, hz, hm, hs, k⟩ := h
      refine ⟨_, pss_cons (ps_if (PW.pt (pw_or (pt_val (pe_isiB T.isi T.str PyProof.Rows.boot_str (pv 0))) (pw_or1 (pt_cmpR op_eq (pe_callB call_len (by rfl) T.len PySem.boot_len (pa_cons (pv 0) pa_nil)) pe_int (nomark _))))) (pss_one (ps_ret pe_int)) pss_nil)
        (pss_one (ps_ret (pe_op op_add pe_int (pe_callB (cr_max rfl) (by rfl) T.max (by decide +kernel) (pa_cons (pe_lc (own := [("part", 1)]) (g := gName 1) (tt := tYes) (te := tCall (spDe m) [] E0 (tCons (tVar 1) tNil)) rfl sc_de.nd (pi_tup (pe_slice sl_tup (pv 0) (po_some pe_int) po_none)) (blkOk_by (N := nDe) (sc := defScope s_depth_of) (by decide +kernel))
          (fun _ _ _ _ _ => pg_name (i := 1) sc_de.nd rfl (Or.inl rfl)) (fun _ _ _ _ _ => pts_nil) (fun _ _ _ _ _ => pe_call GR hr (by rfl) mR kR bR .nil pass0 (pa_cons (pv 1) pa_nil))) pa_nil))))), ?_⟩
      cases z with
      | v sv =>
        obtain rfl : v = .str sv := hw
        exact q_when (b := true) (et_is (et_or (a := true) (b := true) (et_B (ev_isStr (o := .str sv) (ev_var rfl) rfl)) fun z => nomatch z) rfl) (fun _ H1 e1 => s_ret ev_c fun H2 e2 => k H2 (e1.trans e2)) fun z => nomatch z
      | n sn as =>
        obtain ⟨r, us, rfl, hr1, hu⟩ := hw.tup
        have hul := hu.length
        have hdp : W.dps as < m := by have : (W.n sn as).dp = W.dps as + 1 := rfl; omega
        have hsz : W.szs as + 2 ≤ 1000 := hs
        have hasl := W.len_szs as
        have hl : (V.str sn :: us).length = us.length + 1 := rfl
        cases as with
        | nil =>
          obtain rfl : us = [] := List.length_eq_zero_iff.mp hul
          exact q_when (b := true) (et_is (et_or (a := false) (b := true) (et_B (ev_isStr (o := (W.n sn []).o) (ev_var rfl) hw)) fun _ => et_is (et_test (ev_op (ev_lenT (ev_var rfl) (st_of hr1)) ev_c (rv_eq rfl))) (decide_eq_true rfl)) rfl) (fun _ H1 e1 => s_ret ev_c fun H2 e2 => k H2 (e1.trans e2)) fun z => nomatch z
        | cons a0 as =>
          refine q_when (b := false) (et_is (et_or (a := false) (b := false) (et_B (ev_isStr (o := (W.n sn (a0 :: as)).o) (ev_var rfl) hw)) fun _ => et_is (et_test (ev_op (ev_lenT (ev_var rfl) (st_of hr1)) ev_c (rv_eq rfl))) (decide_eq_false (by rw [hl, hul]; intro q; have := V.int.inj q; simp at this; omega))) rfl) (fun z => nomatch z) fun _ H1 e1 => ?_
          have hr2 := e1 _ _ hr1
          have hcomp : EvL (tLc (iTup K (tSl (rSlT K) (tVar 0) (tPart (tC (.int 1))) tNoPart)) (gName 1) tYes (tCall (spDe m) [] E0 (tCons (tVar 1) tNil)) [1]) [some (.ref r), none] H1 ((a0 :: as).map fun x => V.int (x.de : Nat)) := by
            rw [← given_map (a0 :: as) (fun x => V.int (x.de : Nat)) us.length hul]
            refine el_lcNT _ _ (eu_tail (ev_var rfl) (st_of hr2)) (by omega) (fun _ => rfl) (fun i x G e hx => et_yes) fun i x G e hx _ => ?_
            obtain ⟨y, hy, hwy⟩ := hu.getv hx
            have h1 := W.lt_dp hy
            have h2 := W.lt_sz hy
            rw [hy]
            exact ev_call (ea_cons (ev_var rfl) ea_nil) (spv_de (hwy.ext (e1.trans e)) (by omega) (by omega) (by omega))
          have hc2 : EvL (tLc (iTup K (tSl (rSlT K) (tVar 0) (tPart (tC (.int 1))) tNoPart)) (gName 1) tYes (tCall (spDe m) [] E0 (tCons (tVar 1) tNil)) [1]) [some (.ref r), none] H1 (((a0 :: as).map fun x => ((x.de : Nat) : Int)).map V.int) := by
            rw [List.map_map]
            exact hcomp
          refine s_ret (ev_is (ev_op (y := .int ((W.des (a0 :: as) : Nat) : Int)) ev_c (ev_maxL hc2 (by simp) fun m' h1 h2 => ?_) rv_I0) ?_) fun H2 e2 => k H2 (e1.trans e2)
          · obtain ⟨x, hx, rfl⟩ := List.mem_map.mp h1
            have := W.de_max (as := a0 :: as) (m := x.de) ⟨x, hx, rfl⟩ fun y hy => by
              have := h2 _ (List.mem_map.mpr ⟨y, hy, rfl⟩)
              omega
            omega
          · have : (W.n sn (a0 :: as)).de = W.des (a0 :: as) + 1 := rfl
            rw [this]
            exact congrArg V.int (by omega)
def sVs (xs : List Str) : List V := xs.map V.str
theorem sVs_flat (xs : List Str) : (sVs xs).all flatV = true := by
  unfold sVs
  induction xs with
  | nil => rfl
  | cons r rs ih => exact ih
theorem eqV_beq (s r : Str) : eqV (.str s) (.str r) = (s == r) := by
  show decide (s = r) = (s == r)
  by_cases h : s = r
  · rw [decide_eq_true h, h]
    exact (beq_self_eq_true r).symm
  · rw [decide_eq_false h]
    exact (beq_eq_false_iff_ne.mpr h).symm
theorem sVs_in (s : Str) (xs : List Str) : inV (.str s) (sVs xs) = xs.contains s := by
  unfold inV sVs
  induction xs with
  | nil => rfl
  | cons r rs ih =>
    rw [List.map_cons, List.any_cons, ih, List.contains_cons, eqV_beq]
    first
      | rfl
      | rw [show (r == s) = (s == r) from by by_cases h : r = s; { rw [h] }; { rw [beq_eq_false_iff_ne.mpr h, beq_eq_false_iff_ne.mpr (Ne.symm h)] }]
def spVa (m : Nat) : Sp := fun vs H Q _ => ∃ v z, vs = [v] ∧ WV H v z ∧ z.dp < m ∧ m ≤ 40 ∧ z.sz ≤ 1000 ∧ ∀ p H', H p = none → Ex H H' → H' p = some (.lst (sVs z.vars)) → Q (.ref p) H'
abbrev nVa : List Str := ["word", "told", "part", "variable"]
theorem sc_va : FnScope nVa ["word"] (defScope s_variables_in) := ⟨rfl, rfl, rfl, by decide +kernel, rfl, by decide +kernel, by decide +kernel⟩
mutual
theorem W.vars_len : ∀ w : W, w.vars.length ≤ w.sz
  | .v _ => Nat.le_refl _
  | .n _ as => by
    have := W.varsL_len [] as
    show (W.varsL [] as).length ≤ W.szs as + 2
    simp at this
    omega
theorem W.varsL_len : ∀ (acc : List Str) (as : List W), (W.varsL acc as).length ≤ acc.length + W.szs as
  | acc, [] => Nat.le_refl _
  | acc, a :: r => by
    have h1 := W.vars_len a
    have h2 := W.varsL_len (acc ++ a.vars.filter fun s => !acc.contains s) r
    have h3 := List.length_filter_le (fun s => !acc.contains s) a.vars
    rw [List.length_append] at h2
    show _ ≤ acc.length + (a.sz + W.szs r)
    show (W.varsL (acc ++ a.vars.filter fun s => !acc.contains s) r).length ≤ _
    omega
end
theorem W.varsL_snoc : ∀ (as : List W) (x : W) (acc : List Str), W.varsL acc (as ++ [x]) = W.varsL acc as ++ x.vars.filter fun s => !(W.varsL acc as).contains s
  | [], x, acc => rfl
  | a :: r, x, acc => W.varsL_snoc r x _
theorem given_sVs_to {xs : List Str} {f : Str → Bool} : ∀ n : Nat, n ≤ xs.length → given n (fun i => ((xs[i]?).map f).getD false) (fun i => ((xs[i]?).map V.str).getD .non) = sVs ((xs.take n).filter f)
  | 0, _ => by simp [given, sVs]
  | n + 1, h => by
    have ih := given_sVs_to (xs := xs) (f := f) n (by omega)
    obtain ⟨x, hx⟩ : ∃ x, xs[n]? = some x := ⟨xs[n], by simp⟩
    rw [take_snoc hx, List.filter_append]
    cases hf : f x with
    | true =>
      rw [given_yes (by rw [hx]; exact hf), ih, hx]
      show sVs _ ++ [V.str x] = _
      unfold sVs
      rw [List.filter_cons, if_pos hf, List.map_append]
      rfl
    | false =>
      rw [given_no (by rw [hx]; exact hf), ih, List.filter_cons, if_neg (by rw [hf]; decide)]
      simp
theorem given_sVs {xs : List Str} {f : Str → Bool} {n : Nat} (hn : n = xs.length) : given n (fun i => ((xs[i]?).map f).getD false) (fun i => ((xs[i]?).map V.str).getD .non) = sVs (xs.filter f) := by
  rw [given_sVs_to n (by omega), List.take_of_length_le (by omega)]
theorem szs_take (as : List W) (n : Nat) : W.szs (as.take n) ≤ W.szs as := by
  induction as generalizing n with
  | nil => simp [W.szs]
  | cons c l ih =>
    cases n with
    | zero => exact Nat.zero_le _
    | succ n =>
      have := ih n
      show c.sz + W.szs (l.take n) ≤ c.sz + W.szs l
      omega
theorem ok_variables_in (T : T23 P w K mg base) : ∀ m, Ok P w K mg base CX0 "variables_in" ["word"] (m + 1) (spVa m)
  | 0 => T.ok 8 rfl sc_va (fun vs H Q E h => by obtain ⟨v, z, rfl, _⟩ := h; rfl) (fun kV doc pm an cdv ct us hl => match us, hl with | [_], _ => rfl) (fun f cdv A outer s H vs Q E hr h => by obtain ⟨v, z, _, _, h0, _⟩ := h; exact absurd h0 (Nat.not_lt_zero _))
  | m + 1 => by
    obtain ⟨fR, dR, GR, bR, kR, mR⟩ := (ok_variables_in T m).ex
    refine T.ok 8 rfl sc_va (fun vs H Q E h => ?_) (fun kV doc pm an cdv ct us hl => match us, hl with | [_], _ => rfl) (fun f cdv A outer s H vs Q E hr h => ?_)
    · obtain ⟨v, z, rfl, _⟩ := h
      rfl
    · obtain ⟨v, z, rfl, hw, hz, hm, hs, k⟩ := h
      refine ⟨_, pss_cons (ps_if (pt_val (pe_isiB T.isi T.str PyProof.Rows.boot_str (pv 0))) (pss_one (ps_ret (pe_lst (pa_cons (pv 0) pa_nil)))) pss_nil)
        (pss_cons (ps_set (i := 1) sc_va.nd rfl (Or.inr rfl) (pe_lst pa_nil))
        (pss_cons (ps_for PassesOwn.never rfl (pi_tup (pe_slice sl_tup (pv 0) (po_some pe_int) po_none)) (pg_name (i := 2) sc_va.nd rfl (Or.inl rfl))
          (pss_one (ps_expr (pe_bm PySem.F.plainAttrs_list PySem.F.slot_list_extend PySem.F.type_list_extend mt_extend (pv 1) (pa_cons
            (pe_lc (own := [("variable", 3)]) (g := gName 3) (tt := tTest (tOp (rIn K true) (tVar 3) (tVar 1))) (te := tVar 3) rfl sc_va.nd (pi_list (pe_call GR hr (by rfl) mR kR bR .nil pass0 (pa_cons (pv 2) pa_nil))) (blkOk_by (N := nVa) (sc := defScope s_variables_in) (by decide +kernel))
              (fun _ _ _ _ _ => pg_name (i := 3) sc_va.nd rfl (Or.inl rfl)) (fun _ _ _ _ _ => pts_one (pt_cmpR op_notIn_seq (pv 3) (pv 1) (by rfl))) (fun _ _ _ _ _ => pv 3)) pa_nil)))))
        (pss_one (ps_ret (pv 1))))), ?_⟩
      cases z with
      | v sv =>
        obtain rfl : v = .str sv := hw
        exact q_when (b := true) (et_B (ev_isStr (o := .str sv) (ev_var rfl) rfl)) (fun _ H1 e1 => s_retL (el_lst (ea_cons (ev_var rfl) ea_nil) (by show 1 ≤ 100000; decide)) fun p H2 hp e2 h2 => k p H2 (fresh_back e1 hp) (e1.trans e2) h2) fun z => nomatch z
      | n sn as =>
        obtain ⟨r, us, rfl, hr1, hu⟩ := hw.tup
        have hul := hu.length
        have hdp : W.dps as < m := by have : (W.n sn as).dp = W.dps as + 1 := rfl; omega
        have hsz : W.szs as + 2 ≤ 1000 := hs
        refine q_when (b := false) (et_B (ev_isStr (o := (W.n sn as).o) (ev_var rfl) hw)) (fun z => nomatch z) fun _ H1 e1 => ?_
        refine q_asgL (el_lst ea_nil (by show 0 ≤ 100000; decide)) fun p H2 hp e2 h2 => ?_
        have hp0 : H p = none := fresh_back e1 hp
        have e12 := e1.trans e2
        refine q_forNT (eu_tail (ev_var rfl) (st_of (e12 _ _ hr1))) (fun c i σ' H' => Ex H H' ∧ H' c = some (.tup us) ∧ (∃ a : Option V, σ' = [some (.ref r), some (.ref p), a, none]) ∧ H' p = some (.lst (sVs (W.varsL [] (as.take i))))) ?_ ?_ ?_ ?_
        · intro c H3 hc e3 h3
          exact ⟨e12.trans e3, h3, ⟨none, rfl⟩, e3 _ _ h2⟩
        · rintro c i σ' H' hi ⟨_, hc, _⟩
          exact st_of hc
        · rintro c i x σ' H' hx ⟨e3, hc, ⟨a, rfl⟩, h3⟩
          obtain ⟨y, hy, hwy⟩ := (hu.ext e3).getv hx
          have h1 := W.lt_dp hy
          have h2' := W.lt_sz hy
          have hvl := W.vars_len y
          have hvl2 := W.varsL_len [] (as.take i)
          have htk := szs_take as i
          simp at hvl2
          have hcp : c ≠ p := ne_of hc h3 (by intro z; cases z)
          refine s_extL (xs := sVs (W.varsL [] (as.take i))) (zs := sVs (y.vars.filter fun s => !(W.varsL [] (as.take i)).contains s)) h3 (ev_var rfl) ?_ ?_ fun H4 e4 => ?_
          · intro H4 e4 Q4 q4
            refine ⟨x, rfl, x, y, rfl, hwy.ext e4, by omega, by omega, by omega, fun pq H5 hpq e5 h5 => ?_⟩
            have hlv : (sVs y.vars).length = y.vars.length := by unfold sVs; rw [List.length_map]
            refine ⟨pq, rfl, ⟨_, sq_of h5⟩, fun Dl hD => lc_list (xs := sVs y.vars) (Cw H5 (fun i' => ((y.vars[i']?).map fun s => !(W.varsL [] (as.take i)).contains s).getD false) (fun i' => ((y.vars[i']?).map V.str).getD .non) Dl) ⟨hD, Ex.new hD, upd_same⟩ (fun i' H' _ p => sq_of (p.2.1 pq _ h5)) (fun i' x' H' hi' p' => ⟨rfl, ?_⟩) (fun H' p' => ?_)⟩
            · have hxx : ∃ s, y.vars[i']? = some s ∧ x' = .str s := by
                unfold sVs at hi'
                rw [List.getElem?_map] at hi'
                obtain ⟨s, a, b⟩ := Option.map_eq_some_iff.mp hi'
                exact ⟨s, a, b.symm⟩
              obtain ⟨s, hs1, rfl⟩ := hxx
              refine cw_turn p' (by have := (List.getElem?_eq_some_iff.mp hi').1; omega) ?_ fun _ => ?_
              · rw [hs1]
                refine et_is (et_test (ev_op (ev_var rfl) (ev_var rfl) (rv_niL (sq_of ((e4.trans e5) _ _ h3)) rfl (sVs_flat _)))) ?_
                rw [sVs_in]
                rfl
              · rw [hs1]
                exact ev_var rfl
            · refine q4 Dl H' (fresh_back e5 p'.1) (e5.trans p'.2.1) ?_
              rw [p'.2.2, given_sVs hlv]
          · have h5 := List.length_filter_le (fun s => !(W.varsL [] (as.take i)).contains s) y.vars
            unfold sVs
            rw [List.length_map, List.length_map]
            omega
          · refine ⟨Ex.mut (e3.trans e4) hp0, ?_, ⟨_, rfl⟩, ?_⟩
            · rw [upd_ne hcp]
              exact e4 _ _ hc
            · rw [upd_same, take_snoc hy, W.varsL_snoc]
              unfold sVs
              rw [List.map_append]
        · rintro c σ' H' ⟨e3, hc, ⟨a, rfl⟩, h3⟩
          rw [hul, List.take_length] at h3
          exact s_ret (ev_var rfl) fun H4 e4 => k p H4 hp0 (e3.trans e4) (e4 _ _ h3)
end
end K23

set_option Elab.async false
set_option linter.all false
set_option maxRecDepth 100000
set_option maxHeartbeats 4000000
/-! The module's own functions. -/
namespace K23
open PySem PySem.Spec PyProof.Rows L2 Evl
mutual
theorem strip_sz : ∀ o : O, o.strip.sz = o.sz
  | .non => rfl | .bl _ => rfl | .int _ => rfl | .str _ => rfl | .dct => rfl
  | .lst xs => by show O.szs (O.strips xs) + 1 = O.szs xs + 1; rw [strips_sz xs]
  | .tup xs => by show O.szs (O.strips xs) + 1 = O.szs xs + 1; rw [strips_sz xs]
theorem strips_sz : ∀ os : List O, O.szs (O.strips os) = O.szs os
  | [] => rfl
  | x :: xs => by show x.strip.sz + O.szs (O.strips xs) = x.sz + O.szs xs; rw [strip_sz x, strips_sz xs]
end
/-- v stands for the right word z, lists perhaps for tuples -/
structure Lw (H : Hp) (v : V) (z : W) : Prop where
  ex : ∃ o, Rd H v o ∧ o.fitW = true ∧ o.strip = z.o
  dp : z.dp < 12
theorem Lw.ext {H G : Hp} {v : V} {z : W} (e : Ex H G) (h : Lw H v z) : Lw G v z := by
  obtain ⟨⟨o, a, b, c⟩, d⟩ := h
  exact ⟨⟨o, a.ext e, b, c⟩, d⟩
theorem sz_of_strip {o : O} {z : W} (h : o.strip = z.o) : z.sz = o.sz := by rw [← W.osz, ← h, strip_sz]
theorem Lw.sz {H : Hp} {v : V} {z : W} (h : Lw H v z) : z.sz ≤ 900 := by
  obtain ⟨⟨o, a, b, c⟩, d⟩ := h
  rw [sz_of_strip c]
  exact a.sz
/-- v is no word, no atom -/
def NoW (H : Hp) (v : V) : Prop := ∃ o, Rd H v o ∧ o.fitW = false
theorem NoW.ext {H G : Hp} {v : V} (e : Ex H G) (h : NoW H v) : NoW G v := by
  obtain ⟨o, a, b⟩ := h
  exact ⟨o, a.ext e, b⟩
theorem numL_map : ∀ p : List Nat, numL (p.map fun i : Nat => O.int (i : Nat)) = some p
  | [] => rfl
  | i :: p => by
    show numL (O.int (i : Nat) :: _) = _
    unfold numL
    rw [if_pos (Int.natCast_nonneg i), numL_map p]
    rfl
theorem nums_ov {H : Hp} : ∀ p : List Nat, OVs H (nums p) (p.map fun i : Nat => O.int (i : Nat))
  | [] => rfl
  | i :: p => ⟨_, _, rfl, rfl, nums_ov p⟩
theorem nums_sz : ∀ p : List Nat, O.szs (p.map fun i : Nat => O.int (i : Nat)) = p.length
  | [] => rfl
  | i :: p => by show 1 + O.szs (p.map _) = p.length + 1; rw [nums_sz p]; omega
theorem place_ov {H : Hp} {b : Bool} {a : Addr} {p : List Nat} (h : SqB H b a (nums p)) : OV H (.ref a) (O.seq b (p.map fun i : Nat => O.int (i : Nat))) := by
  cases b with
  | true => exact ⟨a, _, rfl, h, nums_ov p⟩
  | false => exact ⟨a, _, rfl, h, nums_ov p⟩
theorem place_good {z : W} {b : Bool} {p : List Nat} : goodP z (O.seq b (p.map fun i : Nat => O.int (i : Nat))) = (z.at p).isSome := by
  have : (O.seq b (p.map fun i : Nat => O.int (i : Nat))).numQ = some p := by
    cases b with
    | true => exact numL_map p
    | false => exact numL_map p
  unfold goodP
  rw [this]
section
variable {P : Program} {w : World} {K : PySem.W.Frag} {mg : Str → Option Value} {base : Heap}
/-- the checked word, then what follows -/
theorem cw_go {σ : L2.St} {H : Hp} {te : TE} {v : V} {z : W} {E : L2.St → XK} {Q : VK} (h : Ev te σ H v) (hw : Lw H v z) (k : ∀ u G, Ex H G → WV G u z → Q u G) : tCallS (spCw K) E (tCons te tNil) σ H Q := by
  obtain ⟨⟨o, rd, hf, hs⟩, _⟩ := hw
  exact h H (Ex.refl H) _ fun H1 e1 => ⟨v, o, rfl, rd.ext e1, fun _ u G e2 hu => k u G (e1.trans e2) (by rw [hs] at hu; exact hu), fun q => by rw [hf] at q; cases q⟩
theorem cw_bad {σ : L2.St} {H : Hp} {te : TE} {v : V} {E : L2.St → XK} {Q : VK} (h : Ev te σ H v) (hw : NoW H v) (k : Bad K "BadWord" v H (E σ)) : tCallS (spCw K) E (tCons te tNil) σ H Q := by
  obtain ⟨o, rd, hf⟩ := hw
  exact h H (Ex.refl H) _ fun H1 e1 => ⟨v, o, rfl, rd.ext e1, (fun q => by rw [hf] at q; cases q), fun _ d G e2 hd => k d G (e1.trans e2) hd⟩
theorem cp_go {σ : L2.St} {H : Hp} {t1 t2 : TE} {u : V} {a : Addr} {b : Bool} {z : W} {p : List Nat} {E : L2.St → XK} {Q : VK} (h1 : Ev t1 σ H u) (h2 : Ev t2 σ H (.ref a)) (hw : WV H u z) (ha : SqB H b a (nums p)) (hl : p.length ≤ 900) (hat : (z.at p).isSome = true) (k : ∀ G, Ex H G → Q .non G) :
    tCallS (spCp K) E (tCons t1 (tCons t2 tNil)) σ H Q :=
  h1 H (Ex.refl H) _ fun H1 e1 => h2 H1 e1 _ fun H2 e2 => ⟨u, .ref a, z, _, rfl, hw.ext (e1.trans e2), place_ov (ha.ext (e1.trans e2)), by rw [O.seq_sz, nums_sz]; omega, fun _ G e3 => k G ((e1.trans e2).trans e3), fun q => by rw [place_good, hat] at q; cases q⟩
theorem cp_bad {σ : L2.St} {H : Hp} {t1 t2 : TE} {u v : V} {z : W} {o : O} {E : L2.St → XK} {Q : VK} (h1 : Ev t1 σ H u) (h2 : Ev t2 σ H v) (hw : WV H u z) (ho : OV H v o) (hz : o.sz ≤ 1000) (hg : goodP z o = false) (k : Bad K "BadPlace" v H (E σ)) :
    tCallS (spCp K) E (tCons t1 (tCons t2 tNil)) σ H Q :=
  h1 H (Ex.refl H) _ fun H1 e1 => h2 H1 e1 _ fun H2 e2 => ⟨u, v, z, o, rfl, hw.ext (e1.trans e2), ho.ext (e1.trans e2), hz, (fun q => by rw [hg] at q; cases q), fun _ d G e3 hd => k d G ((e1.trans e2).trans e3) hd⟩
theorem Bad.mono {x : Str} {v : V} {H G : Hp} {E : XK} (h : Bad K x v H E) (e : Ex H G) : Bad K x v G E := fun d G2 e2 hd => h d G2 (e.trans e2) hd
def spP1 (K : PySem.W.Frag) (T : W → Hp → VK → Prop) : Sp := fun vs H Q E => ∃ v, vs = [v] ∧ ((∃ z, Lw H v z ∧ T z H Q) ∨ (NoW H v ∧ Bad K "BadWord" v H E))
theorem spP1_len {T : W → Hp → VK → Prop} {vs : List V} {H : Hp} {Q : VK} {E : XK} (h : spP1 K T vs H Q E) : vs.length = 1 := by
  obtain ⟨v, rfl, _⟩ := h
  rfl
def tPlaces : W → Hp → VK → Prop := fun z H Q => ∀ p xs H', H p = none → Ex H H' → H' p = some (.lst xs) → A2 (PlV (fun l => H l = none ∧ l ≠ p) H') xs (plc z) → Q (.ref p) H'
theorem sc_p1 : FnScope ["word"] ["word"] (defScope s_places) := ⟨rfl, rfl, rfl, by decide +kernel, rfl, by decide +kernel, by decide +kernel⟩
theorem ok_places (T : T23 P w K mg base) : Ok P w K mg base (L2.CX P w) "places" ["word"] 14 (spP1 K tPlaces) := by
  obtain ⟨fC, dC, GC, bC, kC, mC⟩ := (ok_checked_word T).ex
  obtain ⟨fR, dR, GR, bR, kR, mR⟩ := (ok_places_in T 12).ex
  refine T.okX 21 rfl sc_p1 (fun vs H Q E h => spP1_len h) (fun kV doc pm an cdv ct us hl => match us, hl with | [_], _ => rfl) (fun f cdv A outer s H vs Q E hr h => ?_)
  obtain ⟨v, rfl, h⟩ := h
  refine ⟨_, pss_one (ps_ret (pe_call GR hr (by rfl) mR kR bR .nil pass0 (pa_cons (pe_callS GC (hr.mono (by decide)) (by rfl) mC kC bC (fun σ => passAt (takes_of rfl rfl rfl rfl) σ) (pa_cons (pv 0) pa_nil)) pa_nil))), ?_⟩
  rcases h with ⟨z, hw, k⟩ | ⟨hn, k⟩
  · refine cw_go (ev_var rfl) hw fun u G e hu => ⟨u, z, rfl, hu, hw.dp, by decide, by have := hw.sz; omega, fun p xs H' hp e2 h2 hA => k p xs H' (fresh_back e hp) (e.trans e2) h2 (hA.mono fun a b q => q.mut (fun _ _ _ h => h) fun c q => ⟨fresh_back e q.1, q.2⟩)⟩
  · exact cw_bad (ev_var rfl) hn k
def tDepth : W → Hp → VK → Prop := fun z H Q => RetV (.int (z.de : Nat)) H Q
theorem sc_p2 : FnScope ["word"] ["word"] (defScope s_depth) := ⟨rfl, rfl, rfl, by decide +kernel, rfl, by decide +kernel, by decide +kernel⟩
theorem ok_depth (T : T23 P w K mg base) : Ok P w K mg base (L2.CX P w) "depth" ["word"] 14 (spP1 K tDepth) := by
  obtain ⟨fC, dC, GC, bC, kC, mC⟩ := (ok_checked_word T).ex
  obtain ⟨fR, dR, GR, bR, kR, mR⟩ := (ok_depth_of T 12).ex
  refine T.okX 25 rfl sc_p2 (fun vs H Q E h => spP1_len h) (fun kV doc pm an cdv ct us hl => match us, hl with | [_], _ => rfl) (fun f cdv A outer s H vs Q E hr h => ?_)
  obtain ⟨v, rfl, h⟩ := h
  refine ⟨_, pss_one (ps_ret (pe_call GR hr (by rfl) mR kR bR .nil pass0 (pa_cons (pe_callS GC (hr.mono (by decide)) (by rfl) mC kC bC (fun σ => passAt (takes_of rfl rfl rfl rfl) σ) (pa_cons (pv 0) pa_nil)) pa_nil))), ?_⟩
  rcases h with ⟨z, hw, k⟩ | ⟨hn, k⟩
  · exact cw_go (ev_var rfl) hw fun u G e hu => ⟨u, z, rfl, hu, hw.dp, by decide, by have := hw.sz; omega, fun H' e2 => k H' (e.trans e2)⟩
  · exact cw_bad (ev_var rfl) hn k
def tVars : W → Hp → VK → Prop := fun z H Q => ∀ p H', H p = none → Ex H H' → H' p = some (.lst (sVs z.vars)) → Q (.ref p) H'
theorem sc_p3 : FnScope ["word"] ["word"] (defScope s_variables_of) := ⟨rfl, rfl, rfl, by decide +kernel, rfl, by decide +kernel, by decide +kernel⟩
theorem ok_variables_of (T : T23 P w K mg base) : Ok P w K mg base (L2.CX P w) "variables_of" ["word"] 14 (spP1 K tVars) := by
  obtain ⟨fC, dC, GC, bC, kC, mC⟩ := (ok_checked_word T).ex
  obtain ⟨fR, dR, GR, bR, kR, mR⟩ := (ok_variables_in T 12).ex
  refine T.okX 26 rfl sc_p3 (fun vs H Q E h => spP1_len h) (fun kV doc pm an cdv ct us hl => match us, hl with | [_], _ => rfl) (fun f cdv A outer s H vs Q E hr h => ?_)
  obtain ⟨v, rfl, h⟩ := h
  refine ⟨_, pss_one (ps_ret (pe_call GR hr (by rfl) mR kR bR .nil pass0 (pa_cons (pe_callS GC (hr.mono (by decide)) (by rfl) mC kC bC (fun σ => passAt (takes_of rfl rfl rfl rfl) σ) (pa_cons (pv 0) pa_nil)) pa_nil))), ?_⟩
  rcases h with ⟨z, hw, k⟩ | ⟨hn, k⟩
  · exact cw_go (ev_var rfl) hw fun u G e hu => ⟨u, z, rfl, hu, hw.dp, by decide, by have := hw.sz; omega, fun p H' hp e2 h2 => k p H' (fresh_back e hp) (e.trans e2) h2⟩
  · exact cw_bad (ev_var rfl) hn k
/-- a place: right, or what is none -/
inductive PlOk (H : Hp) (z : W) (v : V) : Option (List Nat) → Prop
  | yes {a : Addr} {b : Bool} {p : List Nat} : v = .ref a → SqB H b a (nums p) → p.length ≤ 30 → (z.at p).isSome = true → PlOk H z v (some p)
  | no {o : O} : OV H v o → o.sz ≤ 1000 → goodP z o = false → PlOk H z v none
def spWa (K : PySem.W.Frag) : Sp := fun vs H Q E => ∃ v x, vs = [v, x] ∧ ((NoW H v ∧ Bad K "BadWord" v H E) ∨ ∃ z, Lw H v z ∧ ((PlOk H z x none ∧ Bad K "BadPlace" x H E) ∨ ∃ p y, PlOk H z x (some p) ∧ z.at p = some y ∧ ∀ (r : V) (G : Hp), Ex H G → WV G r y → Q r G))
theorem sc_wa : FnScope ["word", "place", "told"] ["word", "place"] (defScope s_word_at) := ⟨rfl, rfl, rfl, by decide +kernel, rfl, by decide +kernel, by decide +kernel⟩
theorem ok_word_at (T : T23 P w K mg base) : Ok P w K mg base (L2.CX P w) "word_at" ["word", "place"] 8 (spWa K) := by
  obtain ⟨fC, dC, GC, bC, kC, mC⟩ := (ok_checked_word T).ex
  obtain ⟨fP, dP, GP, bP, kP, mP⟩ := (ok_check_place T).ex
  obtain ⟨fR, dR, GR, bR, kR, mR⟩ := (ok_part_at T).ex
  refine T.okX 22 rfl sc_wa (fun vs H Q E h => ?_) (fun kV doc pm an cdv ct us hl => match us, hl with | [_, _], _ => rfl) (fun f cdv A outer s H vs Q E hr h => ?_)
  · obtain ⟨v, x, rfl, _⟩ := h
    rfl
  obtain ⟨v, x, rfl, h⟩ := h
  refine ⟨_, pss_cons (ps_set (i := 2) sc_wa.nd rfl (Or.inl rfl) (pe_callS GC hr (by rfl) mC kC bC (fun σ => passAt (takes_of rfl rfl rfl rfl) σ) (pa_cons (pv 0) pa_nil)))
    (pss_cons (ps_expr (pe_callS GP (hr.mono (by decide)) (by rfl) mP kP bP (fun σ => passAt (takes_of rfl rfl rfl rfl) σ) (pa_cons (pv 2) (pa_cons (pv 1) pa_nil))))
    (pss_one (ps_ret (pe_call GR (hr.mono (by decide)) (by rfl) mR kR bR .nil pass0 (pa_cons (pv 2) (pa_cons (pv 1) pa_nil)))))), ?_⟩
  rcases h with ⟨hn, k⟩ | ⟨z, hw, ⟨hp, k⟩ | ⟨p, y, hp, hy, k⟩⟩
  · exact cw_bad (ev_var rfl) hn k
  · refine cw_go (ev_var rfl) hw fun u G e hu => ?_
    cases hp with
    | no ho hz hg => exact cp_bad (ev_var rfl) (ev_var rfl) hu (ho.ext e) hz hg (k.mono e)
  · refine cw_go (ev_var rfl) hw fun u G e hu => ?_
    cases hp with
    | @yes a b p ex ha hl hat =>
      subst ex
      refine cp_go (ev_var rfl) (ev_var rfl) hu (ha.ext e) (by omega) hat fun G2 e2 => ?_
      refine ⟨u, rfl, .ref a, rfl, u, a, b, z, p, rfl, hu.ext e2, ha.ext (e.trans e2), fun r G3 e3 hr3 => k r G3 ((e.trans e2).trans e3) ?_⟩
      rw [hy] at hr3
      exact hr3
end
end K23

set_option Elab.async false
set_option linter.all false
set_option maxRecDepth 100000
set_option maxHeartbeats 4000000
/-! word_put. -/
namespace K23
open PySem PySem.Spec PyProof.Rows L2 Evl
def W.noEq : W → Bool
  | .v _ => true
  | .n s _ => !(s == "=")
theorem strip_str {x : O} {s : Str} (h : x.strip = .str s) : x = .str s := by
  cases x with
  | str t => exact h
  | _ => cases h
theorem eq_of_noEqL {xs : List O} {s : Str} {ys : List O} (h : O.strips xs = .str s :: ys) (k : (s == "=") = false) : eqL xs = false := by
  match xs, h with
  | x :: r, h =>
    have h1 : x.strip = .str s := (List.cons.inj h).1
    rw [strip_str h1]
    unfold eqL
    split
    · rename_i t a b e
      obtain rfl : s = t := by
        have := (List.cons.inj e).1
        exact O.str.inj this
      exact k
    · rfl
theorem eq_of_noEq {o : O} {z : W} (h : o.strip = z.o) (k : z.noEq = true) : o.eqB = false := by
  cases z with
  | v s => rw [strip_str h]; rfl
  | n s as =>
    have k2 : (s == "=") = false := by simpa [W.noEq] using k
    cases o with
    | lst xs => exact eq_of_noEqL (O.tup.inj h) k2
    | tup xs => exact eq_of_noEqL (O.tup.inj h) k2
    | _ => cases h
section
variable {P : Program} {w : World} {K : PySem.W.Frag} {mg : Str → Option Value} {base : Heap}
def spWu (K : PySem.W.Frag) : Sp := fun vs H Q E => ∃ v x q, vs = [v, x, q] ∧ ((NoW H v ∧ Bad K "BadWord" v H E) ∨ ∃ z, Lw H v z ∧ ((PlOk H z x none ∧ Bad K "BadPlace" x H E) ∨ ∃ p, PlOk H z x (some p) ∧
  ((p = [] ∧ NoW H q ∧ Bad K "BadWord" q H E) ∨ ∃ y, Lw H q y ∧ y.noEq = true ∧ ∀ (r : V) (G : Hp), Ex H G → WV G r (z.put p y) → Q r G)))
abbrev nWu : List Str := ["word", "place", "part", "told"]
theorem sc_wu : FnScope nWu ["word", "place", "part"] (defScope s_word_put) := ⟨rfl, rfl, rfl, by decide +kernel, rfl, by decide +kernel, by decide +kernel⟩
theorem ok_word_put (T : T23 P w K mg base) : Ok P w K mg base (L2.CX P w) "word_put" ["word", "place", "part"] 33 (spWu K) := by
  obtain ⟨fC, dC, GC, bC, kC, mC⟩ := (ok_checked_word T).ex
  obtain ⟨fP, dP, GP, bP, kP, mP⟩ := (ok_check_place T).ex
  obtain ⟨fE, dE, GE, bE, kE, mE⟩ := (ok_is_equality T).ex
  obtain ⟨fR, dR, GR, bR, kR, mR⟩ := (ok_with_part T 31).ex
  refine T.okX 23 rfl sc_wu (fun vs H Q E h => ?_) (fun kV doc pm an cdv ct us hl => match us, hl with | [_, _, _], _ => rfl) (fun f cdv A outer s H vs Q E hr h => ?_)
  · obtain ⟨v, x, q, rfl, _⟩ := h
    rfl
  obtain ⟨v, x, q, rfl, h⟩ := h
  refine ⟨_, pss_cons (ps_set (i := 3) sc_wu.nd rfl (Or.inl rfl) (pe_callS GC (hr.mono (by decide)) (by rfl) mC kC bC (fun σ => passAt (takes_of rfl rfl rfl rfl) σ) (pa_cons (pv 0) pa_nil)))
    (pss_cons (ps_expr (pe_callS GP (hr.mono (by decide)) (by rfl) mP kP bP (fun σ => passAt (takes_of rfl rfl rfl rfl) σ) (pa_cons (pv 3) (pa_cons (pv 1) pa_nil))))
    (pss_cons (ps_if (PW.pt (pw_and (pt_cmpR op_gt (pe_callB call_len (by rfl) T.len PySem.boot_len (pa_cons (pv 1) pa_nil)) pe_int (nomark _)) (pw_and1 (pt_val (pe_call GE (hr.mono (by decide)) (by rfl) mE kE bE .nil pass0 (pa_cons (pv 2) pa_nil))))))
      (pss_one (ps_raiseE rfl T.bw (takes_of rfl rfl rfl rfl) (hr.mono (by decide)) (pv 2))) pss_nil)
    (pss_one (ps_ret (pe_call GR hr (by rfl) mR kR bR .nil pass0 (pa_cons (pv 3) (pa_cons (pv 1) (pa_cons (pe_callS GC (hr.mono (by decide)) (by rfl) mC kC bC (fun σ => passAt (takes_of rfl rfl rfl rfl) σ) (pa_cons (pv 2) pa_nil)) pa_nil)))))))), ?_⟩
  rcases h with ⟨hn, k⟩ | ⟨z, hw, ⟨hp, k⟩ | ⟨p, hp, h⟩⟩
  · exact cw_bad (ev_var rfl) hn k
  · refine cw_go (ev_var rfl) hw fun u G e hu => ?_
    cases hp with
    | no ho hz hg => exact cp_bad (ev_var rfl) (ev_var rfl) hu (ho.ext e) hz hg (k.mono e)
  · refine cw_go (ev_var rfl) hw fun u G e hu => ?_
    cases hp with
    | @yes a b p ex ha hl hat =>
      subst ex
      refine cp_go (ev_var rfl) (ev_var rfl) hu (ha.ext e) (by omega) hat fun G2 e2 => ?_
      have e02 := e.trans e2
      have hlen : Ev (tLen K (tVar 1)) [some v, some (.ref a), some q, some u] G2 (.int ((nums p).length : Nat)) := ev_lenQ (ev_var rfl) (ha.ext e02)
      rw [nums_len] at hlen
      rcases h with ⟨rfl, hn, k⟩ | ⟨y, hy, hne, k⟩
      · refine q_when (b := false) (et_is (et_and (a := false) (b := false) (et_is (et_test (ev_op hlen ev_c rv_I0)) (by decide)) fun z => nomatch z) rfl) (fun z => nomatch z) fun _ G3 e3 => ?_
        refine ⟨u, rfl, .ref a, rfl, ?_⟩
        exact cw_bad (E := WE (fun cls d _ H => E cls d H)) (ev_var rfl) (hn.ext (e02.trans e3)) (k.mono (e02.trans e3))
      · obtain ⟨⟨o, rd, hf, hs⟩, hd⟩ := hy
        have heq := eq_of_noEq hs hne
        refine q_when (b := decide (0 < p.length) && false) (et_and (a := decide (0 < p.length)) (et_is (et_test (ev_op hlen ev_c rv_I0)) (by
            by_cases q : 0 < p.length
            · rw [decide_eq_true q, decide_eq_true (by omega)]
            · rw [decide_eq_false q, decide_eq_false (by omega)])) fun _ => et_is (et_B (ev_call (ea_cons (ev_var rfl) ea_nil) (spv_F0 (rd.ext e02).ov rd.ss rd.sz rd.e3))) heq) (fun z => by rw [Bool.and_false] at z; cases z) fun _ G3 e3 => ?_
        refine ⟨u, rfl, .ref a, rfl, ?_⟩
        have e03 := e02.trans e3
        refine cw_go (E := WE (fun cls d _ H => E cls d H)) (ev_var rfl) (Lw.ext e03 ⟨⟨o, rd, hf, hs⟩, hd⟩) fun r G4 e4 hr4 => ?_
        have hsz := hw.sz
        exact ⟨u, r, a, b, z, y, p, rfl, (hu.ext (e2.trans e3)).ext e4, ha.ext (e03.trans e4), hr4, by omega, by decide, by omega, hat, fun r5 G5 e5 h5 => k r5 G5 ((e03.trans e4).trans e5) h5⟩
end
end K23

set_option Elab.async false
set_option linter.all false
set_option maxRecDepth 100000
set_option maxHeartbeats 4000000
/-! The law's spring of draws. -/
namespace K23
open PySem PySem.Spec PyProof.Rows
open L2 Evl
/-- the spring at p: the cells left at q, what is left of a great one, how many were drawn, what all of them mix -/
structure Stm (H : Hp) (p q : Addr) (L : List Int) (a n t : Int) : Prop where
  hp : H p = some (.lst [.ref q, .int a, .int n, .int t])
  hq : H q = some (.lst (L.map V.int))
  ne : p ≠ q
  a0 : 0 ≤ a
  n0 : 0 ≤ n
  t0 : 0 ≤ t
  t1 : t < 2147483647
/-- all but two objects stay -/
def But (p q : Addr) (H G : Hp) : Prop := ∀ b o, b ≠ p → b ≠ q → H b = some o → G b = some o
def spDraw : Sp := fun vs H Q _ => ∃ (p q : Addr) (L : List Int) (a n t m : Int), vs = [.ref p, .int m] ∧ Stm H p q L a n t ∧ n < 100000 ∧ 1 ≤ m ∧ m ≤ 1000 ∧
  ∀ (r : Int) (G : Hp) (L' : List Int) (a' t' : Int), 0 ≤ r → r < m → Stm G p q L' a' (n + 1) t' → But p q H G → Q (.int r) G
theorem scD : FnScope ["_law_stream", "_law_many", "_law_cell", "_law_digit", "_law_mixed"] ["_law_stream", "_law_many"] (defScope s__law_draw) := ⟨rfl, rfl, rfl, by decide +kernel, rfl, by decide +kernel, by decide +kernel⟩
theorem dp_ints {K : PySem.W.Frag} {H : Hp} : ∀ L : List Int, DpAll K H (L.map V.int) (L.map PyData.int)
  | [] => .nil
  | i :: r => .cons (.int i) (dp_ints r)
theorem lay_ints : ∀ L : List Int, PyData.canLayAll0 (L.map PyData.int) = true
  | [] => rfl
  | _ :: r => by
    show (PyData.canLay0 (.int _) && PyData.canLayAll0 (r.map PyData.int)) = true
    rw [lay_ints r]
    rfl
theorem depth_ints : ∀ L : List Int, PyData.depthAll (L.map PyData.int) ≤ 1
  | [] => Nat.zero_le _
  | _ :: r => by
    show max (PyData.depth (.int _)) (PyData.depthAll (r.map PyData.int)) ≤ 1
    exact Nat.max_le.mpr ⟨Nat.zero_le _, depth_ints r⟩
theorem shaped_ints (L : List Int) : SeqAt.shaped (.list (L.map PyData.int)) = true := by
  unfold SeqAt.shaped
  rw [Bool.and_eq_true]
  refine ⟨lay_ints L, decide_eq_true ?_⟩
  have h := depth_ints L
  show PyData.depthAll (L.map PyData.int) + 1 ≤ 64
  omega
/-! ### reading and storing at places of a list -/
theorem ixr {K : PySem.W.Frag} {σ : L2.St} {H : Hp} {Q : VK} {i j : Nat} {z : Int} {p : Addr} {xs : List V} {v : V} (hs : σ[i]? = some (some (.ref p))) (hp : H p = some (.lst xs)) (hz : z = (j : Int)) (hj : xs[j]? = some v) (h : Q v H) :
    tOp (rIxL K) (tVar i) (tC (V.int z)) σ H Q := by
  subst hz
  exact ⟨_, hs, p, xs, _, v, rfl, rfl, SqL.of hp, atI_nat hj, h⟩
theorem ixn {m j : Nat} (hj : j < m) : ixN m (j : Int) = some j := by
  unfold ixN
  rw [if_pos (Int.natCast_nonneg j), if_pos (Int.ofNat_lt.mpr hj), Int.toNat_natCast]
theorem setr {σ : L2.St} {H : Hp} {Q : L2.St → Hp → Prop} {i j : Nat} {z : Int} {p : Addr} {xs : List V} {v : V} (hs : σ[i]? = some (some (.ref p))) (hp : H p = some (.lst xs)) (hz : z = (j : Int)) (hj : j < xs.length)
    (h : Q σ (upd H p (.lst (xs.set j v)))) : gSub (tVar i) (tC (V.int z)) rSetL v σ H Q := by
  subst hz
  exact ⟨_, hs, p, xs, _, j, rfl, rfl, hp, ixn hj, h⟩
theorem But.refl {p q : Addr} {H : Hp} : But p q H H := fun _ _ _ _ e => e
theorem But.trans {p q : Addr} {H G J : Hp} (a : But p q H G) (b : But p q G J) : But p q H J := fun c o n1 n2 e => b c o n1 n2 (a c o n1 n2 e)
theorem But.l {p q : Addr} {H : Hp} {o : HO} : But p q H (upd H p o) := fun b u n1 _ e => by rw [upd_ne n1]; exact e
theorem But.r {p q : Addr} {H : Hp} {o : HO} : But p q H (upd H q o) := fun b u _ n2 e => by rw [upd_ne n2]; exact e
theorem But.of {p q : Addr} {H G : Hp} (k : Ex H G) : But p q H G := fun b o _ _ e => k b o e
section
variable {H G : Hp} {p q : Addr} {L : List Int} {a n t : Int}
theorem Stm.ext (S : Stm H p q L a n t) (k : Ex H G) : Stm G p q L a n t := ⟨k _ _ S.hp, k _ _ S.hq, S.ne, S.a0, S.n0, S.t0, S.t1⟩
theorem Stm.put (S : Stm H p q L a n t) {a' n' t' : Int} (h1 : 0 ≤ a') (h2 : 0 ≤ n') (h3 : 0 ≤ t') (h4 : t' < 2147483647) : Stm (upd H p (.lst [.ref q, .int a', .int n', .int t'])) p q L a' n' t' :=
  ⟨upd_same, by rw [upd_ne S.ne.symm]; exact S.hq, S.ne, h1, h2, h3, h4⟩
theorem Stm.cut (S : Stm H p q L a n t) (L' : List Int) : Stm (upd H q (.lst (L'.map V.int))) p q L' a n t :=
  ⟨by rw [upd_ne S.ne]; exact S.hp, upd_same, S.ne, S.a0, S.n0, S.t0, S.t1⟩
end
/-! ### the readings -/
def dIx (K : PySem.W.Frag) (j : Int) : TE := tOp (rIxL K) (tVar 0) (tC (.int j))
def dNum (t : TE) : TE := tCB (fun xs H Q => (∃ i, xs = [V.int i] ∧ Q (.int i) H) ∨ ∃ k, xs = [V.bl k] ∧ Q (.int (if k = true then 1 else 0)) H) (tCons t tNil)
abbrev dAdd : TE → TE → TE := tOp (rI0 fun i j => .int (i + j))
abbrev dMul : TE → TE → TE := tOp (rI CMul fun i j => .int (i * j))
abbrev dMod : TE → TE → TE := tOp (rI (fun _ j => 0 < j) fun i j => .int (i % j))
abbrev dPow : TE → TE → TE := tOp (rI CPow fun i j => .int (i ^ j.toNat))
abbrev nC (i : Int) : TE := tC (.int i)
def dSet (j : Int) (te : TE) : TS := tAsg te (gSub (tVar 0) (nC j) rSetL)
def dTest (K : PySem.W.Frag) : TT := tAnd (tTest (tOp rEq (dIx K 1) (nC 0))) (tTest (tOp (rNeD K) (dIx K 0) (tLst tNil)))
def dTurn (K : PySem.W.Frag) : TS := tSeq (tAsg (tBM K "list" rPopAt (dIx K 0) (tCons (nC 0) tNil)) (gName 2))
  (tSeq (dSet 3 (dMod (dNum (dAdd (dAdd (dMul (dIx K 3) (nC 8191)) (tVar 2)) (nC 3))) (nC 2147483647)))
  (dSet 1 (tIf (tTest (tOp (rI0 fun i j => .bl (decide (j ≤ i))) (tVar 2) (dPow (nC 10) (nC 18)))) (tVar 2) (nC 0))))
def dEnd (K : PySem.W.Frag) : TS := tSeq (tIfS (tTest (tOp (rI0 fun i j => .bl (decide (j < i))) (dIx K 1) (nC 0)))
    (tSeq (tAsg (dMod (dNum (dIx K 1)) (tVar 1)) (gName 3)) (tSeq (dSet 1 (tOp (rI CDivN fun i j => .int (i.fdiv j)) (dIx K 1) (tVar 1))) (tRet (tVar 3)))) tNext)
  (tSeq (tAsg (dMod (dNum (dPow (dAdd (dAdd (dIx K 3) (dMul (nC 7919) (dIx K 2))) (nC 104729)) (nC 5))) (nC 2147483629)) (gName 4))
  (tRet (dMod (dMod (dNum (dPow (dAdd (dAdd (dMul (tVar 4) (nC 48271)) (dMul (nC 30011) (dIx K 2))) (nC 29)) (nC 3))) (nC 1000000007)) (tVar 1))))
def dAll (K : PySem.W.Frag) : TS := tSeq (dSet 2 (dAdd (dIx K 2) (nC 1))) (tSeq (tWhile (dTest K) (dTurn K)) (dEnd K))
section
variable {K : PySem.W.Frag}
theorem turn_ok {D : Ends} {σ : L2.St} {H : Hp} {p q : Addr} {c a n t : Int} {L : List Int} (S : Stm H p q (c :: L) a n t) (s0 : σ[0]? = some (some (.ref p))) (sl : σ.length = 5)
    (h : ∀ (G : Hp) (a' t' : Int), Stm G p q L a' n t' → But p q H G → D.nx (σ.set 2 (some (.int c))) G) : dTurn K D σ H := by
  have e0 : (σ.set 2 (some (V.int c)))[0]? = some (some (.ref p)) := by rw [List.getElem?_set_ne (by decide)]; exact s0
  have e2 : (σ.set 2 (some (V.int c)))[2]? = some (some (.int c)) := List.getElem?_set_self (by omega)
  refine ixr (j := 0) s0 S.hp rfl rfl ⟨.inl ⟨rfl, _, SqL.of S.hq⟩, q, _, 0, 0, .int c, rfl, rfl, S.hq, by decide, by decide, ?_, rfl, ?_⟩
  · unfold seqIndex?
    simp
  have S1 : Stm (upd H q (.lst (L.map V.int))) p q L a n t := S.cut L
  have t0 := S.t0
  have t1 := S.t1
  -- what all of them mix
  refine ixr (j := 3) e0 S1.hp rfl rfl ⟨_, _, rfl, rfl, .inl ⟨by omega, by omega⟩, _, e2, _, _, rfl, rfl, _, _, rfl, rfl, .inl ⟨_, rfl, _, _, rfl, rfl, (show (0 : Int) < 2147483647 by decide), ?_⟩⟩
  refine setr (j := 3) e0 S1.hp rfl (by show 3 < 4; omega) ?_
  have m0 := Int.emod_nonneg (t * 8191 + c + 3) (show (2147483647 : Int) ≠ 0 by decide)
  have m1 := Int.emod_lt_of_pos (t * 8191 + c + 3) (show (0 : Int) < 2147483647 by decide)
  have S2 := S1.put (a' := a) (n' := n) (t' := (t * 8191 + c + 3) % 2147483647) S.a0 S.n0 m0 m1
  have B2 : But p q H (upd (upd H q (.lst (L.map V.int))) p (.lst [.ref q, .int a, .int n, .int ((t * 8191 + c + 3) % 2147483647)])) := But.trans But.r But.l
  refine ⟨_, e2, _, _, rfl, rfl, ⟨by decide, by decide, by decide⟩, _, _, rfl, rfl, _, rfl, ?_⟩
  by_cases hc : (10 : Int) ^ (18 : Int).toNat ≤ c
  · rw [decide_eq_true hc]
    refine iteT ⟨_, e2, ?_⟩
    refine setr (j := 1) e0 S2.hp rfl (by show 1 < 4; omega) (h _ _ _ (S2.put (a' := c) ?_ S.n0 m0 m1) (B2.trans But.l))
    have z : (0 : Int) ≤ 10 ^ (18 : Int).toNat := by decide
    omega
  · rw [decide_eq_false hc]
    refine iteF ?_
    exact setr (j := 1) e0 S2.hp rfl (by show 1 < 4; omega) (h _ _ _ (S2.put (a' := 0) (by decide) S.n0 m0 m1) (B2.trans But.l))
theorem fin_ok {D : Ends} {σ : L2.St} {H : Hp} {p q : Addr} {a n t m k : Int} {L : List Int} (S : Stm H p q L a n t) (s0 : σ[0]? = some (some (.ref p))) (s1 : σ[1]? = some (some (.int m))) (sl : σ.length = 5)
    (hn : n ≤ 100000) (hm : 1 ≤ m) (hm2 : m ≤ 1000) (k0 : 0 ≤ k) (k1 : k < 2147483629)
    (h : ∀ (r : Int) (G : Hp) (L' : List Int) (a' t' : Int), 0 ≤ r → r < m → Stm G p q L' a' n t' → But p q H G → D.rt (.int r) G) :
    tRet (dMod (dMod (dNum (dPow (dAdd (dAdd (dMul (tVar 4) (nC 48271)) (dMul (nC 30011) (dIx K 2))) (nC 29)) (nC 3))) (nC 1000000007)) (tVar 1)) D (σ.set 4 (some (V.int k))) H := by
  have n0 := S.n0
  have e0 : (σ.set 4 (some (V.int k)))[0]? = some (some (.ref p)) := by rw [List.getElem?_set_ne (by decide)]; exact s0
  have e1 : (σ.set 4 (some (V.int k)))[1]? = some (some (.int m)) := by rw [List.getElem?_set_ne (by decide)]; exact s1
  have e4 : (σ.set 4 (some (V.int k)))[4]? = some (some (.int k)) := List.getElem?_set_self (by omega)
  refine ⟨_, e4, _, _, rfl, rfl, .inl ⟨by omega, by omega⟩, ?_⟩
  refine ixr (j := 2) e0 S.hp rfl rfl ⟨_, _, rfl, rfl, .inl ⟨by decide, by decide⟩, _, _, rfl, rfl, _, _, rfl, rfl, _, _, rfl, rfl, ⟨by decide, by decide, by omega⟩,
    .inl ⟨_, rfl, _, _, rfl, rfl, (show (0 : Int) < 1000000007 by decide), _, e1, _, _, rfl, rfl, by omega, ?_⟩⟩
  exact h _ _ _ _ _ (Int.emod_nonneg _ (by omega)) (Int.emod_lt_of_pos _ (by omega)) S But.refl
theorem end_ok {Q : VK} {nx : L2.St → Hp → Prop} {σ : L2.St} {H : Hp} {p q : Addr} {a n t m : Int} {L : List Int} (S : Stm H p q L a n t) (s0 : σ[0]? = some (some (.ref p))) (s1 : σ[1]? = some (some (.int m))) (sl : σ.length = 5)
    (hn : n ≤ 100000) (hm : 1 ≤ m) (hm2 : m ≤ 1000)
    (h : ∀ (r : Int) (G : Hp) (L' : List Int) (a' t' : Int), 0 ≤ r → r < m → Stm G p q L' a' n t' → But p q H G → Q (.int r) G) : dEnd K { nx := nx, rt := Q } σ H := by
  have n0 := S.n0
  have t0 := S.t0
  have t1 := S.t1
  have a0 := S.a0
  refine ixr (j := 1) s0 S.hp rfl rfl ⟨_, _, rfl, rfl, _, rfl, ?_⟩
  by_cases ha : 0 < a
  · rw [decide_eq_true ha]
    refine iteT ?_
    have e0 : (σ.set 3 (some (V.int (a % m))))[0]? = some (some (.ref p)) := by rw [List.getElem?_set_ne (by decide)]; exact s0
    have e1 : (σ.set 3 (some (V.int (a % m))))[1]? = some (some (.int m)) := by rw [List.getElem?_set_ne (by decide)]; exact s1
    have e3 : (σ.set 3 (some (V.int (a % m))))[3]? = some (some (.int (a % m))) := List.getElem?_set_self (by omega)
    refine ixr (j := 1) s0 S.hp rfl rfl (.inl ⟨_, rfl, _, s1, _, _, rfl, rfl, by omega, ?_⟩)
    refine ixr (j := 1) e0 S.hp rfl rfl ⟨_, e1, _, _, rfl, rfl, ⟨by omega, by omega⟩, ?_⟩
    refine setr (j := 1) e0 S.hp rfl (by show 1 < 4; omega) ⟨_, e3, ?_⟩
    exact h _ _ _ _ _ (Int.emod_nonneg a (by omega)) (Int.emod_lt_of_pos a (by omega)) (S.put (a' := a.fdiv m) (n' := n) (t' := t) (by rw [Int.fdiv_eq_ediv_of_nonneg _ (by omega)]; exact Int.ediv_nonneg a0 (by omega)) n0 t0 t1) But.l
  · rw [decide_eq_false ha]
    refine iteF ?_
    refine ixr (j := 3) s0 S.hp rfl rfl ?_
    refine ixr (j := 2) s0 S.hp rfl rfl ⟨_, _, rfl, rfl, .inl ⟨by decide, by decide⟩, _, _, rfl, rfl, _, _, rfl, rfl, _, _, rfl, rfl, ⟨by decide, by decide, by omega⟩, .inl ⟨_, rfl, _, _, rfl, rfl, (show (0 : Int) < 2147483629 by decide), ?_⟩⟩
    exact fin_ok S s0 s1 sl hn hm hm2 (Int.emod_nonneg _ (by decide)) (Int.emod_lt_of_pos _ (by decide)) h
theorem all_ok (vs : List V) (H : Hp) (Q : VK) (E : XK) (hs : spDraw vs H Q E) : dAll K { nx := fun _ H' => Q .non H', rt := Q } (L2.start ["_law_stream", "_law_many", "_law_cell", "_law_digit", "_law_mixed"] vs) H := by
  obtain ⟨p, q, L, a, n, t, m, rfl, S, hn, hm, hm2, k⟩ := hs
  -- one more was drawn
  refine ixr (j := 2) rfl S.hp rfl rfl ⟨_, _, rfl, rfl, ?_⟩
  refine setr (j := 2) rfl S.hp rfl (by show 2 < 4; omega) ?_
  have S1 := S.put (a' := a) (n' := n + 1) (t' := t) S.a0 (by have := S.n0; omega) S.t0 S.t1
  refine while_by (fun σ G => ∃ L' a' t', Stm G p q L' a' (n + 1) t' ∧ But p q H G ∧ σ[0]? = some (some (.ref p)) ∧ σ[1]? = some (some (.int m)) ∧ σ.length = 5)
    (fun _ G => match G q with | some (.lst xs) => xs.length | _ => 0) ⟨L, a, t, S1, But.l, rfl, rfl, rfl⟩ ?_ ?_
  · rintro σ G ⟨L', a', t', Z, B, s0, s1, sl⟩
    have fin : ∀ (G' : Hp) (L2 : List Int), Stm G' p q L2 a' (n + 1) t' → But p q H G' → dEnd K { nx := fun _ H' => Q .non H', rt := Q } σ G' := fun G' L2 Z' B' =>
      end_ok Z' s0 s1 sl (by omega) hm hm2 fun r G2 L3 a3 t3 r0 r1 z b => k r G2 L3 a3 t3 r0 r1 z (B'.trans b)
    refine ixr (j := 1) s0 Z.hp rfl rfl ⟨rfl, _, rfl, ?_⟩
    by_cases ha : a' = 0
    · subst ha
      rw [decide_eq_true (rfl : V.int 0 = V.int 0)]
      refine iteT ?_
      refine ixr (j := 0) s0 Z.hp rfl rfl ⟨Nat.zero_le _, fun l hl => ?_⟩
      have Zl := Z.ext (Ex.new (o := .lst []) hl)
      have Bl : But p q H (upd G l (.lst [])) := B.trans (But.of (Ex.new hl))
      refine ⟨.list (L'.map PyData.int), .list [], .lst (SqL.of Zl.hq) (dp_ints L'), .lst (SqL.of upd_same) .nil, shaped_ints L', by decide +kernel, _, rfl, ?_⟩
      cases L' with
      | nil =>
        refine iteF ?_
        exact fin _ [] Zl Bl
      | cons c L' =>
        refine iteT ?_
        refine turn_ok Zl s0 sl fun G2 a2 t2 z b => ⟨⟨L', a2, t2, z, Bl.trans b, by rw [List.getElem?_set_ne (by decide)]; exact s0, by rw [List.getElem?_set_ne (by decide)]; exact s1, by simpa using sl⟩, ?_⟩
        rw [z.hq, Z.hq]
        simp
    · rw [decide_eq_false (fun z => ha (V.int.inj z))]
      exact iteF (fin _ L' Z B)
  · rintro σ G Q1 Q2 hq h
    obtain ⟨v, e1, p1, xs, i, z, y1, y2, y3, y4, y5, kk, y6, h⟩ := h
    refine ⟨v, e1, p1, xs, i, z, y1, y2, y3, y4, y5, kk, y6, ?_⟩
    cases kk with
    | false =>
      rw [if_neg Bool.false_ne_true] at h ⊢
      exact hq _ _ h
    | true =>
      rw [if_pos rfl] at h ⊢
      obtain ⟨v, e1, p1, xs, i, z, y1, y2, y3, y4, y5, y6⟩ := h
      refine ⟨v, e1, p1, xs, i, z, y1, y2, y3, y4, y5, fun l n => ?_⟩
      obtain ⟨d, e, d1, d2, d3, d4, k2, y, z⟩ := y6 l n
      exact ⟨d, e, d1, d2, d3, d4, k2, y, hq _ _ z⟩
end
section
variable {P : Program} {w : World} {K : PySem.W.Frag} {mg : Str → Option Value} {base : Heap}
theorem ok_draw {f : Addr} {fd : FuncData} (F : FnP K "_law_draw" s__law_draw f fd) (mI : mg "int" = none) : FnOk P w K mg base CX0 1 f fd ["_law_stream", "_law_many"] spDraw := by
  refine F.ok scD (fun vs H Q E h => ?_) (fun cdv A outer s H vs Q E hr h => ⟨dAll K, PSs.nox ?_, all_ok vs H Q E h⟩)
  · obtain ⟨p, q, L, a, n, t, m, rfl, _⟩ := h
    rfl
  · exact pss_cons (ps_asg (pe_op op_add (pe_ix ix_list (pv 0) pe_int (fun _ _ => rfl)) pe_int) (pg_sub (pv 0) pe_int set_list))
      (pss_cons (ps_while PassesOwn.never (PW.pt (pw_and (pt_cmpR op_eq (pe_ix ix_list (pv 0) pe_int (fun _ _ => rfl)) pe_int (nomark _))
          (pw_and1 (pt_cmpR (op_neD hr.units) (pe_ix ix_list (pv 0) pe_int (fun _ _ => rfl)) (pe_lst pa_nil) (nomark _)))))
        (pss_cons (ps_set (i := 2) scD.nd rfl (.inl rfl) (pe_bm PySem.F.plainAttrs_list PySem.F.slot_list_pop PySem.F.type_list_pop mt_popAt (pe_ix ix_list (pv 0) pe_int (fun _ _ => rfl)) (pa_cons pe_int pa_nil)))
        (pss_cons (ps_asg (pe_op op_mod (pe_callTy call_int1 (by rfl) mI PySem.Pv.boot_int (pa_cons (pe_op op_add (pe_op op_add (pe_op op_mul (pe_ix ix_list (pv 0) pe_int (fun _ _ => rfl)) pe_int) (pv 2)) pe_int) pa_nil)) pe_int)
          (pg_sub (pv 0) pe_int set_list))
        (pss_one (ps_asg (pe_ifExp (pt_cmpR op_ge (pv 2) (pe_op op_pow pe_int pe_int) (nomark _)) (pv 2) pe_int) (pg_sub (pv 0) pe_int set_list))))))
      (pss_cons (ps_if (pt_cmpR op_gt (pe_ix ix_list (pv 0) pe_int (fun _ _ => rfl)) pe_int (nomark _))
        (pss_cons (ps_set (i := 3) scD.nd rfl (.inl rfl) (pe_op op_mod (pe_callTy call_int1 (by rfl) mI PySem.Pv.boot_int (pa_cons (pe_ix ix_list (pv 0) pe_int (fun _ _ => rfl)) pa_nil)) (pv 1)))
        (pss_cons (ps_asg (pe_op op_fdivN (pe_ix ix_list (pv 0) pe_int (fun _ _ => rfl)) (pv 1)) (pg_sub (pv 0) pe_int set_list))
        (pss_one (ps_ret (pv 3))))) pss_nil)
      (pss_cons (ps_set (i := 4) scD.nd rfl (.inl rfl) (pe_op op_mod (pe_callTy call_int1 (by rfl) mI PySem.Pv.boot_int (pa_cons (pe_op op_pow (pe_op op_add (pe_op op_add (pe_ix ix_list (pv 0) pe_int (fun _ _ => rfl))
          (pe_op op_mul pe_int (pe_ix ix_list (pv 0) pe_int (fun _ _ => rfl)))) pe_int) pe_int) pa_nil)) pe_int))
      (pss_one (ps_ret (pe_op op_mod (pe_op op_mod (pe_callTy call_int1 (by rfl) mI PySem.Pv.boot_int (pa_cons (pe_op op_pow (pe_op op_add (pe_op op_add (pe_op op_mul (pv 4) pe_int)
          (pe_op op_mul pe_int (pe_ix ix_list (pv 0) pe_int (fun _ _ => rfl)))) pe_int) pe_int) pa_nil)) pe_int) (pv 1)))))))
end
end K23

set_option Elab.async false
set_option linter.all false
set_option maxRecDepth 100000
set_option maxHeartbeats 4000000
/-! Draws: start, pick, mixed. -/
namespace K23
open PySem PySem.Spec PyProof.Rows L2 Evl
/-- the spring at p, its cells at q, n drawn -/
def Spr (H : Hp) (p q : Addr) (n : Int) : Prop := ∃ L a t, Stm H p q L a n t
theorem Spr.ext {H G : Hp} {p q : Addr} {n : Int} (e : Ex H G) (h : Spr H p q n) : Spr G p q n := let ⟨L, a, t, s⟩ := h; ⟨L, a, t, s.ext e⟩
theorem Spr.keep {H G : Hp} {p q : Addr} {n : Int} (h : Spr H p q n) (e1 : ∀ o, H p = some o → G p = some o) (e2 : ∀ o, H q = some o → G q = some o) : Spr G p q n := let ⟨L, a, t, s⟩ := h; ⟨L, a, t, e1 _ s.hp, e2 _ s.hq, s.ne, s.a0, s.n0, s.t0, s.t1⟩
theorem Spr.lst {H : Hp} {p q : Addr} {n : Int} (h : Spr H p q n) : ∃ xs ys, H p = some (.lst xs) ∧ H q = some (.lst ys) := let ⟨L, a, t, s⟩ := h; ⟨_, _, s.hp, s.hq⟩
section
variable {P : Program} {w : World} {K : PySem.W.Frag} {mg : Str → Option Value} {base : Heap} {C : Addr}
def spDr : Sp := fun vs H Q _ => ∃ (p q : Addr) (n m : Int), vs = [.ref p, .int m] ∧ Spr H p q n ∧ n < 100000 ∧ 1 ≤ m ∧ m ≤ 1000 ∧
  ∀ (r : Int) (G : Hp), 0 ≤ r → r < m → Spr G p q (n + 1) → But p q H G → Q (.int r) G
theorem ok_dr (T : T23 P w K mg base) : Ok P w K mg base CX0 "_law_draw" ["_law_stream", "_law_many"] 1 spDr := by
  obtain ⟨⟨fd, F⟩, m⟩ := T.df 35 "_law_draw" s__law_draw rfl
  have G := ok_draw (P := P) (w := w) (mg := mg) (base := base) F T.int
  refine ⟨_, fd, ?_, F.bindsN fun kV doc pm an cdv ct us hl => match us, hl with | [_, _], _ => rfl, F.kp, m⟩
  exact FnOk.imp G fun vs H Q E ⟨p, q, n, m, h1, ⟨L, a, t, S⟩, h2, h3, h4, k⟩ => ⟨p, q, L, a, n, t, m, h1, S, h2, h3, h4, fun r G L' a' t' r0 r1 S' B => k r G r0 r1 ⟨L', a', t', S'⟩ B⟩
def spStart (K : PySem.W.Frag) : Sp := fun vs H Q _ => ∃ (a : Addr) (ns : List Int), vs = [.ref a] ∧ SqL K H a (ns.map V.int) ∧ ∀ p q G, H p = none → H q = none → Ex H G → Spr G p q 0 → Q (.ref p) G
theorem sc_start : FnScope ["_law_script"] ["_law_script"] (defScope s__law_start) := ⟨rfl, rfl, rfl, by decide +kernel, rfl, by decide +kernel, by decide +kernel⟩
theorem ok_start (T : T23 P w K mg base) : Ok P w K mg base CX0 "_law_start" ["_law_script"] 1 (spStart K) := by
  refine T.ok 34 rfl sc_start (fun vs H Q E h => ?_) (fun kV doc pm an cdv ct us hl => match us, hl with | [_], _ => rfl) (fun f cdv A outer s H vs Q E hr h => ?_)
  · obtain ⟨a, ns, rfl, _⟩ := h
    rfl
  · obtain ⟨a, ns, rfl, hS, k⟩ := h
    refine ⟨_, pss_one (ps_ret (pe_lst (pa_cons (pe_callTy call_list_of (by rfl) T.list PyProof.Rows.boot_list (pa_cons (pv 0) pa_nil)) (pa_cons pe_int (pa_cons pe_int (pa_cons pe_int pa_nil)))))), ?_⟩
    refine ⟨_, rfl, a, _, rfl, .inl hS, fun l nl => ⟨by show 4 ≤ sizeLine; rw [sizeLine_eq]; omega, fun p np => ?_⟩⟩
    have ne : l ≠ p := fun z => by
      rw [z, upd_same] at np
      cases np
    exact k p l _ (fresh_back (Ex.new nl) np) nl ((Ex.new nl).trans (Ex.new np)) ⟨ns, 0, 11, upd_same, by rw [upd_ne ne, upd_same], ne.symm, Int.le_refl _, Int.le_refl _, by decide, by decide⟩
def spPick (K : PySem.W.Frag) : Sp := fun vs H Q _ => ∃ (p q c : Addr) (n : Int) (xs : List V), vs = [.ref p, .ref c] ∧ Spr H p q n ∧ n < 100000 ∧ H c = some (.lst xs) ∧ c ≠ p ∧ c ≠ q ∧ xs ≠ [] ∧ xs.length ≤ 1000 ∧
  ∀ (y : V) (G : Hp), y ∈ xs → Spr G p q (n + 1) → But p q H G → Q y G
theorem sc_pick : FnScope ["_law_stream", "_law_some"] ["_law_stream", "_law_some"] (defScope s__law_pick) := ⟨rfl, rfl, rfl, by decide +kernel, rfl, by decide +kernel, by decide +kernel⟩
theorem ok_pick (T : T23 P w K mg base) : Ok P w K mg base CX0 "_law_pick" ["_law_stream", "_law_some"] 2 (spPick K) := by
  obtain ⟨fD, dD, GD, bD, kD, mD⟩ := (ok_dr T).ex
  refine T.ok 36 rfl sc_pick (fun vs H Q E h => ?_) (fun kV doc pm an cdv ct us hl => match us, hl with | [_, _], _ => rfl) (fun f cdv A outer s H vs Q E hr h => ?_)
  · obtain ⟨p, q, c, n, xs, rfl, _⟩ := h
    rfl
  · obtain ⟨p, q, c, n, xs, rfl, S, hn, hc, n1, n2, hne, hl, k⟩ := h
    refine ⟨_, pss_one (ps_ret (pe_ix ix_list (pv 1) (pe_call GD hr (by rfl) mD kD bD .nil pass0 (pa_cons (pv 0) (pa_cons (pe_callB call_len (by rfl) T.len PySem.boot_len (pa_cons (pv 1) pa_nil)) pa_nil))) (fun _ _ => rfl))), ?_⟩
    have hpos : 0 < xs.length := List.length_pos_iff.mpr hne
    refine ⟨_, rfl, _, rfl, _, rfl, _, xs.length, rfl, .inl ⟨xs, sq_of hc, rfl⟩, p, q, n, _, rfl, S, hn, by omega, by omega, fun r G r0 r1 S' B => ?_⟩
    obtain ⟨j, rfl⟩ : ∃ j : Nat, r = (j : Int) := ⟨r.toNat, by omega⟩
    have hj : j < xs.length := by omega
    exact ⟨c, xs, _, xs[j], rfl, rfl, sq_of (B _ _ n1 n2 hc), atI_nat (by simp [hj]), k _ G (List.getElem_mem _) S' B⟩
end
end K23

set_option Elab.async false
set_option linter.all false
set_option maxRecDepth 100000
set_option maxHeartbeats 4000000
/-! Several except clauses, each with the same name for what it catches. -/
namespace K23
open PySem PySem.Spec PyProof.Rows L2 Evl
/-- what the clauses wish of what the body lets out, one behind another; slot i is their name's -/
def wNam (K : PySem.W.Frag) (i : Nat) (Wo : WX) (D : Ends) : List (Value × (Addr → Value → Option Addr → TS)) → WX
  | [] => Wo
  | p :: r => fun cl dc τ G => ∃ y, PySem.W.exmOne K cl p.1 = some y ∧ (y = true → ∀ ae, G ae = none → p.2 ae cl dc { nx := fun τ1 G1 => D.nx (τ1.set i none) G1, rt := D.rt, bk := fun τ1 G1 => D.bk (τ1.set i none) G1, ct := fun τ1 G1 => D.ct (τ1.set i none) G1 } (τ.set i (some (.ref ae))) G) ∧
      (y = false → wNam K i Wo D r cl dc τ G)
inductive HNam (X : Cx) (n : Str) : List ExceptHandler → List (Value × (Addr → Value → Option Addr → TS)) → Prop
  | nil : HNam X n [] []
  | cons {x : Str} {cv : Value} {tu : Addr → Value → Option Addr → TS} {st : Stmt} {sts : List Stmt} {p1 p2 : Pos} {hs : List ExceptHandler} {l : List (Value × (Addr → Value → Option Addr → TS))} (hcl : Names X x cv)
      (hbd : ∀ (ae : Addr) (ob : Obj) (cl : Value) (dc : Option Addr) (pn : List (Addr × Obj)), Zc cl dc ob → (∃ vs, ob.data = .fields vs) → PSs (X.suite ae ((ae, ob) :: pn)) (st :: sts) (tu ae cl dc)) (r : HNam X n hs l) :
      HNam X n (.ExceptHandler (some (.Name x p1)) (some n) (st :: sts) p2 :: hs) ((cv, tu) :: l)
section
variable {X : Cx} {body : List Stmt} {h1 : ExceptHandler} {hds : List ExceptHandler} {l : List (Value × (Addr → Value → Option Addr → TS))} {pos : Pos} {tb : WX → TS} {Wo : WX} {i : Nat} {n : Str}
theorem ps_tryN (hst : X.stack = X.env :: X.outer) (hfm : X.env.frame = some X.env.locals) (hN : X.N.Nodup) (hni : X.N[i]? = some n) (hnl : X.env.kindOf n = some .local) (tk : Takes X Wo)
    (hbody : ∀ (W : WX) (pn : List (Addr × Obj)) (xe : Value → Shared → Prop), Takes (X.tr pn xe) W → PassesOwn (model X.prog X.w) X.A X.env xe → PSs (X.tr pn xe) body (tb W))
    (hh : HNam X n (h1 :: hds) l) : PS X (.Try body (h1 :: hds) [] [] pos) (fun D τ G => tb (wNam X.K i Wo D l) D τ G) := by
  refine ⟨fun pins s τ G D I hw => ?_⟩
  have ok := I.ok
  have frs0 : X.A.frames = some (X.env :: X.outer) := by rw [ok.frames, hst]
  have locn : Loc X.env.scope n := .inl hnl
  refine wpAny_Try_except ?_
  refine wpAny_mono ((hbody (wNam X.K i Wo D l) (X.pn ++ pins) (fun e1 t1 => wpAny (model X.prog X.w) X.A (noteFrame e1 X.env) (fun _ t2 => wpAny (model X.prog X.w) X.A (setFlight e1 none) (fun _ t3 =>
    wpAny (model X.prog X.w) X.A (handleBy e1 X.env (h1 :: hds)) (SP X pins D) X.xe t3) X.xe t2) X.xe t1) (fun u t' xx => ?_) PassesOwn.looking).run [] s τ G D (I.toTry _) hw) (fun f t1 hsp => ?_) (fun e1 t1 he => he)
  · obtain ⟨ae, Bk, sK, pins', τ', G', cl, dc, rfl, J', nbk, upk, skk, nae, osk, agk, wish⟩ := xx
    have J : Inv X pins τ' G' sK := J'.ofTry ok
    have sk2 : Sky Bk (X.env :: X.outer) ae (Zc cl dc) X.env.locals t'.heap := by rw [← hst]; exact skk
    show wpAny (model X.prog X.w) X.A (noteFrame (.ref ae) X.env) _ _ _
    refine Sky.land Zc.steady frs0 hfm sk2 fun hp3 fl3 up3 => ?_
    have J3 : Inv X pins τ' G' { t' with heap := hp3 } := J.landed nbk fl3.1 (upk.trans up3) osk agk
    obtain ⟨ob3, vs3, at3, z3, dat3⟩ := fl3.there
    have offFr : ∀ {hq : Heap} {oq : Obj} {vq : Array Value}, hq.FunFrames Bk (X.env :: X.outer) → hq.get? ae = some oq → oq.data = .fields vq → ae ∉ frs (X.env :: X.outer) := fun {hq oq vq} ff eq dq hm => by
      obtain ⟨_, oz, ez, hnf⟩ := ff.mem hm
      rw [eq] at ez
      cases ez
      exact hnf _ dq
    have off3 := offFr fl3.2.2.1 at3 dat3
    have notL : ae ≠ X.env.locals := fun z => off3 (List.mem_filterMap.mpr ⟨X.env, List.mem_cons_self, by rw [hfm, z]⟩)
    have notF : ae ∉ X.fs := fun hm => by
      obtain ⟨ev, hev, qv⟩ := List.mem_filterMap.mp hm
      exact off3 (List.mem_filterMap.mpr ⟨ev, List.mem_cons_of_mem _ hev, qv⟩)
    have S3 := J3.suite at3 dat3 nae notL notF
    have walk : ∀ {hq : List ExceptHandler} {lq : List (Value × (Addr → Value → Option Addr → TS))}, HNam X n hq lq → wNam X.K i Wo D lq cl dc τ' G' →
        wpAny (model X.prog X.w) X.A (handleBy (.ref ae) X.env hq) (SP X pins D) X.xe { t' with heap := hp3 } := by
      intro hq lq hk
      induction hk with
      | nil =>
        intro ww
        refine wpAny_handleBy_nil ?_
        obtain ⟨b1, b2, b3, obj, fvs, Tc, oTc, tz, b4, b5, b6, b7, b8⟩ := id fl3
        unfold PySem.passOn
        refine wpAny_bind (wpAny_field b4 b6 b7 ?_)
        rw [if_neg (show ¬((Value.ref Tc == Value.none) = true) from by simp)]
        have out : wpAny (model X.prog X.w) X.A (setFlight (.ref ae) X.env.frame) (fun _ t4 => wpAny (model X.prog X.w) X.A (throw (.ref ae) : Sem Flow) (SP X pins D) X.xe t4) X.xe { t' with heap := hp3 } := by
          rw [hfm]
          refine HandSPX.setFlight_upZ fl3 fun hp4 hh4 up4 => wpAny_throw (tk _ _ ?_)
          exact ⟨ae, Bk, sK, pins, τ', G', cl, dc, rfl, J, nbk, (upk.trans up3).trans up4, .inr (.inr (by rw [hst]; exact hh4)), nae, osk, agk, ww⟩
        first
          | exact wpAny_bind (wpAny_pure (wpAny_bind out))
          | exact wpAny_bind out
      | @cons x cv tu st sts p1 p2 hq2 l2 hcl hbd r ih =>
        intro ww
        obtain ⟨y, hy, yes, no⟩ := ww
        refine wpAny_handleBy_cons (codeAny_handlers_test ?_) (by intro q; cases q)
        have lookT : PySem.W.Looks (model X.prog X.w) hp3 (typeOf (.ref ae)) cl := fun A2 Q2 E2 s2 k2 q2 => wpAny_typeOf_ref (k2 _ _ at3) (by rw [z3.1]; exact q2)
        have lookM := PySem.W.exm_one (M := model X.prog X.w) (J3.kIn) lookT hy
        have nameV : ∀ {Q2 : Value → Shared → Prop} {E2 : Value → Shared → Prop}, Q2 cv { t' with heap := hp3 } → wpAny (model X.prog X.w) (X.A.mark (some (.ref ae))) (eval (.Name x p1) X.env) Q2 E2 { t' with heap := hp3 } := fun {Q2 E2} q2 => by
          obtain ⟨g1, g2, g3 | ⟨g3, g4, g5⟩⟩ := hcl
          · exact ld_glob (X := X.suite ae ((ae, ob3) :: (X.pn ++ pins))) S3 g1 g3 q2 g2
          · exact ld_blt (X := X.suite ae ((ae, ob3) :: (X.pn ++ pins))) S3 g1 g3 g4 q2 g5 g2
        refine nameV (lookM.here ?_)
        cases y with
        | true =>
          refine codeAny_handlers_suite_as ?_
          refine HandSPX.lands_againZ fl3 fun hp4 fl4 up4 => ?_
          have J4 : Inv X pins τ' G' { t' with heap := hp4 } := J.landed nbk fl4.1 ((upk.trans up3).trans up4) osk agk
          obtain ⟨ob4, vs4, at4, z4, dat4⟩ := fl4.there
          have S4 := J4.suite at4 dat4 nae notL notF
          refine store_ok (X := X.suite ae ((ae, ob4) :: (X.pn ++ pins))) (v := .ref ae) S4 hN hni locn rfl (fun t5 S5 => ?_) (.inr hnl)
          refine wpAny_mono ((hbd ae ob4 cl dc (X.pn ++ pins) z4 ⟨_, dat4⟩).run [] t5 _ G' _ S5 (yes rfl ae nae)) (fun f t6 hsp => ?_) (fun _ _ z => False.elim z)
          have fin : ∀ {τ6 : L2.St} {G6 : Hp} {Q6 : Shared → Prop}, Inv (X.suite ae ((ae, ob4) :: (X.pn ++ pins))) [] τ6 G6 t6 → (∀ t7, Inv X pins (τ6.set i none) G6 t7 → Q6 t7) →
              wpAny (model X.prog X.w) X.A (do bindName X.env n .none; unbindBehindTheSuite X.env n p2) (fun _ t7 => Q6 t7) X.xe t6 := fun {τ6 G6 Q6} S6 q6 => gone_ok (S6.unsuite ok) hN hni hnl q6
          cases f with
          | next =>
            obtain ⟨τ6, G6, S6, w6⟩ := hsp
            exact fin S6 fun _ J7 => ⟨_, _, J7, w6⟩
          | brk =>
            obtain ⟨τ6, G6, S6, w6⟩ := hsp
            exact fin S6 fun _ J7 => ⟨_, _, J7, w6⟩
          | cont =>
            obtain ⟨τ6, G6, S6, w6⟩ := hsp
            exact fin S6 fun _ J7 => ⟨_, _, J7, w6⟩
          | ret u6 =>
            obtain ⟨v6, τ6, G6, S6, r6, w6⟩ := hsp
            exact fin S6 fun _ J7 => ⟨_, _, _, J7, r6, w6⟩
        | false =>
          show wpAny _ X.A (handleBy (.ref ae) X.env hq2) _ _ _
          exact ih (no rfl)
    exact walk hh wish
  · cases f with
    | next =>
      obtain ⟨τ2, G2, J2, w2⟩ := hsp
      exact wpAny_execs_nil ⟨τ2, G2, J2.ofTry ok, w2⟩
    | brk =>
      obtain ⟨τ2, G2, J2, w2⟩ := hsp
      exact ⟨τ2, G2, J2.ofTry ok, w2⟩
    | cont =>
      obtain ⟨τ2, G2, J2, w2⟩ := hsp
      exact ⟨τ2, G2, J2.ofTry ok, w2⟩
    | ret u2 =>
      obtain ⟨v2, τ2, G2, J2, r2, w2⟩ := hsp
      exact ⟨v2, τ2, G2, J2.ofTry ok, r2, w2⟩
end
end K23

set_option Elab.async false
set_option linter.all false
set_option maxRecDepth 100000
set_option maxHeartbeats 4000000
/-! What is met: told, or the thing of an error. -/
namespace K23
open PySem PySem.Spec PyProof.Rows L2 Evl LamX
/-- a new pair of a text and v -/
def Pr (s : Str) (v : V) (H : Hp) (Q : VK) : Prop := 2 ≤ sizeLine ∧ ∀ p, H p = none → Q (.ref p) (upd H p (.tup [.str s, v]))
def Emet (K : PySem.W.Frag) (Q : VK) : XK := fun cl dc G => (cl = .ref (He.ga K "BadWord") ∧ ∃ dd v, dc = some dd ∧ G dd = some (.xd [("thing", v)]) ∧ Pr "word" v G Q) ∨ (cl = .ref (He.ga K "BadPlace") ∧ ∃ dd v, dc = some dd ∧ G dd = some (.xd [("thing", v)]) ∧ Pr "place" v G Q)
def TTmet (K : PySem.W.Frag) : (XK → Hp → VK → Prop) → Hp → VK → Prop := fun tl H Q => tl (Emet K Q) H (fun v G => Pr "told" v G Q)
def tuX (K : PySem.W.Frag) (x : Str) (s : Str) : Addr → Value → Option Addr → TS := fun ae cl dc => tRet (tTup (tCons (tC (.str s)) (tCons (tXf ae cl dc (He.ga K x) "thing" (tVar 1)) tNil)))
def tuN : Addr → Value → Option Addr → TS := fun _ _ _ _ _ _ => False
def hlist (K : PySem.W.Frag) : List (Value × (Addr → Value → Option Addr → TS)) :=
  [(.ref (He.ga K "BadWord"), tuX K "BadWord" "word"), (.ref (He.ga K "BadPlace"), tuX K "BadPlace" "place"), (.ref (He.ga K "BadSubstitution"), tuN), (.ref (He.ga K "BadPairs"), tuN), (.ref (He.ga K "BadClause"), tuN), (.ref (He.ga K "BadClauses"), tuN), (.ref (He.ga K "BadTaken"), tuN), (.ref (He.ga K "BadTruth"), tuN), (.ref (He.ga K "BadRows"), tuN), (.ref (He.ga K "BadOrder"), tuN), (.ref (He.ga K "NotOrdered"), tuN), (.ref (He.ga K "BadNumber"), tuN), (.ref (He.ga K "BadArities"), tuN), (.ref (He.ga K "NotGround"), tuN)]
abbrev nMe : List Str := ["_law_ask", "e"]
theorem sc_me : FnScope nMe ["_law_ask"] (defScope s__law_d_met) := ⟨rfl, rfl, rfl, by decide +kernel, rfl, by decide +kernel, by decide +kernel⟩
theorem met_gives {X : Cx} (T : T23 X.prog X.w X.K X.mg X.base) {g : Addr} {cdg : Value} {q : Str} :
    GivesTo X nMe "_law_d_met" (defScope s__law_d_met) g cdg (defBody s__law_d_met) "_law_ask" q (TTmet X.K) := by
  intro f c' s H Q tl act hc h
  have nm : ∀ x : Str, x ∈ cnms → (defScope s__law_d_met).names.lookup x = some .globalImplicit → (x == ("__debug__" : Str)) = false → Names (cxOf C8.CX0 X.prog X.w X.K X.mg X.base nMe "_law_d_met" (defScope s__law_d_met) g cdg X.A X.stack s H C8.E0).nox x (.ref (He.ga X.K x)) :=
    fun x hx hl hd => ⟨hl, hd, .inl (T.cl x hx)⟩
  refine ⟨_, pss_one (ps_tryN (X := (cxOf C8.CX0 X.prog X.w X.K X.mg X.base nMe "_law_d_met" (defScope s__law_d_met) g cdg X.A X.stack s H C8.E0).nox) (i := 1) (n := "e") (l := hlist X.K)
    (tb := fun W D σ G => ∃ Ech : XK, (∀ cl dc (σ' : L2.St) G', σ'.length = 2 → Ech cl dc G' → W cl dc σ' G') ∧ σ[0]? = some (some (.ref f)) ∧ G c' = some (CodeO c' q) ∧ tl Ech G (fun v G1 => 2 ≤ sizeLine ∧ ∀ p, G1 p = none → D.rt (.ref p) (upd G1 p (.tup [.str "told", v]))))
    rfl rfl sc_me.nd rfl rfl L2.takes0 (fun W pn xe tk _ => ?_) ?_), ?_⟩
  · refine ⟨fun pins s' σ G D I h' => ?_⟩
    obtain ⟨Ech, hW, h1, h2, h3⟩ := h'
    have tk2 : Takes ((cxOf C8.CX0 X.prog X.w X.K X.mg X.base nMe "_law_d_met" (defScope s__law_d_met) g cdg X.A X.stack s H C8.E0).nox.tr pn xe) (fun cl dc σ' G' => σ'.length = 2 → W cl dc σ' G') := fun u t' ⟨b1, b2, b3, b4, σ', G', cl, dc, b5, b6, b7, b8, b9, b10, b11, b12, b13⟩ =>
      tk u t' ⟨b1, b2, b3, b4, σ', G', cl, dc, b5, b6, b7, b8, b9, b10, b11, b12, b13 b6.len⟩
    have hp := fun p1 p2 => act (fun cl dc σ' G' => σ'.length = 2 → W cl dc σ' G') pn xe Ech p1 p2 tk2 (fun cl dc σ' G' a b => hW cl dc σ' G' b a)
    exact (pss_one (ps_ret (pe_tup (pa_cons pe_str (pa_cons (hp _ _) pa_nil))))).run pins s' σ G D I ⟨h1, h2, h3⟩
  · refine .cons (nm "BadWord" (by decide) (by decide +kernel) (by decide)) (fun ae ob cl dc pn hz hf => pss_one (ps_ret (pe_tup (pa_cons pe_str (pa_cons (pe_xf T.bw.xf T.bw.no hz hf (pv 1)) pa_nil))))) ?_
    refine .cons (nm "BadPlace" (by decide) (by decide +kernel) (by decide)) (fun ae ob cl dc pn hz hf => pss_one (ps_ret (pe_tup (pa_cons pe_str (pa_cons (pe_xf T.bp.xf T.bp.no hz hf (pv 1)) pa_nil))))) ?_
    refine .cons (nm "BadSubstitution" (by decide) (by decide +kernel) (by decide)) (fun ae ob cl dc pn hz hf => pss_one ps_never) ?_
    refine .cons (nm "BadPairs" (by decide) (by decide +kernel) (by decide)) (fun ae ob cl dc pn hz hf => pss_one ps_never) ?_
    refine .cons (nm "BadClause" (by decide) (by decide +kernel) (by decide)) (fun ae ob cl dc pn hz hf => pss_one ps_never) ?_
    refine .cons (nm "BadClauses" (by decide) (by decide +kernel) (by decide)) (fun ae ob cl dc pn hz hf => pss_one ps_never) ?_
    refine .cons (nm "BadTaken" (by decide) (by decide +kernel) (by decide)) (fun ae ob cl dc pn hz hf => pss_one ps_never) ?_
    refine .cons (nm "BadTruth" (by decide) (by decide +kernel) (by decide)) (fun ae ob cl dc pn hz hf => pss_one ps_never) ?_
    refine .cons (nm "BadRows" (by decide) (by decide +kernel) (by decide)) (fun ae ob cl dc pn hz hf => pss_one ps_never) ?_
    refine .cons (nm "BadOrder" (by decide) (by decide +kernel) (by decide)) (fun ae ob cl dc pn hz hf => pss_one ps_never) ?_
    refine .cons (nm "NotOrdered" (by decide) (by decide +kernel) (by decide)) (fun ae ob cl dc pn hz hf => pss_one ps_never) ?_
    refine .cons (nm "BadNumber" (by decide) (by decide +kernel) (by decide)) (fun ae ob cl dc pn hz hf => pss_one ps_never) ?_
    refine .cons (nm "BadArities" (by decide) (by decide +kernel) (by decide)) (fun ae ob cl dc pn hz hf => pss_one ps_never) ?_
    refine .cons (nm "NotGround" (by decide) (by decide +kernel) (by decide)) (fun ae ob cl dc pn hz hf => pss_one ps_never) ?_
    exact .nil
  · refine ⟨Emet X.K Q, fun cl dc σ' G' hl hE => ?_, rfl, hc, ?_⟩
    · rcases hE with ⟨rfl, dd, v, rfl, hdd, k⟩ | ⟨rfl, dd, v, rfl, hdd, k⟩
      · refine ⟨true, T.bw.te, fun _ ae hae => ?_, fun z => nomatch z⟩
        exact ⟨_, by rw [List.getElem?_set_self (by omega)], rfl, rfl, dd, _, v, rfl, hdd, rfl, k⟩
      · refine ⟨false, T.xpw, (fun z => nomatch z), fun _ => ⟨true, T.bp.te, fun _ ae hae => ?_, fun z => nomatch z⟩⟩
        exact ⟨_, by rw [List.getElem?_set_self (by omega)], rfl, rfl, dd, _, v, rfl, hdd, rfl, k⟩
    · exact h
end K23

set_option Elab.async false
set_option linter.all false
set_option maxRecDepth 100000
set_option maxHeartbeats 4000000
/-! Drawn words: what holds of them. -/
namespace K23
open PySem PySem.Spec PyProof.Rows L2 Evl LamX
mutual
def W.nd : W → Nat
  | .v _ => 1
  | .n _ as => W.nds as + 1
def W.nds : List W → Nat
  | [] => 0
  | x :: xs => x.nd + W.nds xs
end
mutual
theorem W.sz_nd : ∀ w : W, w.sz ≤ 2 * w.nd
  | .v _ => by show 1 ≤ 2 * 1; decide
  | .n _ as => by have := W.szs_nd as; show W.szs as + 2 ≤ 2 * (W.nds as + 1); omega
theorem W.szs_nd : ∀ ws : List W, W.szs ws ≤ 2 * W.nds ws
  | [] => Nat.le_refl _
  | x :: xs => by have h1 := W.sz_nd x; have h2 := W.szs_nd xs; show x.sz + W.szs xs ≤ 2 * (x.nd + W.nds xs); omega
end
mutual
theorem W.parts_nd : ∀ w : W, w.parts.length = w.nd
  | .v _ => rfl
  | .n _ as => by show (W.partsL 0 as).length + 1 = W.nds as + 1; rw [W.partsL_nd 0 as]
theorem W.partsL_nd : ∀ (i : Nat) (ws : List W), (W.partsL i ws).length = W.nds ws
  | _, [] => rfl
  | i, x :: xs => by
    show ((x.parts.map _) ++ W.partsL (i + 1) xs).length = x.nd + W.nds xs
    rw [List.length_append, List.length_map, W.parts_nd x, W.partsL_nd (i + 1) xs]
end
theorem headB_strip (h : O) (n : Nat) : headB h.strip n = headB h n := by cases h <;> rfl
theorem strips_len (xs : List O) : (O.strips xs).length = xs.length := by rw [strips_eq, List.length_map]
mutual
theorem strip_fit : ∀ o : O, o.strip.fit = o.fit
  | .non => rfl | .bl _ => rfl | .int _ => rfl | .str _ => rfl | .dct => rfl
  | .lst xs => strip_fitL xs
  | .tup xs => strip_fitL xs
theorem strip_fitL : ∀ xs : List O, O.fitL (O.strips xs) = O.fitL xs
  | [] => rfl
  | h :: as => by
    show (headB h.strip (O.strips as).length && O.fits (O.strips as)) = (headB h as.length && O.fits as)
    rw [headB_strip, strips_len, strip_fits as]
theorem strip_fits : ∀ xs : List O, O.fits (O.strips xs) = O.fits xs
  | [] => rfl
  | x :: xs => by
    show (x.strip.fit && O.fits (O.strips xs)) = (x.fit && O.fits xs)
    rw [strip_fit x, strip_fits xs]
end
mutual
theorem strip_ss : ∀ o : O, o.strip.ss = o.ss
  | .non => rfl | .bl _ => rfl | .int _ => rfl | .str _ => rfl | .dct => rfl
  | .lst xs => strip_sss xs
  | .tup xs => strip_sss xs
theorem strip_sss : ∀ xs : List O, O.sss (O.strips xs) = O.sss xs
  | [] => rfl
  | x :: xs => by
    show (x.strip.ss && O.sss (O.strips xs)) = (x.ss && O.sss xs)
    rw [strip_ss x, strip_sss xs]
end
theorem eqL_strip (xs : List O) : eqL (O.strips xs) = eqL xs := by
  match xs with
  | [] => rfl
  | [a] => cases a <;> rfl
  | [a, b] => cases a <;> rfl
  | [a, b, c] => cases a <;> rfl
  | a :: b :: c :: d :: r => cases a <;> rfl
theorem e3L_strip (xs : List O) : e3L (O.strips xs) = e3L xs := by
  match xs with
  | [] => rfl
  | [a] => rfl
  | [a, b] => rfl
  | [a, b, c] => cases a <;> rfl
  | a :: b :: c :: d :: r => rfl
theorem placesL_strip (xs : List O) : placesL (O.strips xs) = placesL xs := by
  cases xs with
  | nil => rfl
  | cons h as =>
    show headB h.strip (O.strips as).length = headB h as.length
    rw [headB_strip, strips_len]
theorem tailL_strip (xs : List O) : tailL (O.strips xs) = tailL xs := by
  cases xs with
  | nil => rfl
  | cons h as => exact strip_fits as
theorem strip_fitA (o : O) : o.strip.fitA = o.fitA := by
  cases o with
  | lst xs => show ((eqL (O.strips xs) || placesL (O.strips xs)) && tailL (O.strips xs)) = _; rw [eqL_strip, placesL_strip, tailL_strip]; rfl
  | tup xs => show ((eqL (O.strips xs) || placesL (O.strips xs)) && tailL (O.strips xs)) = _; rw [eqL_strip, placesL_strip, tailL_strip]; rfl
  | _ => rfl
theorem strip_fitW (o : O) : o.strip.fitW = o.fitW := by
  unfold O.fitW
  rw [strip_fit, strip_fitA]
theorem strip_e3 (o : O) : o.strip.e3 = o.e3 := by
  cases o with
  | lst xs => exact e3L_strip xs
  | tup xs => exact e3L_strip xs
  | _ => rfl
theorem W.e3 (z : W) : z.o.e3 = true := by
  cases z with
  | v s => rfl
  | n s as =>
    match as with
    | [] => rfl
    | [_] => rfl
    | [_, _] => rfl
    | _ :: _ :: _ :: _ => rfl
/-- a right word or atom, not too great -/
structure Dz (z : W) : Prop where
  fit : z.o.fitW = true
  ss : z.o.ss = true
  nd : z.nd ≤ 400
  dp : z.dp < 12
theorem Dz.lw {z : W} (h : Dz z) {H : Hp} {v : V} {o : O} (ov : OV H v o) (e : o.strip = z.o) : Lw H v z := by
  refine ⟨⟨o, ⟨ov, by rw [← strip_ss, e]; exact h.ss, ?_, by rw [← strip_e3, e]; exact z.e3⟩, by rw [← strip_fitW, e]; exact h.fit, e⟩, h.dp⟩
  have := sz_of_strip e
  have := W.sz_nd z
  have := h.nd
  omega
/-- a drawn word, of so many levels -/
def nN : Nat → Nat
  | 0 => 1
  | L + 1 => 3 * nN L + 1
structure Dw (L : Nat) (z : W) : Prop where
  fit : z.o.fit = true
  ss : z.o.ss = true
  nd : z.nd ≤ nN L
  dp : z.dp ≤ L + 1
  eq : z.noEq = true
theorem nN_pos (L : Nat) : 1 ≤ nN L := by cases L <;> simp [nN]
theorem nN_mono {L M : Nat} (h : L ≤ M) : nN L ≤ nN M := by
  induction M with
  | zero => rw [Nat.le_zero.mp h]; exact Nat.le_refl _
  | succ M ih =>
    rcases Nat.lt_or_ge M L with q | q
    · rw [show L = M + 1 by omega]; exact Nat.le_refl _
    · have := ih q
      show nN L ≤ 3 * nN M + 1
      omega
theorem nN4 : nN 4 = 121 := rfl
def SV : List Str := ["X", "Y", "Z12", "A"]
/-- what may be picked: a variable, a constant -/
inductive Lf : W → Prop
  | v {s : Str} : s ∈ SV → Lf (.v s)
  | c {s : Str} : s ∈ (["a", "b", "c"] : List Str) → Lf (.n s [])
theorem sv_fit : ∀ s ∈ SV, varB s = true ∧ SS.contains s = true := by decide +kernel
theorem cc_fit : ∀ s ∈ (["a", "b", "c"] : List Str), nameB s = true ∧ SS.contains s = true ∧ (s == "=") = false := by decide +kernel
theorem ff_fit : ∀ s ∈ (["f", "g", "h"] : List Str), nameB s = true ∧ SS.contains s = true ∧ (s == "=") = false := by decide +kernel
theorem Lf.dw {z : W} (h : Lf z) (L : Nat) : Dw L z := by
  cases h with
  | v hs => exact ⟨(sv_fit _ hs).1, (sv_fit _ hs).2, nN_pos L, Nat.zero_le _, rfl⟩
  | @c s hs =>
    obtain ⟨h1, h2, h3⟩ := cc_fit _ hs
    refine ⟨?_, ?_, nN_pos L, Nat.le_add_left _ _, ?_⟩
    · show (headB (.str s) 0 && true) = true
      rw [Bool.and_true]
      show (decide (0 ≤ 6) && nameB s) = true
      rw [h1]
      rfl
    · show (SS.contains s && true) = true
      rw [h2]
      rfl
    · show (!(s == "=")) = true
      rw [h3]
      rfl
theorem os_len (as : List W) : (W.os as).length = as.length := by rw [W.os_map, List.length_map]
theorem Dw.node {L : Nat} {s : Str} {as : List W} (hs : s ∈ (["f", "g", "h"] : List Str)) (hl : as.length ≤ 3) (h : ∀ x ∈ as, Dw L x) : Dw (L + 1) (.n s as) := by
  obtain ⟨h1, h2, h3⟩ := ff_fit _ hs
  have key : ∀ l : List W, (∀ x ∈ l, Dw L x) → O.fits (W.os l) = true ∧ O.sss (W.os l) = true ∧ W.nds l ≤ l.length * nN L ∧ W.dps l ≤ L + 1 := by
    intro l
    induction l with
    | nil => intro _; exact ⟨rfl, rfl, Nat.zero_le _, Nat.zero_le _⟩
    | cons x l ih =>
      intro h
      obtain ⟨a, b, c, d⟩ := ih fun y hy => h y (List.mem_cons_of_mem _ hy)
      have hx := h x (List.mem_cons_self ..)
      refine ⟨?_, ?_, ?_, ?_⟩
      · show (x.o.fit && O.fits (W.os l)) = true
        rw [hx.fit, a]
        rfl
      · show (x.o.ss && O.sss (W.os l)) = true
        rw [hx.ss, b]
        rfl
      · show x.nd + W.nds l ≤ (l.length + 1) * nN L
        have := hx.nd
        rw [Nat.add_mul, Nat.one_mul]
        omega
      · exact Nat.max_le.mpr ⟨hx.dp, d⟩
  obtain ⟨a, b, c, d⟩ := key as h
  refine ⟨?_, ?_, ?_, ?_, ?_⟩
  · show (headB (.str s) (W.os as).length && O.fits (W.os as)) = true
    rw [a, Bool.and_true, os_len]
    show (decide (as.length ≤ 6) && nameB s) = true
    rw [h1, decide_eq_true (by omega)]
    rfl
  · show (SS.contains s && O.sss (W.os as)) = true
    rw [h2, b]
    rfl
  · show W.nds as + 1 ≤ 3 * nN L + 1
    have : as.length * nN L ≤ 3 * nN L := Nat.mul_le_mul_right _ hl
    omega
  · show W.dps as + 1 ≤ L + 1 + 1
    omega
  · show (!(s == "=")) = true
    rw [h3]
    rfl
theorem Dw.dz {L : Nat} {z : W} (h : Dw L z) (hL : L ≤ 4) : Dz z := by
  refine ⟨?_, h.ss, ?_, ?_⟩
  · unfold O.fitW
    rw [h.fit]
    rfl
  · have h1 := h.nd
    have h2 := nN_mono hL
    rw [nN4] at h2
    omega
  · have := h.dp
    omega
end K23

set_option Elab.async false
set_option linter.all false
set_option maxRecDepth 100000
set_option maxHeartbeats 4000000
/-! Words drawn. -/
namespace K23
open PySem PySem.Spec PyProof.Rows L2 Evl
theorem But.tx {p q : Addr} {H G : Hp} (B : But p q H G) (hp : ∃ xs, H p = some (.lst xs)) (hq : ∃ xs, H q = some (.lst xs)) : Tx H G := fun a xs h => B _ _ (fun z => by
  obtain ⟨ys, e⟩ := hp
  rw [z, e] at h
  cases h) (fun z => by
  obtain ⟨ys, e⟩ := hq
  rw [z, e] at h
  cases h) h
theorem Spr.tx {p q : Addr} {H G : Hp} {n : Int} (S : Spr H p q n) (B : But p q H G) : Tx H G := by
  obtain ⟨xs, ys, h1, h2⟩ := S.lst
  exact B.tx ⟨_, h1⟩ ⟨_, h2⟩
theorem Spr.nep {p q : Addr} {H : Hp} {n : Int} (S : Spr H p q n) {a : Addr} (h : H a = none) : a ≠ p ∧ a ≠ q := by
  obtain ⟨xs, ys, h1, h2⟩ := S.lst
  exact ⟨(ne_of_none h1 h).symm, (ne_of_none h2 h).symm⟩
section
variable {K : PySem.W.Frag} {σ : L2.St} {H : Hp} {te ta tb : TE}
def AllP (R : V → Hp → Prop) (m : Nat) (xs : List V) (G : Hp) : Prop := xs.length ≤ m ∧ ∀ y ∈ xs, R y G
theorem elp_cat {P1 P2 : List V → Hp → Prop} (ha : EvLP ta σ H P1) (hb : EvLP tb σ H P2) (u1 : ∀ xs, Up (P1 xs)) (u2 : ∀ xs, Up (P2 xs)) (hl : ∀ xs ys G, P1 xs G → P2 ys G → xs.length + ys.length ≤ 100000) :
    EvLP (tOp rCat ta tb) σ H (fun zs G => ∃ xs ys, zs = xs ++ ys ∧ P1 xs G ∧ P2 ys G) := fun H1 e Q q =>
  ha H1 e _ fun p1 xs H2 n1 e2 h1 q1 => hb H2 (e.trans e2) _ fun p2 ys H3 n2 e3 h2 q2 => ⟨p1, p2, xs, ys, rfl, rfl, e3 _ _ h1, h2, sz_of (hl _ _ _ (u1 _ _ _ e3 q1) q2),
    fun p hp => q p (xs ++ ys) _ (fresh_back (e2.trans e3) hp) ((e2.trans e3).trans (Ex.new hp)) upd_same ⟨xs, ys, rfl, u1 _ _ _ (e3.trans (Ex.new hp)) q1, u2 _ _ _ (Ex.new hp) q2⟩⟩
theorem EvLP.of {xs : List V} (h : EvL te σ H xs) : EvLP te σ H (fun ys _ => ys = xs) := fun H1 e Q q => h H1 e _ fun p H2 n e2 h2 => q p xs H2 n e2 h2 rfl
theorem EvLP.imp {P1 P2 : List V → Hp → Prop} (h : EvLP te σ H P1) (k : ∀ xs G, Ex H G → P1 xs G → P2 xs G) : EvLP te σ H P2 := fun H1 e Q q => h H1 e _ fun p xs H2 n e2 h2 h3 => q p xs H2 n e2 h2 (k xs H2 (e.trans e2) h3)
/-- a constant's word, in a list alone -/
theorem elp_c1 {s : Str} : EvLP (tLst (tCons (tTup (tCons (tC (.str s)) tNil)) tNil)) σ H (fun xs G => ∃ y, xs = [y] ∧ WV G y (.n s [])) := fun H1 e Q q =>
  ⟨by show 1 ≤ sizeLine; decide, fun t ht => ⟨by show 1 ≤ sizeLine; decide, fun p hp => q p _ _ (fresh_back (Ex.new ht) hp) ((Ex.new ht).trans (Ex.new hp)) upd_same ⟨_, rfl, WV.of (us := []) (Ex.new hp _ _ upd_same) rfl⟩⟩⟩
theorem elp_c2 {s1 s2 : Str} : EvLP (tLst (tCons (tTup (tCons (tC (.str s1)) tNil)) (tCons (tTup (tCons (tC (.str s2)) tNil)) tNil))) σ H (fun xs G => ∃ y1 y2, xs = [y1, y2] ∧ WV G y1 (.n s1 []) ∧ WV G y2 (.n s2 [])) := fun H1 e Q q =>
  ⟨by show 1 ≤ sizeLine; decide, fun t ht => ⟨by show 1 ≤ sizeLine; decide, fun t2 ht2 => ⟨by show 2 ≤ sizeLine; decide, fun p hp => q p _ _ (fresh_back ((Ex.new ht).trans (Ex.new ht2)) hp) (((Ex.new ht).trans (Ex.new ht2)).trans (Ex.new hp)) upd_same
    ⟨_, _, rfl, WV.of (us := []) (((Ex.new ht2).trans (Ex.new hp)) _ _ upd_same) rfl, WV.of (us := []) (Ex.new hp _ _ upd_same) rfl⟩⟩⟩⟩
theorem elp_rep {P : List V → Hp → Prop} {k : Int} (ha : EvLP ta σ H P) (u : ∀ xs, Up (P xs)) (hb : Ev tb σ H (.int k)) (hk : 0 ≤ k ∧ k ≤ 1) (hl : ∀ xs G, P xs G → xs.length ≤ 1000) : EvLP (tOp rRep ta tb) σ H (fun zs G => zs = [] ∨ P zs G) := fun H1 e Q q =>
  ha H1 e _ fun p1 xs H2 n1 e2 h1 q1 => hb H2 (e.trans e2) _ fun H3 e3 => by
    have q3 := u _ _ _ e3 q1
    have hz : xs.length * k.toNat ≤ 1000 := by
      have h2 := hl _ _ q3
      have h3 : k.toNat ≤ 1 := by omega
      calc xs.length * k.toNat ≤ xs.length * 1 := Nat.mul_le_mul_left _ h3
        _ ≤ 1000 := by omega
    refine ⟨p1, k, xs, rfl, rfl, e3 _ _ h1, by omega, by omega, sz_of (by omega), fun p hp => q p _ _ (fresh_back (e2.trans e3) hp) ((e2.trans e3).trans (Ex.new hp)) upd_same ?_⟩
    rcases (by omega : k = 0 ∨ k = 1) with rfl | rfl
    · exact .inl rfl
    · right
      show P (List.replicate 1 xs).flatten _
      simp
      exact u _ _ _ (Ex.new hp) q3
end
def kk : Nat → Nat
  | 0 => 2
  | L + 1 => 3 * kk L + 2
section
variable {P : Program} {w : World} {K : PySem.W.Frag} {mg : Str → Option Value} {base : Heap}
def spDw (L : Nat) : Sp := fun vs H Q _ => ∃ (p q va : Addr) (n : Int) (xs : List Str), vs = [.ref p, .int (L : Nat), .ref va] ∧ Spr H p q n ∧ n + (kk L : Nat) ≤ 90000 ∧ H va = some (.lst (sVs xs)) ∧ va ≠ p ∧ va ≠ q ∧ xs.length ≤ 4 ∧ (∀ s ∈ xs, s ∈ SV) ∧
  ∀ (r : V) (G : Hp) (n' : Int) (z : W), Spr G p q n' → n' ≤ n + (kk L : Nat) → But p q H G → WV G r z → Dw L z → Q r G
abbrev nDw : List Str := ["_law_stream", "_law_level", "_law_variables", "_law_kind", "_law_many", "_law_k"]
theorem sc_dw : FnScope nDw ["_law_stream", "_law_level", "_law_variables"] (defScope s__law_d_word) := ⟨rfl, rfl, rfl, by decide +kernel, rfl, by decide +kernel, by decide +kernel⟩
abbrev rMin2 : List V → Hp → VK → Prop := fun xs H Q => ∃ i j, xs = [.int i, .int j] ∧ Q (.int (if j < i then j else i)) H
/-- what may be picked -/
def tLeaf (K : PySem.W.Frag) : TE := tOp rCat (tOp rCat (tCB (rListS K) (tCons (tVar 2) tNil)) (tLst (tCons (tTup (tCons (tC (.str "a")) tNil)) (tCons (tTup (tCons (tC (.str "b")) tNil)) tNil))))
  (tOp rRep (tLst (tCons (tTup (tCons (tC (.str "c")) tNil)) tNil)) (tOp (rI0 fun i j => .int (i - j)) (tC (.int 1)) (tCB rMin2 (tCons (tC (.int 1)) (tCons (tLen K (tVar 2)) tNil)))))
theorem elp_leaf {σ : L2.St} {H : Hp} {va : Addr} {xs : List Str} (hs : σ[2]? = some (some (.ref va))) (hv : H va = some (.lst (sVs xs))) (hl : xs.length ≤ 4) (hS : ∀ s ∈ xs, s ∈ SV) :
    EvLP (tLeaf K) σ H (fun ys G => ys ≠ [] ∧ ys.length ≤ 10 ∧ ∀ y ∈ ys, ∃ z, WV G y z ∧ Lf z) := by
  have hlen : (sVs xs).length = xs.length := by unfold sVs; rw [List.length_map]
  have hmin : Ev (tOp (rI0 fun i j => .int (i - j)) (tC (.int 1)) (tCB rMin2 (tCons (tC (.int 1)) (tCons (tLen K (tVar 2)) tNil)))) σ H (.int (1 - (if ((xs.length : Nat) : Int) < 1 then ((xs.length : Nat) : Int) else 1))) :=
    ev_op (y := .int (if ((xs.length : Nat) : Int) < 1 then ((xs.length : Nat) : Int) else 1)) ev_c (fun H1 e Q q => ⟨.ref va, hs, _, xs.length, rfl, .inl ⟨_, sq_of (e _ _ hv), hlen.symm⟩, _, _, rfl, q H1 (Ex.refl _)⟩) rv_I0
  refine (elp_cat (elp_cat (EvLP.of (el_list (ev_var hs) (sq_of hv))) elp_c2 (fun _ _ _ _ h => h) (fun xs G1 G2 e h => by
      obtain ⟨y1, y2, h1, h2, h3⟩ := h
      exact ⟨y1, y2, h1, h2.ext e, h3.ext e⟩) (fun a b G h1 h2 => by
      obtain ⟨y1, y2, h3, _⟩ := h2
      rw [h1, h3, hlen]
      simp
      omega)) (elp_rep elp_c1 (fun xs G1 G2 e h => by
      obtain ⟨y, h1, h2⟩ := h
      exact ⟨y, h1, h2.ext e⟩) hmin (by split <;> omega) (fun xs G h => by
      obtain ⟨y, h1, _⟩ := h
      rw [h1]
      simp)) (fun xs G1 G2 e h => by
      obtain ⟨a, b, h1, h2, y1, y2, h3, h4, h5⟩ := h
      exact ⟨a, b, h1, h2, y1, y2, h3, h4.ext e, h5.ext e⟩) (fun xs G1 G2 e h => by
      rcases h with h | ⟨y, h1, h2⟩
      · exact .inl h
      · exact .inr ⟨y, h1, h2.ext e⟩) (fun a b G h1 h2 => by
      obtain ⟨a1, b1, h3, h4, y1, y2, h5, _⟩ := h1
      rw [h3, h4, h5, List.length_append, hlen]
      rcases h2 with h | ⟨y, h, _⟩ <;> rw [h] <;> simp <;> omega)).imp fun ys G e h => ?_
  obtain ⟨a, b, h0, ⟨a1, b1, h3, h4, y1, y2, h5, h6, h7⟩, h2⟩ := h
  have hb : b.length ≤ 1 := by rcases h2 with h | ⟨y, h, _⟩ <;> rw [h] <;> simp
  refine ⟨by rw [h0, h3, h5]; simp, by rw [h0, h3, h4, h5, List.length_append, List.length_append, hlen]; simp; omega, fun y hy => ?_⟩
  rw [h0] at hy
  rcases List.mem_append.mp hy with hy | hy
  · rw [h3] at hy
    rcases List.mem_append.mp hy with hy | hy
    · rw [h4] at hy
      obtain ⟨s, hs1, rfl⟩ := List.mem_map.mp hy
      exact ⟨.v s, rfl, .v (hS s hs1)⟩
    · rw [h5] at hy
      rcases List.mem_cons.mp hy with rfl | hy
      · exact ⟨_, h6, .c (by decide)⟩
      · obtain rfl : y = y2 := by simpa using hy
        exact ⟨_, h7, .c (by decide)⟩
  · rcases h2 with h | ⟨y', h, hw⟩
    · rw [h] at hy
      exact absurd hy (by simp)
    · rw [h] at hy
      obtain rfl : y = y' := by simpa using hy
      exact ⟨_, hw, .c (by decide)⟩
theorem ret_opU {σ : L2.St} {H : Hp} {D : Ends} {r : R2} {ta tb : TE} {xs : List V} (h : EvU ta σ H xs) (k : ∀ p H1, H p = none → Ex H H1 → H1 p = some (.tup xs) → tb σ H1 (fun y H2 => r (.ref p) y H2 D.rt)) : tRet (tOp r ta tb) D σ H := h H (Ex.refl H) _ k
/-- x = _law_draw(_law_stream, m) -/
theorem q_draw {σ : L2.St} {H : Hp} {D : Ends} {tz : TS} {i j : Nat} {p q : Addr} {n m : Int} (hs : σ[j]? = some (some (.ref p))) (S : Spr H p q n) (hn : n < 100000) (hm : 1 ≤ m ∧ m ≤ 1000) (k : ∀ r G, 0 ≤ r → r < m → Spr G p q (n + 1) → But p q H G → tz D (σ.set i (some (.int r))) G) :
    tSeq (tAsg (tCall spDr [] E0 (tCons (tVar j) (tCons (tC (.int m)) tNil))) (gName i)) tz D σ H := ⟨.ref p, hs, p, q, n, m, rfl, S, hn, hm.1, hm.2, fun r G r0 r1 S' B => k r G r0 r1 S' B⟩
theorem ok_d_word (T : T23 P w K mg base) : ∀ L, Ok P w K mg base CX0 "_law_d_word" ["_law_stream", "_law_level", "_law_variables"] (L + 3) (spDw L) := by
  intro L
  obtain ⟨fD, dD, GD, bD, kD, mD⟩ := (ok_dr T).ex
  obtain ⟨fP, dP, GP, bP, kP, mP⟩ := (ok_pick T).ex
  induction L with
  | zero =>
    refine T.ok 27 rfl sc_dw (fun vs H Q E h => ?_) (fun kV doc pm an cdv ct us hl => match us, hl with | [_, _, _], _ => rfl) (fun f cdv A outer s H vs Q E hr h => ?_)
    · obtain ⟨p, q, va, n, xs, rfl, _⟩ := h
      rfl
    · obtain ⟨p, q, va, n, xs, rfl, S, hn, hv, n1, n2, hl, hS, k⟩ := h
      refine ⟨_, pss_cons (ps_set (i := 3) sc_dw.nd rfl (Or.inl rfl) (pe_call GD (hr.mono (by decide)) (by rfl) mD kD bD .nil pass0 (pa_cons (pv 0) (pa_cons pe_int pa_nil))))
        (pss_cons (ps_if (PW.pt (pw_or (pt_cmpR op_eq (pv 1) pe_int (nomark _)) (pw_or1 (pt_cmpR op_lt (pv 3) pe_int (nomark _)))))
          (pss_one (ps_ret (pe_call GP hr (by rfl) mP kP bP .nil pass0 (pa_cons (pv 0) (pa_cons (pe_op op_cat (pe_op op_cat (pe_callTy call_list_of (by rfl) T.list PyProof.Rows.boot_list (pa_cons (pv 2) pa_nil)) (pe_lst (pa_cons (pe_tup (pa_cons pe_str pa_nil)) (pa_cons (pe_tup (pa_cons pe_str pa_nil)) pa_nil))))
            (pe_op op_rep (pe_lst (pa_cons (pe_tup (pa_cons pe_str pa_nil)) pa_nil)) (pe_op op_sub pe_int (pe_callB (call_min2 rfl) (by rfl) T.min (by decide +kernel) (pa_cons pe_int (pa_cons (pe_callB call_len (by rfl) T.len PySem.boot_len (pa_cons (pv 2) pa_nil)) pa_nil)))))) pa_nil))))) pss_nil)
        (pss_cons ps_never (pss_one ps_never))), ?_⟩
      have hk : kk 0 = 2 := rfl
      refine q_draw rfl S (by omega) (by decide) fun r G r0 r1 S1 B1 => ?_
      refine q_when (b := true) (et_is (et_or (a := true) (b := true) (et_is (et_test (ev_op (ev_var rfl) ev_c (rv_eq rfl))) rfl) fun z => nomatch z) rfl) (fun _ G1 e1 => ?_) fun z => nomatch z
      have S2 := S1.ext e1
      have hv2 : G1 va = some (.lst (sVs xs)) := e1 _ _ (B1 _ _ n1 n2 hv)
      refine ⟨.ref p, rfl, ?_⟩
      refine elp_leaf (K := K) (σ := [some (.ref p), some (.int 0), some (.ref va), some (.int r), none, none]) rfl hv2 hl hS G1 (Ex.refl _) _ fun c ys G2 nc e2 hc hys => ?_
      obtain ⟨hne, hlen, hall⟩ := hys
      obtain ⟨c1, c2⟩ := S2.nep nc
      refine ⟨p, q, c, n + 1, ys, rfl, S2.ext e2, by omega, hc, c1, c2, hne, by omega, fun y G3 hy S3 B3 => ?_⟩
      obtain ⟨z, hz, hf⟩ := hall y hy
      exact k y G3 _ z S3 (by omega) (((B1.trans (But.of e1)).trans (But.of e2)).trans B3) (hz.tx ((S2.ext e2).tx B3)) (hf.dw 0)
  | succ L ih =>
    obtain ⟨fR, dR, GR, bR, kR, mR⟩ := ih.ex
    refine T.ok 27 rfl sc_dw (fun vs H Q E h => ?_) (fun kV doc pm an cdv ct us hl => match us, hl with | [_, _, _], _ => rfl) (fun f cdv A outer s H vs Q E hr h => ?_)
    · obtain ⟨p, q, va, n, xs, rfl, _⟩ := h
      rfl
    · obtain ⟨p, q, va, n, xs, rfl, S, hn, hv, n1, n2, hl, hS, k⟩ := h
      refine ⟨_, pss_cons (ps_set (i := 3) sc_dw.nd rfl (Or.inl rfl) (pe_call GD (hr.mono (by omega)) (by rfl) mD kD bD .nil pass0 (pa_cons (pv 0) (pa_cons pe_int pa_nil))))
        (pss_cons (ps_if (PW.pt (pw_or (pt_cmpR op_eq (pv 1) pe_int (nomark _)) (pw_or1 (pt_cmpR op_lt (pv 3) pe_int (nomark _)))))
          (pss_one (ps_ret (pe_call GP (hr.mono (by omega)) (by rfl) mP kP bP .nil pass0 (pa_cons (pv 0) (pa_cons (pe_op op_cat (pe_op op_cat (pe_callTy call_list_of (by rfl) T.list PyProof.Rows.boot_list (pa_cons (pv 2) pa_nil)) (pe_lst (pa_cons (pe_tup (pa_cons pe_str pa_nil)) (pa_cons (pe_tup (pa_cons pe_str pa_nil)) pa_nil))))
            (pe_op op_rep (pe_lst (pa_cons (pe_tup (pa_cons pe_str pa_nil)) pa_nil)) (pe_op op_sub pe_int (pe_callB (call_min2 rfl) (by rfl) T.min (by decide +kernel) (pa_cons pe_int (pa_cons (pe_callB call_len (by rfl) T.len PySem.boot_len (pa_cons (pv 2) pa_nil)) pa_nil)))))) pa_nil))))) pss_nil)
        (pss_cons (ps_set (i := 4) sc_dw.nd rfl (Or.inl rfl) (pe_ix ix_list (pe_lst (pa_cons pe_int (pa_cons pe_int (pa_cons pe_int (pa_cons pe_int (pa_cons pe_int pa_nil)))))) (pe_op op_sub (pv 3) pe_int) (fun _ _ => rfl)))
        (pss_one (ps_ret (pe_op op_catT (pe_tup (pa_cons (pe_ix ix_list (pe_lst (pa_cons pe_str (pa_cons pe_str (pa_cons pe_str pa_nil)))) (pe_op op_sub (pv 4) pe_int) (fun _ _ => rfl)) pa_nil))
          (pe_callTy call_tuple_of (by rfl) T.tuple PyProof.Rows.boot_tuple (pa_cons (pe_lc (own := [("_law_k", 5)]) (g := gName 5) (tt := tYes) (te := tCall (spDw L) [] E0 (tCons (tVar 0) (tCons (tOp (rI0 fun i j => .int (i - j)) (tVar 1) (tC (.int 1))) (tCons (tVar 2) tNil)))) rfl sc_dw.nd (pi_range1 (by rfl) T.range (pa_cons (pv 4) pa_nil))
            (blkOk_by (N := nDw) (sc := defScope s__law_d_word) (by decide +kernel)) (fun _ _ _ _ _ => pg_name (i := 5) sc_dw.nd rfl (Or.inl rfl)) (fun _ _ _ _ _ => pts_nil) (fun _ _ _ _ _ => pe_call GR hr (by rfl) mR kR bR .nil pass0 (pa_cons (pv 0) (pa_cons (pe_op op_sub (pv 1) pe_int) (pa_cons (pv 2) pa_nil))))) pa_nil))))))), ?_⟩
      have hk : kk (L + 1) = 3 * kk L + 2 := rfl
      refine q_draw rfl S (by omega) (by decide) fun r G r0 r1 S1 B1 => ?_
      have hv1 : G va = some (.lst (sVs xs)) := B1 _ _ n1 n2 hv
      refine q_when (b := decide (r < 3)) (et_is (et_or (a := false) (et_is (et_test (ev_op (ev_var rfl) ev_c (rv_eq rfl))) (decide_eq_false (fun z => by have := V.int.inj z; omega))) fun _ => et_test (ev_op (ev_var rfl) ev_c rv_I0)) (Bool.false_or _)) (fun _ G1 e1 => ?_) fun hb G1 e1 => ?_
      · have S2 := S1.ext e1
        have hv2 : G1 va = some (.lst (sVs xs)) := e1 _ _ hv1
        refine ⟨.ref p, rfl, ?_⟩
        refine elp_leaf (K := K) (σ := [some (.ref p), some (.int ((L + 1 : Nat) : Int)), some (.ref va), some (.int r), none, none]) rfl hv2 hl hS G1 (Ex.refl _) _ fun c ys G2 nc e2 hc hys => ?_
        obtain ⟨hne, hlen, hall⟩ := hys
        obtain ⟨c1, c2⟩ := S2.nep nc
        refine ⟨p, q, c, n + 1, ys, rfl, S2.ext e2, by omega, hc, c1, c2, hne, by omega, fun y G3 hy S3 B3 => ?_⟩
        obtain ⟨z, hz, hf⟩ := hall y hy
        exact k y G3 _ z S3 (by omega) (((B1.trans (But.of e1)).trans (But.of e2)).trans B3) (hz.tx ((S2.ext e2).tx B3)) (hf.dw (L + 1))
      · have hr3 : 3 ≤ r := by have := of_decide_eq_false hb; omega
        have S2 := S1.ext e1
        have hv2 : G1 va = some (.lst (sVs xs)) := e1 _ _ hv1
        have hmany : ∃ m : Nat, (m = 1 ∨ m = 2 ∨ m = 3) ∧ atI [V.int 1, V.int 1, V.int 2, V.int 2, V.int 3] (r - 3) = some (.int (m : Nat)) := by
          rcases (by omega : r = 3 ∨ r = 4 ∨ r = 5 ∨ r = 6 ∨ r = 7) with rfl | rfl | rfl | rfl | rfl
          · exact ⟨1, .inl rfl, rfl⟩
          · exact ⟨1, .inl rfl, rfl⟩
          · exact ⟨2, .inr (.inl rfl), rfl⟩
          · exact ⟨2, .inr (.inl rfl), rfl⟩
          · exact ⟨3, .inr (.inr rfl), rfl⟩
        obtain ⟨m, hm, hat⟩ := hmany
        refine q_asg (v := .int (m : Nat)) (ev_opL1 (y := .int (r - 3)) (el_lst (ea_cons ev_c (ea_cons ev_c (ea_cons ev_c (ea_cons ev_c (ea_cons ev_c ea_nil))))) (by show 5 ≤ 100000; decide)) (fun H1 _ => ev_op (ev_var rfl) ev_c rv_I0) fun pl H1 hpl _ => rv_ixL (sq_of hpl) hat) fun G2 e2 => ?_
        have hname : ∃ sn, sn ∈ (["f", "g", "h"] : List Str) ∧ atI [V.str "f", V.str "g", V.str "h"] ((m : Int) - 1) = some (.str sn) := by
          rcases hm with rfl | rfl | rfl
          · exact ⟨"f", by decide, rfl⟩
          · exact ⟨"g", by decide, rfl⟩
          · exact ⟨"h", by decide, rfl⟩
        obtain ⟨sn, hsn, hats⟩ := hname
        have hm3 : m ≤ 3 := by omega
        -- the name's tuple
        have en : Ev (tOp (rIxL K) (tLst (tCons (tC (.str "f")) (tCons (tC (.str "g")) (tCons (tC (.str "h")) tNil)))) (tOp (rI0 fun i j => .int (i - j)) (tVar 4) (tC (.int 1)))) [some (.ref p), some (.int ((L + 1 : Nat) : Int)), some (.ref va), some (.int r), some (.int (m : Nat)), none] G2 (.str sn) :=
          ev_opL1 (y := .int ((m : Int) - 1)) (el_lst (ea_cons ev_c (ea_cons ev_c (ea_cons ev_c ea_nil))) (by show 3 ≤ 100000; decide)) (fun H1 _ => ev_op (ev_var rfl) ev_c rv_I0) fun pl H1 hpl _ => rv_ixL (sq_of hpl) hats
        refine ret_opU (eu_tup (ea_cons en ea_nil) (by show 1 ≤ 100000; decide)) fun pt G3 npt e3 hpt => ?_
        have S4 := (S2.ext e2).ext e3
        have hv4 : G3 va = some (.lst (sVs xs)) := e3 _ _ (e2 _ _ hv2)
        refine ⟨.int (m : Nat), rfl, _, rfl, by omega, by omega, fun Dl hD => ?_⟩
        obtain ⟨d1, d2⟩ := S4.nep hD
        have x4 : Ex G3 (upd G3 Dl (.lst [])) := Ex.new hD
        refine lc_range (lo := 0) (fun i J => ∃ acc n', Spr J p q n' ∧ n' ≤ n + 1 + ((i * kk L : Nat) : Int) ∧ J Dl = some (.lst acc) ∧ acc.length = i ∧ (∃ zs : List W, WVs J acc zs ∧ ∀ z ∈ zs, Dw L z) ∧ But p q G3 J) ?_ ?_ ?_
        · exact ⟨[], n + 1, S4.ext x4, by simp, upd_same, rfl, ⟨[], rfl, fun z hz => nomatch hz⟩, But.of x4⟩
        · rintro i J hi ⟨acc, n', SJ, hnJ, hJ, hal, ⟨zs, hzs, hdw⟩, BJ⟩
          refine ⟨rfl, ?_⟩
          unfold tYes
          dsimp only
          rw [if_pos (rfl : true = true)]
          have hi' : i < m := by simpa using hi
          have hik : i * kk L + kk L ≤ 3 * kk L := by
            have : (i + 1) * kk L ≤ 3 * kk L := Nat.mul_le_mul_right _ (by omega)
            rw [Nat.add_mul, Nat.one_mul] at this
            exact this
          have hvJ : J va = some (.lst (sVs xs)) := BJ _ _ n1 n2 hv4
          have hvD : va ≠ Dl := ne_of_none hv4 hD
          refine ⟨.ref p, rfl, .int ((L + 1 : Nat) : Int), rfl, _, _, rfl, rfl, .ref va, rfl, ?_⟩
          refine ⟨p, q, va, n', xs, ?_, SJ, by omega, hvJ, n1, n2, hl, hS, fun y J2 n2' z SJ2 hn2 BJ2 hz hdz => ?_⟩
          · have e : (((L + 1 : Nat) : Int)) - 1 = (L : Nat) := by omega
            show [V.ref p, V.int (((L + 1 : Nat) : Int) - 1), V.ref va] = _
            rw [e]
          · have hJ2 : J2 Dl = some (.lst acc) := BJ2 _ _ d1 d2 hJ
            have tJ : Tx J2 (upd J2 Dl (.lst (acc ++ [y]))) := Tx.lst hJ2
            refine ⟨acc, hJ2, sz_lt (by omega), acc ++ [y], n2', SJ2.keep (fun o h => by rw [upd_ne d1.symm]; exact h) (fun o h => by rw [upd_ne d2.symm]; exact h), ?_, upd_same, by simp [hal], ⟨zs ++ [z], ?_, fun z' hz' => ?_⟩, ?_⟩
            · rw [Nat.add_mul, Nat.one_mul]
              omega
            · unfold WVs
              rw [W.os_map, List.map_append, ← W.os_map]
              exact OVs.append (WVs.tx tJ (WVs.tx (SJ.tx BJ2) hzs)) (.cons (hz.tx tJ) .nil)
            · rcases List.mem_append.mp hz' with h | h
              · exact hdw z' h
              · obtain rfl : z' = z := by simpa using h
                exact hdz
            · intro b o nb1 nb2 e
              rw [upd_ne (ne_of_none e hD)]
              exact BJ2 _ _ nb1 nb2 (BJ _ _ nb1 nb2 e)
        · rintro J ⟨acc, n', SJ, hnJ, hJ, hal, ⟨zs, hzs, hdw⟩, BJ⟩
          have hm' : ((m : Nat) : Int).toNat = m := rfl
          rw [hm'] at hnJ hal
          refine ⟨Dl, acc, rfl, .inl ⟨sq_of hJ, fun pu hpu => ?_⟩⟩
          have hptJ : J pt = some (.tup [.str sn]) := (S4.tx BJ) _ _ hpt
          have x5 : Ex J (upd J pu (.tup acc)) := Ex.new hpu
          have hacc : acc ≠ [] := by intro z; rw [z] at hal; simp at hal; omega
          refine ⟨pt, pu, [.str sn], acc, rfl, rfl, st_of (x5 _ _ hptJ), st_of upd_same, by simp, sz_of (by simp; omega), fun z => absurd z hacc, fun _ pr hpr => ?_⟩
          have x6 : Ex (upd J pu (.tup acc)) (upd (upd J pu (.tup acc)) pr (.tup ([.str sn] ++ acc))) := Ex.new hpr
          have x56 := x5.trans x6
          have hzl : zs.length = m := by rw [← WVs.length hzs]; exact hal
          have hk3 : m * kk L ≤ 3 * kk L := Nat.mul_le_mul_right _ hm3
          refine k (.ref pr) _ n' (.n sn zs) (SJ.ext x56) (by omega) ((((((B1.trans (But.of e1)).trans (But.of e2)).trans (But.of e3)).trans BJ)).trans (But.of x56)) (WV.of upd_same (WVs.ext x56 hzs)) (Dw.node hsn (by omega) hdw)
end
end K23

set_option Elab.async false
set_option linter.all false
set_option maxRecDepth 100000
set_option maxHeartbeats 4000000
/-! Atoms drawn. -/
namespace K23
open PySem PySem.Spec PyProof.Rows L2 Evl
def nmAr : List (Str × Nat) := [("p", 1), ("q", 1), ("r", 2), ("s", 0)]
theorem pick_nm {y : V} (h : y ∈ [V.str "p", V.str "p", V.str "q", V.str "r", V.str "s"]) : ∃ s m, y = .str s ∧ (s, m) ∈ nmAr := by
  simp only [List.mem_cons, List.not_mem_nil, or_false] at h
  rcases h with rfl | rfl | rfl | rfl | rfl
  · exact ⟨_, 1, rfl, by simp [nmAr]⟩
  · exact ⟨_, 1, rfl, by simp [nmAr]⟩
  · exact ⟨_, 1, rfl, by simp [nmAr]⟩
  · exact ⟨_, 2, rfl, by simp [nmAr]⟩
  · exact ⟨_, 0, rfl, by simp [nmAr]⟩
theorem nm_fit : ∀ x ∈ nmAr, nameB x.1 = true ∧ SS.contains x.1 = true ∧ (x.1 == "=") = false ∧ x.2 ≤ 2 := by decide +kernel
def nmKvs : List (Key × V) := [(Sum.inr "p", .int 1), (Sum.inr "q", .int 1), (Sum.inr "r", .int 2), (Sum.inr "s", .int 0)]
theorem nm_val : ∀ x ∈ nmAr, valV (mergeK [] nmKvs) (Sum.inr x.1 : Key) = some (.int (x.2 : Nat)) := by
  intro x hx
  simp only [nmAr, List.mem_cons, List.not_mem_nil, or_false] at hx
  rcases hx with rfl | rfl | rfl | rfl <;> decide +kernel
theorem kids (L : Nat) : ∀ l : List W, (∀ x ∈ l, Dw L x) → O.fits (W.os l) = true ∧ O.sss (W.os l) = true ∧ W.nds l ≤ l.length * nN L ∧ W.dps l ≤ L + 1 := by
  intro l
  induction l with
  | nil => intro _; exact ⟨rfl, rfl, Nat.zero_le _, Nat.zero_le _⟩
  | cons x l ih =>
    intro h
    obtain ⟨a, b, c, d⟩ := ih fun y hy => h y (List.mem_cons_of_mem _ hy)
    have hx := h x (List.mem_cons_self ..)
    refine ⟨?_, ?_, ?_, ?_⟩
    · show (x.o.fit && O.fits (W.os l)) = true
      rw [hx.fit, a]
      rfl
    · show (x.o.ss && O.sss (W.os l)) = true
      rw [hx.ss, b]
      rfl
    · show x.nd + W.nds l ≤ (l.length + 1) * nN L
      have := hx.nd
      rw [Nat.add_mul, Nat.one_mul]
      omega
    · exact Nat.max_le.mpr ⟨hx.dp, d⟩
theorem Dz.atom {s : Str} {m : Nat} {as : List W} (hs : (s, m) ∈ nmAr) (hl : as.length = m) (h : ∀ x ∈ as, Dw 3 x) : Dz (.n s as) ∧ (W.n s as).nd ≤ 130 ∧ (W.n s as).o.fit = true ∧ (W.n s as).dp ≤ 6 := by
  obtain ⟨h1, h2, h3, h4⟩ := nm_fit _ hs
  obtain ⟨a, b, c, d⟩ := kids 3 as h
  have hm : m ≤ 2 := h4
  have hnd : (W.n s as).nd ≤ 130 := by
    show W.nds as + 1 ≤ 130
    have : as.length * nN 3 ≤ 2 * nN 3 := Nat.mul_le_mul_right _ (by omega)
    have e : nN 3 = 40 := rfl
    omega
  refine ⟨⟨?_, ?_, by omega, ?_⟩, hnd, ?_, ?_⟩
  · unfold O.fitW
    have : (W.n s as).o.fitA = true := by
      show ((eqL (.str s :: W.os as) || headB (.str s) (W.os as).length) && O.fits (W.os as)) = true
      rw [a, Bool.and_true, os_len]
      show (eqL (.str s :: W.os as) || (decide (as.length ≤ 6) && nameB s)) = true
      rw [show nameB s = true from h1, decide_eq_true (by omega)]
      simp
    rw [this, Bool.or_true]
  · show (SS.contains s && O.sss (W.os as)) = true
    rw [show SS.contains s = true from h2, b]
    rfl
  · show W.dps as + 1 < 12
    omega
  · show (headB (.str s) (W.os as).length && O.fits (W.os as)) = true
    rw [a, Bool.and_true, os_len]
    show (decide (as.length ≤ 6) && nameB s) = true
    rw [show nameB s = true from h1, decide_eq_true (by omega)]
    rfl
  · show W.dps as + 1 ≤ 6
    omega
theorem Dz.eq {x y : W} (hx : Dz x) (hx2 : x.o.fit = true) (hn : x.nd ≤ 130) (hd : x.dp ≤ 6) (hy : Dw 2 y) : Dz (.n "=" [x, y]) ∧ (W.n "=" [x, y]).nd ≤ 150 := by
  have e : nN 2 = 13 := rfl
  have h1 := hy.nd
  have hnd : (W.n "=" [x, y]).nd ≤ 150 := by
    show x.nd + (y.nd + 0) + 1 ≤ 150
    omega
  refine ⟨⟨?_, ?_, by omega, ?_⟩, hnd⟩
  · unfold O.fitW
    have : (W.n "=" [x, y]).o.fitA = true := by
      show ((eqL [.str "=", x.o, y.o] || headB (.str "=") 2) && (x.o.fit && (y.o.fit && true))) = true
      rw [hx2, hy.fit]
      rfl
    rw [this, Bool.or_true]
  · show (SS.contains "=" && (x.o.ss && (y.o.ss && true))) = true
    rw [hx.ss, hy.ss]
    decide +kernel
  · have := hy.dp
    show max x.dp (max y.dp 0) + 1 < 12
    omega
section
variable {P : Program} {w : World} {K : PySem.W.Frag} {mg : Str → Option Value} {base : Heap}
def spAt : Sp := fun vs H Q _ => ∃ (p q va : Addr) (n : Int) (xs : List Str), vs = [.ref p, .int 3, .ref va] ∧ Spr H p q n ∧ n + 400 ≤ 90000 ∧ H va = some (.lst (sVs xs)) ∧ va ≠ p ∧ va ≠ q ∧ xs.length ≤ 4 ∧ (∀ s ∈ xs, s ∈ SV) ∧
  ∀ (r : V) (G : Hp) (n' : Int) (z : W), Spr G p q n' → n' ≤ n + 400 → But p q H G → WV G r z → Dz z → (z.nd ≤ 130 ∧ z.o.fit = true ∧ z.dp ≤ 6) → Q r G
abbrev nAt : List Str := ["_law_stream", "_law_level", "_law_variables", "_law_name", "_law_many", "_law_k"]
theorem sc_at : FnScope nAt ["_law_stream", "_law_level", "_law_variables"] (defScope s__law_d_atom) := ⟨rfl, rfl, rfl, by decide +kernel, rfl, by decide +kernel, by decide +kernel⟩
theorem ev_nm {σ : L2.St} {H : Hp} {i : Nat} {s : Str} {m : Nat} (hs : σ[i]? = some (some (.str s))) (h : (s, m) ∈ nmAr) :
    Ev (tDGet (tDisp [(tC (.str "p"), tC (.int 1)), (tC (.str "q"), tC (.int 1)), (tC (.str "r"), tC (.int 2)), (tC (.str "s"), tC (.int 0))]) (tVar i)) σ H (.int (m : Nat)) := fun H1 e Q q pd hpd =>
  ⟨upd_same, nmKvs, rfl, by decide, .str s, hs, pd, _, rfl, by
    have g := DGet.k (H := upd (upd H1 pd (.dK [])) pd (.dK (mergeK [] nmKvs))) (k := (Sum.inr s : Key)) upd_same
    rw [nm_val _ h] at g
    exact g, q _ (Ex.mut (Ex.new hpd) hpd)⟩
theorem ok_d_atom (T : T23 P w K mg base) : Ok P w K mg base CX0 "_law_d_atom" ["_law_stream", "_law_level", "_law_variables"] 7 spAt := by
  obtain ⟨fP, dP, GP, bP, kP, mP⟩ := (ok_pick T).ex
  obtain ⟨fR, dR, GR, bR, kR, mR⟩ := (ok_d_word T 3).ex
  refine T.ok 28 rfl sc_at (fun vs H Q E h => ?_) (fun kV doc pm an cdv ct us hl => match us, hl with | [_, _, _], _ => rfl) (fun f cdv A outer s H vs Q E hr h => ?_)
  · obtain ⟨p, q, va, n, xs, rfl, _⟩ := h
    rfl
  · obtain ⟨p, q, va, n, xs, rfl, S, hn, hv, n1, n2, hl, hS, k⟩ := h
    refine ⟨_, pss_cons (ps_set (i := 3) sc_at.nd rfl (Or.inl rfl) (pe_call GP (hr.mono (by decide)) (by rfl) mP kP bP .nil pass0 (pa_cons (pv 0) (pa_cons (pe_lst (pa_cons pe_str (pa_cons pe_str (pa_cons pe_str (pa_cons pe_str (pa_cons pe_str pa_nil)))))) pa_nil))))
      (pss_cons (ps_set (i := 4) sc_at.nd rfl (Or.inl rfl) (pe_dget (hu_of hr) (pe_disp (pps_cons pe_str pe_int (pps_cons pe_str pe_int (pps_cons pe_str pe_int (pps_cons pe_str pe_int pps_nil)))) (by rfl) (by rfl) (fun z => by cases z) (by decide)) (pv 3) (fun _ _ => rfl)))
      (pss_one (ps_ret (pe_op op_catT (pe_tup (pa_cons (pv 3) pa_nil))
        (pe_callTy call_tuple_of (by rfl) T.tuple PyProof.Rows.boot_tuple (pa_cons (pe_lc (own := [("_law_k", 5)]) (g := gName 5) (tt := tYes) (te := tCall (spDw 3) [] E0 (tCons (tVar 0) (tCons (tVar 1) (tCons (tVar 2) tNil)))) rfl sc_at.nd (pi_range1 (by rfl) T.range (pa_cons (pv 4) pa_nil))
          (blkOk_by (N := nAt) (sc := defScope s__law_d_atom) (by decide +kernel)) (fun _ _ _ _ _ => pg_name (i := 5) sc_at.nd rfl (Or.inl rfl)) (fun _ _ _ _ _ => pts_nil) (fun _ _ _ _ _ => pe_call GR hr (by rfl) mR kR bR .nil pass0 (pa_cons (pv 0) (pa_cons (pv 1) (pa_cons (pv 2) pa_nil))))) pa_nil)))))), ?_⟩
    have hk3 : kk 3 = 80 := rfl
    refine ⟨.ref p, rfl, by show 5 ≤ sizeLine; decide, fun c hc => ?_⟩
    have xc : Ex H (upd H c (.lst [V.str "p", V.str "p", V.str "q", V.str "r", V.str "s"])) := Ex.new hc
    obtain ⟨c1, c2⟩ := S.nep hc
    refine ⟨p, q, c, n, _, rfl, S.ext xc, by omega, upd_same, c1, c2, by simp, by simp, fun y G hy S1 B1 => ?_⟩
    have B1' := (But.of (p := p) (q := q) xc).trans B1
    have hv1 : G va = some (.lst (sVs xs)) := B1' _ _ n1 n2 hv
    obtain ⟨sn, m, rfl, hsm⟩ := pick_nm hy
    obtain ⟨g1, g2, g3, g4⟩ := nm_fit _ hsm
    have hm2 : m ≤ 2 := g4
    refine q_asg (v := .int (m : Nat)) (ev_nm rfl hsm) fun G2 e2 => ?_
    refine ret_opU (eu_tup (ea_cons (ev_var rfl) ea_nil) (by show 1 ≤ 100000; decide)) fun pt G3 npt e3 hpt => ?_
    have S4 := (S1.ext e2).ext e3
    have hv4 : G3 va = some (.lst (sVs xs)) := e3 _ _ (e2 _ _ hv1)
    refine ⟨.int (m : Nat), rfl, _, rfl, by omega, by omega, fun Dl hD => ?_⟩
    obtain ⟨d1, d2⟩ := S4.nep hD
    have x4 : Ex G3 (upd G3 Dl (.lst [])) := Ex.new hD
    refine lc_range (lo := 0) (fun i J => ∃ acc n', Spr J p q n' ∧ n' ≤ n + 1 + ((i * 80 : Nat) : Int) ∧ J Dl = some (.lst acc) ∧ acc.length = i ∧ (∃ zs : List W, WVs J acc zs ∧ ∀ z ∈ zs, Dw 3 z) ∧ But p q G3 J) ?_ ?_ ?_
    · exact ⟨[], n + 1, S4.ext x4, by simp, upd_same, rfl, ⟨[], rfl, fun z hz => nomatch hz⟩, But.of x4⟩
    · rintro i J hi ⟨acc, n', SJ, hnJ, hJ, hal, ⟨zs, hzs, hdw⟩, BJ⟩
      refine ⟨rfl, ?_⟩
      unfold tYes
      dsimp only
      rw [if_pos (rfl : true = true)]
      have hi' : i < m := by simpa using hi
      have hvJ : J va = some (.lst (sVs xs)) := BJ _ _ n1 n2 hv4
      refine ⟨.ref p, rfl, .int 3, rfl, .ref va, rfl, ?_⟩
      refine ⟨p, q, va, n', xs, rfl, SJ, by omega, hvJ, n1, n2, hl, hS, fun y J2 n2' z SJ2 hn2 BJ2 hz hdz => ?_⟩
      have hJ2 : J2 Dl = some (.lst acc) := BJ2 _ _ d1 d2 hJ
      have tJ : Tx J2 (upd J2 Dl (.lst (acc ++ [y]))) := Tx.lst hJ2
      refine ⟨acc, hJ2, sz_lt (by omega), acc ++ [y], n2', SJ2.keep (fun o h => by rw [upd_ne d1.symm]; exact h) (fun o h => by rw [upd_ne d2.symm]; exact h), by omega, upd_same, by simp [hal], ⟨zs ++ [z], ?_, fun z' hz' => ?_⟩, ?_⟩
      · unfold WVs
        rw [W.os_map, List.map_append, ← W.os_map]
        exact OVs.append (WVs.tx tJ (WVs.tx (SJ.tx BJ2) hzs)) (.cons (hz.tx tJ) .nil)
      · rcases List.mem_append.mp hz' with h | h
        · exact hdw z' h
        · obtain rfl : z' = z := by simpa using h
          exact hdz
      · intro b o nb1 nb2 e
        rw [upd_ne (ne_of_none e hD)]
        exact BJ2 _ _ nb1 nb2 (BJ _ _ nb1 nb2 e)
    · rintro J ⟨acc, n', SJ, hnJ, hJ, hal, ⟨zs, hzs, hdw⟩, BJ⟩
      have hm' : ((m : Nat) : Int).toNat = m := rfl
      rw [hm'] at hnJ hal
      have hzl : zs.length = m := by rw [← WVs.length hzs]; exact hal
      obtain ⟨hdz, hnd⟩ := Dz.atom hsm hzl hdw
      refine ⟨Dl, acc, rfl, .inl ⟨sq_of hJ, fun pu hpu => ?_⟩⟩
      have hptJ : J pt = some (.tup [.str sn]) := (S4.tx BJ) _ _ hpt
      have x5 : Ex J (upd J pu (.tup acc)) := Ex.new hpu
      have Ball := ((((B1'.trans (But.of e2)).trans (But.of e3)).trans BJ))
      refine ⟨pt, pu, [.str sn], acc, rfl, rfl, st_of (x5 _ _ hptJ), st_of upd_same, by simp, sz_of (by simp; omega), fun z => ?_, fun _ pr hpr => ?_⟩
      · subst z
        have hz0 : zs = [] := List.length_eq_zero_iff.mp (by rw [← WVs.length hzs]; rfl)
        subst hz0
        exact k (.ref pt) _ n' (.n sn []) (SJ.ext x5) (by omega) (Ball.trans (But.of x5)) (WV.of (us := []) (x5 _ _ hptJ) rfl) hdz hnd
      · have x6 : Ex (upd J pu (.tup acc)) (upd (upd J pu (.tup acc)) pr (.tup ([.str sn] ++ acc))) := Ex.new hpr
        have x56 := x5.trans x6
        exact k (.ref pr) _ n' (.n sn zs) (SJ.ext x56) (by omega) (Ball.trans (But.of x56)) (WV.of upd_same (WVs.ext x56 hzs)) hdz hnd
end
end K23

set_option Elab.async false
set_option linter.all false
set_option maxRecDepth 100000
set_option maxHeartbeats 4000000
/-! The law's parts of words. -/
namespace K23
open PySem PySem.Spec PyProof.Rows L2 Evl
def PaV (B : Addr → Prop) (H : Hp) (x : V) (p : List Nat × W) : Prop := ∃ t l u, x = .ref t ∧ H t = some (.tup [.ref l, u]) ∧ B l ∧ H l = some (.lst (nums p.1)) ∧ WV H u p.2
theorem PaV.mut {B B' : Addr → Prop} {H G : Hp} {x : V} {p : List Nat × W} (h : PaV B H x p) (tx : Tx H G) (l : ∀ a o, B a → H a = some o → G a = some o) (b : ∀ a, B a → B' a) : PaV B' G x p := by
  obtain ⟨t, a, u, rfl, h1, h2, h3, h4⟩ := h
  exact ⟨t, a, u, rfl, tx _ _ h1, b _ h2, l _ _ h2 h3, h4.tx tx⟩
def prtL (as : List W) : List (List Nat × W) := W.partsL 0 as
theorem prtL_snoc (xs : List W) (x : W) : prtL (xs ++ [x]) = prtL xs ++ x.parts.map fun q => (xs.length :: q.1, q.2) := by
  unfold prtL
  rw [W.partsL_snoc, Nat.zero_add]
section
variable {P : Program} {w : World} {K : PySem.W.Frag} {mg : Str → Option Value} {base : Heap}
def spDp (m : Nat) : Sp := fun vs H Q _ => ∃ v z, vs = [v] ∧ WV H v z ∧ z.dp < m ∧ m ≤ 40 ∧ z.sz ≤ 1000 ∧
  ∀ p xs H', H p = none → Ex H H' → H' p = some (.lst xs) → A2 (PaV (fun l => H l = none ∧ l ≠ p) H') xs z.parts → Q (.ref p) H'
abbrev nDp : List Str := ["_law_word", "_law_found", "_law_index", "_law_part", "_law_place", "_law_deep"]
theorem sc_dp : FnScope nDp ["_law_word"] (defScope s__law_d_parts) := ⟨rfl, rfl, rfl, by decide +kernel, rfl, by decide +kernel, by decide +kernel⟩
theorem ok_d_parts (T : T23 P w K mg base) : ∀ m, Ok P w K mg base CX0 "_law_d_parts" ["_law_word"] (m + 1) (spDp m)
  | 0 => T.ok 29 rfl sc_dp (fun vs H Q E h => by obtain ⟨v, z, rfl, _⟩ := h; rfl) (fun kV doc pm an cdv ct us hl => match us, hl with | [_], _ => rfl) (fun f cdv A outer s H vs Q E hr h => by obtain ⟨v, z, _, _, h0, _⟩ := h; exact absurd h0 (Nat.not_lt_zero _))
  | m + 1 => by
    obtain ⟨fR, dR, GR, bR, kR, mR⟩ := (ok_d_parts T m).ex
    refine T.ok 29 rfl sc_dp (fun vs H Q E h => ?_) (fun kV doc pm an cdv ct us hl => match us, hl with | [_], _ => rfl) (fun f cdv A outer s H vs Q E hr h => ?_)
    · obtain ⟨v, z, rfl, _⟩ := h
      rfl
    · obtain ⟨v, z, rfl, hw, hz, hm, hs, k⟩ := h
      refine ⟨_, pss_cons (ps_set (i := 1) sc_dp.nd rfl (Or.inl rfl) (pe_lst (pa_cons (pe_tup (pa_cons (pe_lst pa_nil) (pa_cons (pv 0) pa_nil))) pa_nil)))
        (pss_cons (ps_if (pt_not (pt_val (pe_isiB T.isi T.str PyProof.Rows.boot_str (pv 0))))
          (pss_one (ps_for PassesOwn.never rfl (pi_enumT (by rfl) T.enumerate (pa_cons (pe_slice sl_tup (pv 0) (po_some pe_int) po_none) pa_nil)) (pg_tup rfl (pgs_cons (pg_name (i := 2) sc_dp.nd rfl (Or.inr rfl)) (pgs_cons (pg_name (i := 3) sc_dp.nd rfl (Or.inl rfl)) pgs_nil)))
            (pss_one (ps_expr (pe_bm PySem.F.plainAttrs_list PySem.F.slot_list_extend PySem.F.type_list_extend mt_extend (pv 1) (pa_cons
              (pe_lc (own := [("_law_place", 4), ("_law_deep", 5)]) (g := gPair K 4 5) (tt := tYes) (te := tTup (tCons (tOp rCat (tLst (tCons (tVar 2) tNil)) (tVar 4)) (tCons (tVar 5) tNil))) rfl sc_dp.nd (pi_list (pe_call GR hr (by rfl) mR kR bR .nil pass0 (pa_cons (pv 3) pa_nil))) (blkOk_by (N := nDp) (sc := defScope s__law_d_parts) (by decide +kernel))
                (fun _ _ _ _ _ => pg_tup rfl (pgs_cons (pg_name (i := 4) sc_dp.nd rfl (Or.inl rfl)) (pgs_cons (pg_name (i := 5) sc_dp.nd rfl (Or.inl rfl)) pgs_nil))) (fun _ _ _ _ _ => pts_nil)
                (fun _ _ _ _ _ => pe_tup (pa_cons (pe_op op_cat (pe_lst (pa_cons (pv 2) pa_nil)) (pv 4)) (pa_cons (pv 5) pa_nil)))) pa_nil)))))) pss_nil)
        (pss_one (ps_ret (pv 1)))), ?_⟩
      refine ⟨Nat.zero_le _, fun l hl => ⟨_, rfl, by show 2 ≤ sizeLine; decide, fun t ht => ⟨by show 1 ≤ sizeLine; decide, fun p hp => ?_⟩⟩⟩
      have e1 : Ex H (upd H l (.lst [])) := Ex.new hl
      have e2 := e1.trans (Ex.new (o := .tup [.ref l, v]) ht)
      have e3 := e2.trans (Ex.new (o := .lst [.ref t]) hp)
      have hp0 : H p = none := fresh_back e2 hp
      have hlp : l ≠ p := by
        intro q
        have q2 := (Ex.new (H := upd H l (.lst [])) (o := .tup [.ref l, v]) ht) l _ upd_same
        rw [q] at q2
        rw [q, q2] at hp
        cases hp
      have htp : t ≠ p := by
        intro q
        rw [← q, upd_same] at hp
        cases hp
      have first : PaV (fun l => H l = none ∧ l ≠ p) (upd (upd (upd H l (.lst [])) t (.tup [.ref l, v])) p (.lst [.ref t])) (.ref t) ([], z) :=
        ⟨t, l, v, rfl, by rw [upd_ne htp, upd_same], ⟨hl, hlp⟩, by rw [upd_ne hlp]; exact (Ex.new (o := .tup [.ref l, v]) ht) l _ upd_same, hw.ext e3⟩
      have keep : ∀ {G1 G2 : Hp} {xs : List V} {L : List (List Nat × W)}, A2 (PaV (fun l => H l = none ∧ l ≠ p) G1) xs L → Tx G1 G2 → (∀ a o, a ≠ p → G1 a = some o → G2 a = some o) → A2 (PaV (fun l => H l = none ∧ l ≠ p) G2) xs L :=
        fun h tx e => h.mono fun a b q => q.mut tx (fun c o q1 q2 => e c o q1.2 q2) fun _ q => q
      cases z with
      | v sv =>
        obtain rfl : v = .str sv := hw
        refine q_when (b := false) (et_not (a := true) (et_B (ev_isStr (o := .str sv) (ev_var rfl) rfl))) (fun z => nomatch z) fun _ H1 e4 => ?_
        refine s_ret (ev_var rfl) fun H2 e5 => k p [.ref t] H2 hp0 ((e3.trans e4).trans e5) (e5 _ _ (e4 _ _ upd_same)) ?_
        exact keep ⟨first, trivial⟩ (Tx.of (e4.trans e5)) fun a o _ q => e5 _ _ (e4 _ _ q)
      | n sn as =>
        obtain ⟨r, us, rfl, hr1, hu⟩ := hw.tup
        have hul := hu.length
        have hdp : W.dps as < m := by have : (W.n sn as).dp = W.dps as + 1 := rfl; omega
        have hsz : W.szs as + 2 ≤ 1000 := hs
        refine q_when (b := true) (et_not (a := false) (et_B (ev_isStr (o := (W.n sn as).o) (ev_var rfl) (hw.ext e3)))) (fun _ H1 e4 => ?_) (fun z => nomatch z)
        have e04 := e3.trans e4
        refine s_forEnumNT (eu_tail (ev_var rfl) (st_of (e04 _ _ hr1))) (fun i σ' H' => Ex H H' ∧ (∃ a b : Option V, σ' = [some (.ref r), some (.ref p), a, b, none, none]) ∧ ∃ xs, H' p = some (.lst xs) ∧ A2 (PaV (fun l => H l = none ∧ l ≠ p) H') xs (([], W.n sn as) :: prtL (as.take i))) ?_ ?_ ?_
        · intro H2 e5
          refine ⟨e04.trans e5, ⟨none, none, rfl⟩, [.ref t], e5 _ _ (e4 _ _ upd_same), ?_⟩
          exact keep ⟨first, trivial⟩ (Tx.of (e4.trans e5)) fun a o _ q => e5 _ _ (e4 _ _ q)
        · rintro i x σ' H' H2 hx ⟨e5, ⟨a, b, rfl⟩, xs, h5, hP⟩ e6 N hN
          have e06 := e5.trans e6
          have h6 := e6 _ _ h5
          obtain ⟨y, hy, hwy⟩ := (hu.ext e06).getv hx
          have hyd := W.lt_dp hy
          have hys := W.lt_sz hy
          have hlenx := hP.length
          have hpl := W.partsL_len 0 (as.take i)
          have htk := szs_take as i
          have hxl : xs.length ≤ 1001 := by
            rw [hlenx]
            show (prtL (as.take i)).length + 1 ≤ 1001
            unfold prtL
            omega
          refine s_extLP (P := fun zs G => A2 (PaV (fun l => H2 l = none) G) zs (y.parts.map fun q => (i :: q.1, q.2))) h6 (ev_var rfl) ?_ (fun zs G q => ?_) fun zs H3 e7 q => ?_
          · intro H3 e7 Q3 q3
            refine ⟨x, rfl, x, y, rfl, hwy.ext e7, by omega, by omega, by omega, fun pq ps H5 hpq e9 h9 hparts => ?_⟩
            have hpln := hparts.length
            have hpl2 := W.parts_len y
            refine ⟨pq, rfl, ⟨ps, sq_of h9⟩, fun Dl hD => lc_it walk_list (Cwp H5 (fun _ => true) (fun j v G => ∃ q, y.parts[j]? = some q ∧ PaV (fun l => H2 l = none ∧ l ≠ Dl) G v (i :: q.1, q.2)) Dl) (cwp0 hD) (fun i G _ c => sq_of (c.2.1 _ _ h9)) ?_ ?_⟩
            · rintro j v G G' hj c ⟨rfl, hv⟩
              obtain ⟨q5, hq5, t5, l5, u5, rfl, k1, k2, k3, k5⟩ := hparts.get hv
              have eG := c.2.1
              obtain ⟨acc, hacc, _⟩ := c.2.2
              refine ⟨t5, _, rfl, st_of (eG _ _ k1), rfl, _, _, rfl, _, _, rfl, rfl, rfl, cwp_turn (fun _ v => ?_) c (Ex.refl _) (by omega) et_yes (fun _ G3 e10 => ?_)⟩
              · intro G1 G2 xs1 a0 a1 a2 a3 ⟨q, hq, hp⟩
                have tx : Tx G1 G2 := fun a ys q => a3 a _ (ne_of q a0 (by intro z; cases z)) q
                exact ⟨q, hq, hp.mut tx (fun a o q1 q2 => a3 a o q1.2 q2) fun _ q => q⟩
              · intro G4 e11 Q4 q4
                have e12 := (eG.trans e10).trans e11
                have hq6 := W.parts_deep y q5 (List.mem_of_getElem? hq5)
                refine ⟨_, rfl, by show 1 ≤ sizeLine; decide, fun l6 hl6 => ⟨_, rfl, l6, l5, _, nums q5.1, rfl, rfl, upd_same, Ex.new hl6 _ _ (e12 _ _ k3), sz_of (by rw [nums_len]; simp; omega), fun l7 hl7 => ⟨_, rfl, by show 2 ≤ sizeLine; decide, fun t8 ht8 => ?_⟩⟩⟩
                have x6 : Ex G4 (upd G4 l6 (.lst [.int i])) := Ex.new hl6
                have x7 := x6.trans (Ex.new (o := .lst ([V.int i] ++ nums q5.1)) hl7)
                have x8 := x7.trans (Ex.new (o := .tup [.ref l7, u5]) ht8)
                have h47 : G4 l7 = none := fresh_back x6 hl7
                refine q4 _ _ x8 ⟨q5, hq5, t8, l7, u5, rfl, upd_same, ⟨fresh_back (((e7.trans e9).trans e12)) h47, fun z => ?_⟩, ?_, k5.ext (e12.trans x8)⟩
                · rw [z, e11 _ _ (e10 _ _ hacc)] at h47
                  cases h47
                · rw [upd_ne (fun z => by rw [z, upd_same] at ht8; cases ht8)]
                  exact upd_same
            · rintro G c
              obtain ⟨acc, hacc, hal, ha2⟩ := c.2.2
              rw [filter_true] at ha2
              refine q3 Dl acc G (fresh_back e9 c.1) (e9.trans c.2.1) hacc ?_
              have h3 : A2 (fun v q => PaV (fun l => H2 l = none ∧ l ≠ Dl) G v (i :: q.1, q.2)) acc y.parts := a2_range hpln ha2
              refine A2.of_get (by rw [List.length_map]; exact h3.length) fun j a b e1 e2 => ?_
              obtain ⟨q, hq, hr⟩ := h3.get e1
              rw [List.getElem?_map, hq] at e2
              obtain rfl : (i :: q.1, q.2) = b := Option.some.inj e2
              exact hr.mut (Tx.refl _) (fun _ _ _ q => q) fun _ q => q.1
          · have := q.length
            rw [List.length_map] at this
            have hpl2 := W.parts_len y
            omega
          · refine hN _ _ ⟨Ex.mut (e06.trans e7) hp0, ⟨_, _, rfl⟩, xs ++ zs, upd_same, ?_⟩ ((Tx.of e7).trans (Tx.lst (e7 _ _ h6)))
            rw [take_snoc hy, prtL_snoc, List.length_take, Nat.min_eq_left (by have := (List.getElem?_eq_some_iff.mp hy).1; omega)]
            have t7 : Tx H3 (upd H3 p (.lst (xs ++ zs))) := Tx.lst (e7 _ _ h6)
            refine A2.append (as := xs) (bs := ([], W.n sn as) :: prtL (as.take i)) ?_ ?_
            · refine keep hP ((Tx.of (e6.trans e7)).trans t7) fun a o nn q => ?_
              rw [upd_ne nn]
              exact e7 _ _ (e6 _ _ q)
            · refine q.mono fun a b q => q.mut t7 (fun c o q1 q2 => ?_) fun c q1 => ⟨fresh_back e06 q1, fun z => ?_⟩
              · rw [upd_ne (fun z => by rw [z, h6] at q1; cases q1)]
                exact q2
              · rw [z, h6] at q1
                cases q1
        · rintro σ' H' ⟨e5, ⟨a, b, rfl⟩, xs, h5, hP⟩
          rw [hul, List.take_length] at hP
          exact s_ret (ev_var rfl) fun H2 e6 => k p xs H2 hp0 (e5.trans e6) (e6 _ _ h5) (keep hP (Tx.of e6) fun a o _ q => e6 _ _ q)
end
end K23

set_option Elab.async false
set_option linter.all false
set_option maxRecDepth 100000
set_option maxHeartbeats 4000000
/-! What is known beside some objects, and beside tables; words handed loosely. -/
namespace K23
open PySem PySem.Spec PyProof.Rows L2 Evl LamX
open Classical in
/-- the heap without the objects of B, without tables -/
noncomputable def Hx (B : Addr → Prop) (H : Hp) : Hp := fun b => if B b then none else match H b with
  | some (.tbl _) => none
  | o => o
theorem hx_of {B : Addr → Prop} {H : Hp} {b : Addr} {o : HO} (n : ¬ B b) (t : ∀ ps, o ≠ .tbl ps) (h : H b = some o) : Hx B H b = some o := by
  unfold Hx
  rw [if_neg n, h]
  split
  · rename_i ps e
    exact absurd (Option.some.inj e) (t ps)
  · rfl
theorem hx_to {B : Addr → Prop} {H : Hp} {b : Addr} {o : HO} (h : Hx B H b = some o) : ¬ B b ∧ (∀ ps, o ≠ .tbl ps) ∧ H b = some o := by
  unfold Hx at h
  by_cases n : B b
  · rw [if_pos n] at h
    cases h
  · rw [if_neg n] at h
    split at h
    · cases h
    · rename_i x hx
      exact ⟨n, fun ps e => hx ps (by rw [h, e]), h⟩
/-- all but the objects of B and the tables stay -/
def Go (B : Addr → Prop) (H G : Hp) : Prop := ∀ b o, ¬ B b → (∀ ps, o ≠ .tbl ps) → H b = some o → G b = some o
theorem Go.ex {B : Addr → Prop} {H G : Hp} (g : Go B H G) : Ex (Hx B H) (Hx B G) := fun b o h => by
  obtain ⟨h1, h2, h3⟩ := hx_to h
  exact hx_of h1 h2 (g b o h1 h2 h3)
theorem hx_ex {B : Addr → Prop} {H : Hp} : Ex (Hx B H) H := fun b o h => (hx_to h).2.2
theorem hx_mono {B B' : Addr → Prop} {H : Hp} (m : ∀ b, B b → B' b) : Ex (Hx B' H) (Hx B H) := fun b o h => by
  obtain ⟨h1, h2, h3⟩ := hx_to h
  exact hx_of (fun z => h1 (m b z)) h2 h3
theorem Go.of {B : Addr → Prop} {H G : Hp} (e : Ex H G) : Go B H G := fun b o _ _ h => e b o h
theorem Go.ofN {B : Addr → Prop} {H G : Hp} (e : ExtN H G) : Go B H G := fun b o _ t h => e b o h t
theorem Go.but {B : Addr → Prop} {p q : Addr} {H G : Hp} (e : But p q H G) (bp : B p) (bq : B q) : Go B H G := fun b o n _ h => e b o (fun z => n (by rw [z]; exact bp)) (fun z => n (by rw [z]; exact bq)) h
theorem Go.trans {B : Addr → Prop} {H G J : Hp} (a : Go B H G) (b : Go B G J) : Go B H J := fun c o n t h => b c o n t (a c o n t h)
theorem Go.upd {B : Addr → Prop} {H : Hp} {p : Addr} {o : HO} (b : B p) : Go B H (upd H p o) := fun c u n _ h => by
  rw [upd_ne (fun z => n (by rw [z]; exact b))]
  exact h
theorem Go.refl {B : Addr → Prop} {H : Hp} : Go B H H := fun _ _ _ _ h => h
theorem Go.new {B : Addr → Prop} {H : Hp} {p : Addr} {o : HO} (n : H p = none) : Go B H (L2.upd H p o) := Go.of (Ex.new n)
def Old (H : Hp) (b : Addr) : Prop := ∃ xs, H b = some (.lst xs)
theorem Old.ex {H G : Hp} (e : Ex H G) {b : Addr} (h : Old H b) : Old G b := by
  obtain ⟨xs, h⟩ := h
  exact ⟨xs, e _ _ h⟩
theorem Old.but {p q : Addr} {H G : Hp} {n : Int} (B : But p q H G) (S : Spr G p q n) {b : Addr} (h : Old H b) : Old G b := by
  obtain ⟨xs, ys, h1, h2⟩ := S.lst
  by_cases e1 : b = p
  · exact ⟨xs, by rw [e1]; exact h1⟩
  · by_cases e2 : b = q
    · exact ⟨ys, by rw [e2]; exact h2⟩
    · obtain ⟨zs, h⟩ := h
      exact ⟨zs, B _ _ e1 e2 h⟩
theorem Spr.old {p q : Addr} {H : Hp} {n : Int} (S : Spr H p q n) : Old H p ∧ Old H q := by
  obtain ⟨xs, ys, h1, h2⟩ := S.lst
  exact ⟨⟨_, h1⟩, ⟨_, h2⟩⟩
theorem not_old {H : Hp} {b : Addr} (h : H b = none) : ¬ Old H b := fun ⟨xs, e⟩ => by
  rw [h] at e
  cases e
theorem But.back {p q : Addr} {H G : Hp} {n : Int} (B : But p q H G) (S : Spr G p q n) {a : Addr} (h : G a = none) : H a = none := by
  obtain ⟨a1, a2⟩ := S.nep h
  cases e : H a with
  | none => rfl
  | some o =>
    have := B a o a1 a2 e
    rw [h] at this
    cases this
theorem asg_opL {σ : L2.St} {H : Hp} {D : Ends} {tz : TS} {r : R2} {ta tb : TE} {xs : List V} {g : TG} (h : EvL ta σ H xs) (k : ∀ p H1, H p = none → Ex H H1 → H1 p = some (.lst xs) → tb σ H1 (fun y H2 => r (.ref p) y H2 (fun x H3 => g x σ H3 (tz D)))) : tSeq (tAsg (tOp r ta tb) g) tz D σ H := h H (Ex.refl H) _ k
theorem lst_tbl {xs : List V} : ∀ ps, HO.lst xs ≠ .tbl ps := fun _ z => nomatch z
theorem tup_tbl {xs : List V} : ∀ ps, HO.tup xs ≠ .tbl ps := fun _ z => nomatch z
section
variable {P : Program} {w : World} {K : PySem.W.Frag} {mg : Str → Option Value} {base : Heap}
def spLo (m : Nat) : Sp := fun vs H Q _ => ∃ (p q : Addr) (u : V) (n : Int) (z : W), vs = [.ref p, u] ∧ Spr H p q n ∧ n + (z.nd : Nat) ≤ 90000 ∧ WV H u z ∧ z.dp < m ∧ m ≤ 40 ∧ z.sz ≤ 1000 ∧
  ∀ (r : V) (G : Hp) (n' : Int) (o : O), Spr G p q n' → n' ≤ n + (z.nd : Nat) → But p q H G → OV (Hx (Old H) G) r o → o.strip = z.o → Q r G
abbrev nLo : List Str := ["_law_stream", "_law_word", "_law_parts", "_law_part"]
theorem sc_lo : FnScope nLo ["_law_stream", "_law_word"] (defScope s__law_d_loose) := ⟨rfl, rfl, rfl, by decide +kernel, rfl, by decide +kernel, by decide +kernel⟩
theorem nds_take {as : List W} {i : Nat} {x : W} (h : as[i]? = some x) : W.nds (as.take (i + 1)) = W.nds (as.take i) + x.nd := by
  rw [take_snoc h]
  have : ∀ (l : List W) (y : W), W.nds (l ++ [y]) = W.nds l + y.nd := by
    intro l y
    induction l with
    | nil => show y.nd + 0 = 0 + y.nd; omega
    | cons c l ih => show c.nd + W.nds (l ++ [y]) = c.nd + W.nds l + y.nd; rw [ih]; omega
  exact this _ _
theorem nds_take_le (as : List W) (n : Nat) : W.nds (as.take n) ≤ W.nds as := by
  induction as generalizing n with
  | nil => simp [W.nds]
  | cons c l ih =>
    cases n with
    | zero => exact Nat.zero_le _
    | succ n =>
      have := ih n
      show c.nd + W.nds (l.take n) ≤ c.nd + W.nds l
      omega
theorem ok_d_loose (T : T23 P w K mg base) : ∀ m, Ok P w K mg base CX0 "_law_d_loose" ["_law_stream", "_law_word"] (m + 2) (spLo m)
  | 0 => T.ok 32 rfl sc_lo (fun vs H Q E h => by obtain ⟨p, q, u, n, z, rfl, _⟩ := h; rfl) (fun kV doc pm an cdv ct us hl => match us, hl with | [_, _], _ => rfl) (fun f cdv A outer s H vs Q E hr h => by obtain ⟨p, q, u, n, z, _, _, _, _, h0, _⟩ := h; exact absurd h0 (Nat.not_lt_zero _))
  | m + 1 => by
    obtain ⟨fR, dR, GR, bR, kR, mR⟩ := (ok_d_loose T m).ex
    obtain ⟨fD, dD, GD, bD, kD, mD⟩ := (ok_dr T).ex
    refine T.ok 32 rfl sc_lo (fun vs H Q E h => ?_) (fun kV doc pm an cdv ct us hl => match us, hl with | [_, _], _ => rfl) (fun f cdv A outer s H vs Q E hr h => ?_)
    · obtain ⟨p, q, u, n, z, rfl, _⟩ := h
      rfl
    · obtain ⟨p, q, u, n, z, rfl, S, hn, hw, hz, hm, hs, k⟩ := h
      refine ⟨_, pss_cons (ps_if (pt_val (pe_isiB T.isi T.str PyProof.Rows.boot_str (pv 1))) (pss_one (ps_ret (pv 1))) pss_nil)
        (pss_cons (ps_set (i := 2) sc_lo.nd rfl (Or.inl rfl) (pe_op op_cat (pe_lst (pa_cons (pe_ix ix_tup (pv 1) pe_int (fun _ _ => rfl)) pa_nil))
          (pe_lc (own := [("_law_part", 3)]) (g := gName 3) (tt := tYes) (te := tCall (spLo m) [] E0 (tCons (tVar 0) (tCons (tVar 3) tNil))) rfl sc_lo.nd (pi_tup (pe_slice sl_tup (pv 1) (po_some pe_int) po_none)) (blkOk_by (N := nLo) (sc := defScope s__law_d_loose) (by decide +kernel))
            (fun _ _ _ _ _ => pg_name (i := 3) sc_lo.nd rfl (Or.inl rfl)) (fun _ _ _ _ _ => pts_nil) (fun _ _ _ _ _ => pe_call GR hr (by rfl) mR kR bR .nil pass0 (pa_cons (pv 0) (pa_cons (pv 3) pa_nil))))))
        (pss_one (ps_ret (pe_ifExp (pt_cmpR op_eq (pe_call GD (hr.mono (by omega)) (by rfl) mD kD bD .nil pass0 (pa_cons (pv 0) (pa_cons pe_int pa_nil))) pe_int (nomark _)) (pv 2) (pe_callTy call_tuple_of (by rfl) T.tuple PyProof.Rows.boot_tuple (pa_cons (pv 2) pa_nil)))))), ?_⟩
      cases z with
      | v sv =>
        obtain rfl : u = .str sv := hw
        refine q_when (b := true) (et_B (ev_isStr (o := .str sv) (ev_var rfl) rfl)) (fun _ H1 e1 => s_ret (ev_var rfl) fun H2 e2 => k (.str sv) H2 n (.str sv) (S.ext (e1.trans e2)) (by omega) (But.of (e1.trans e2)) rfl rfl) fun z => nomatch z
      | n sn as =>
        obtain ⟨r, us, rfl, hr1, hu⟩ := hw.tup
        have hul := hu.length
        have hdp : W.dps as < m := by have : (W.n sn as).dp = W.dps as + 1 := rfl; omega
        have hsz : W.szs as + 2 ≤ 1000 := hs
        have hasl := W.len_szs as
        have hnd : (W.n sn as).nd = W.nds as + 1 := rfl
        refine q_when (b := false) (et_B (ev_isStr (o := (W.n sn as).o) (ev_var rfl) hw)) (fun z => nomatch z) fun _ H1 e1 => ?_
        have S1 := S.ext e1
        refine asg_opL (el_lst (ea_cons (ev_op (z := .str sn) (ev_var rfl) ev_c (rv_ixT (st_of (e1 _ _ hr1)) (atI_nat (j := 0) rfl))) ea_nil) (by show 1 ≤ 100000; decide)) fun p1 H2 np1 e2 hp1 => ?_
        have e12 := e1.trans e2
        refine eu_tail (K := K) (te := tVar 1) (σ := [some (.ref p), some (.ref r), none, none]) (H := H2) (a := r) (x := .str sn) (xs := us) (ev_var rfl) (st_of (e12 _ _ hr1)) H2 (Ex.refl _) _ fun c H3 nc e3 hc => ?_
        have e13 := e12.trans e3
        have S3 := S.ext e13
        refine ⟨c, rfl, ⟨us, st_of hc⟩, fun Dl hD => ?_⟩
        obtain ⟨d1, d2⟩ := S3.nep hD
        have hp13 : H3 p1 = some (.lst [.str sn]) := e3 _ _ hp1
        obtain ⟨q1, q2⟩ := S1.nep np1
        have hDp1 : Dl ≠ p1 := (ne_of_none hp13 hD).symm
        have hDc : Dl ≠ c := (ne_of_none hc hD).symm
        obtain ⟨oP, oQ⟩ := S.old
        refine lc_tup (xs := us) (fun i J => ∃ acc n' os, Spr J p q n' ∧ n' ≤ n + (W.nds (as.take i) : Nat) ∧ J Dl = some (.lst acc) ∧ acc.length = i ∧ OVs (Hx (fun b => Old H b ∨ b = Dl) J) acc os ∧ O.strips os = W.os (as.take i) ∧ But p q H3 J) ?_ ?_ ?_ ?_
        · exact ⟨[], n, [], S3.ext (Ex.new hD), by simp [W.nds], upd_same, rfl, .nil, rfl, But.of (Ex.new hD)⟩
        · rintro i J hi ⟨acc, n', os, SJ, _, _, _, _, _, BJ⟩
          exact st_of ((S3.tx BJ) _ _ hc)
        · rintro i x J hx ⟨acc, n', os, SJ, hnJ, hJ, hal, hov, hst, BJ⟩
          refine ⟨rfl, ?_⟩
          unfold tYes
          dsimp only
          rw [if_pos (rfl : true = true)]
          obtain ⟨y, hy, hwy⟩ := hu.getv hx
          have hyd := W.lt_dp hy
          have hys := W.lt_sz hy
          have hyn := nds_take hy
          have hle := nds_take_le as (i + 1)
          have hil := (List.getElem?_eq_some_iff.mp hy).1
          have hwJ : WV J x y := ((hwy.ext e13).tx (S3.tx BJ))
          refine ⟨.ref p, rfl, x, rfl, p, q, x, n', y, rfl, SJ, by omega, hwJ, by omega, by omega, by omega, fun y' J2 n2 o2 SJ2 hn2 BJ2 hov2 hst2 => ?_⟩
          have hJ2 : J2 Dl = some (.lst acc) := BJ2 _ _ d1 d2 hJ
          refine ⟨acc, hJ2, sz_lt (by omega), acc ++ [y'], n2, os ++ [o2], SJ2.keep (fun o h => by rw [upd_ne d1.symm]; exact h) (fun o h => by rw [upd_ne d2.symm]; exact h), by rw [hyn]; omega, upd_same, by simp [hal], ?_, ?_, ?_⟩
          · have hold : ∀ b, (Old H b ∨ b = Dl) → Old J b := fun b hb => by
              rcases hb with hb | rfl
              · exact Old.but BJ SJ (Old.ex e13 hb)
              · exact ⟨_, hJ⟩
            have g1 : Go (fun b => Old H b ∨ b = Dl) J2 (upd J2 Dl (.lst (acc ++ [y']))) := Go.upd (.inr rfl)
            have g2 : Go (fun b => Old H b ∨ b = Dl) J J2 := Go.but BJ2 (.inl oP) (.inl oQ)
            exact OVs.append ((hov.ext g2.ex).ext g1.ex) (.cons ((hov2.ext (hx_mono hold)).ext g1.ex) .nil)
          · rw [take_snoc hy, strips_eq, W.os_map, List.map_append, List.map_append, ← strips_eq, ← W.os_map, hst]
            show _ ++ [o2.strip] = _ ++ [y.o]
            rw [hst2]
          · intro b o nb1 nb2 e
            rw [upd_ne (ne_of_none e hD)]
            exact BJ2 _ _ nb1 nb2 (BJ _ _ nb1 nb2 e)
        · rintro J ⟨acc, n', os, SJ, hnJ, hJ, hal, hov, hst, BJ⟩
          rw [hul, List.take_length] at hst hnJ
          have hp1J : J p1 = some (.lst [.str sn]) := BJ _ _ q1 q2 hp13
          refine ⟨p1, Dl, [.str sn], acc, rfl, rfl, hp1J, hJ, sz_of (by simp; omega), fun pl hpl => ?_⟩
          have x4 : Ex J (upd J pl (.lst ([.str sn] ++ acc))) := Ex.new hpl
          have npl : H pl = none := fresh_back e13 (BJ.back SJ hpl)
          obtain ⟨l1, l2⟩ := SJ.nep hpl
          have S4 := SJ.ext x4
          refine ⟨.ref p, rfl, p, q, n', 3, rfl, S4, by omega, by decide, by decide, fun rr G r0 r1 S5 B5 => ⟨rfl, _, rfl, ?_⟩⟩
          have hGl : G pl = some (.lst ([.str sn] ++ acc)) := B5 _ _ l1 l2 upd_same
          have Ball : But p q H G := ((But.of e13).trans BJ).trans ((But.of x4).trans B5)
          have hovG : OVs (Hx (Old H) G) acc os := by
            have a1 : OVs (Hx (Old H) J) acc os := hov.ext (hx_mono fun b hb => .inl hb)
            have g1 : Go (Old H) J G := (Go.of x4).trans (Go.but B5 oP oQ)
            exact a1.ext g1.ex
          dsimp only
          by_cases hb : decide (V.int rr = V.int 0) = true
          · rw [if_pos hb]
            refine ⟨.ref pl, rfl, k (.ref pl) G (n' + 1) (.lst (.str sn :: os)) S5 (by omega) Ball ⟨pl, _, rfl, hx_of (not_old npl) lst_tbl hGl, _, _, rfl, rfl, hovG⟩ ?_⟩
            show O.tup (.str sn :: O.strips os) = .tup (.str sn :: W.os as)
            rw [hst]
          · rw [if_neg hb]
            refine ⟨.ref pl, rfl, pl, _, rfl, .inl ⟨sq_of hGl, fun pt hpt => ?_⟩⟩
            have x6 : Ex G (upd G pt (.tup ([.str sn] ++ acc))) := Ex.new hpt
            refine k (.ref pt) _ (n' + 1) (.tup (.str sn :: os)) (S5.ext x6) (by omega) (Ball.trans (But.of x6)) ⟨pt, _, rfl, hx_of (not_old (Ball.back S5 hpt)) tup_tbl upd_same, _, _, rfl, rfl, hovG.ext (Go.of x6).ex⟩ ?_
            show O.tup (.str sn :: O.strips os) = .tup (.str sn :: W.os as)
            rw [hst]
end
end K23

set_option Elab.async false
set_option linter.all false
set_option maxRecDepth 100000
set_option maxHeartbeats 4000000
/-! Data the same. -/
namespace K23
open PySem PySem.Spec PyProof.Rows L2 Evl
mutual
def O.dq : O → Nat
  | .non => 0 | .bl _ => 0 | .int _ => 0 | .str _ => 0 | .dct => 2 | .lst xs => O.dqs xs + 1 | .tup xs => O.dqs xs + 1
def O.dqs : List O → Nat
  | [] => 0
  | x :: xs => max x.dq (O.dqs xs)
end
theorem dqs_le : ∀ {xs : List O} {i : Nat} {x : O}, xs[i]? = some x → x.dq ≤ O.dqs xs
  | [], _, _, e => by simp at e
  | a :: as, 0, x, e => by
    obtain rfl : a = x := by simpa using e
    exact Nat.le_max_left _ _
  | a :: as, i + 1, x, e => Nat.le_trans (dqs_le (xs := as) (i := i) (by simpa using e)) (Nat.le_max_right _ _)
theorem szs_le : ∀ {xs : List O} {i : Nat} {x : O}, xs[i]? = some x → x.sz ≤ O.szs xs
  | [], _, _, e => by simp at e
  | a :: as, 0, x, e => by
    obtain rfl : a = x := by simpa using e
    exact Nat.le_add_right _ _
  | a :: as, i + 1, x, e => Nat.le_trans (szs_le (xs := as) (i := i) (by simpa using e)) (Nat.le_add_left _ _)
section
variable {P : Program} {w : World} {K : PySem.W.Frag} {mg : Str → Option Value} {base : Heap}
theorem all_true (n : Nat) : (List.replicate n true).all id = true := by
  induction n with
  | zero => rfl
  | succ n ih => rw [List.replicate_succ, List.all_cons, ih]; rfl
def spSa (m : Nat) : Sp := fun vs H Q _ => ∃ u v o, vs = [u, v] ∧ OV H u o ∧ OV H v o ∧ o.dq < m ∧ m ≤ 40 ∧ o.sz ≤ 40000 ∧ RetV (.bl true) H Q
theorem spv_sa {m : Nat} {u v : V} {o : O} {H : Hp} (h1 : OV H u o) (h2 : OV H v o) (hd : o.dq < m) (hm : m ≤ 40) (hs : o.sz ≤ 40000) : SpV (spSa m) ([u, v] ++ []) H (.bl true) := fun H1 e Q q E => ⟨u, v, o, rfl, h1.ext e, h2.ext e, hd, hm, hs, q⟩
abbrev nSa : List Str := ["_law_found", "_law_due", "_law_x", "_law_y"]
theorem sc_sa : FnScope nSa ["_law_found", "_law_due"] (defScope s__law_same) := ⟨rfl, rfl, rfl, by decide +kernel, rfl, by decide +kernel, by decide +kernel⟩
theorem boot_dict23 : bootBuiltins "dict" = some (.type "dict") := by decide +kernel
theorem kit_four (o : O) : PySem.W.kitAny K (.type o.ty) (["int", "list", "tuple", "dict"].map Value.type) = some (o.isInt || (o.isLst || (o.isTup || o.isDct))) := by
  refine kitAny_cons (b := o.isInt) (kit_ty (kit_int o)) (fun h1 => ?_) fun h1 => by rw [h1]; rfl
  rw [h1, Bool.false_or]
  refine kitAny_cons (b := o.isLst) (kit_ty (kit_lst o)) (fun h2 => ?_) fun h2 => by rw [h2]; rfl
  rw [h2, Bool.false_or]
  refine kitAny_cons (b := o.isTup) (kit_ty (kit_tup o)) (fun h3 => ?_) fun h3 => by rw [h3]; rfl
  rw [h3, Bool.false_or]
  refine kitAny_cons (b := o.isDct) (kit_ty (kit_dct o)) (fun h4 => ?_) fun h4 => by rw [h4]
  rw [h4]
  exact kitAny_nil
theorem ok_same (T : T23 P w K mg base) : ∀ m, Ok P w K mg base CX0 "_law_same" ["_law_found", "_law_due"] (m + 1) (spSa m)
  | 0 => T.ok 37 rfl sc_sa (fun vs H Q E h => by obtain ⟨u, v, o, rfl, _⟩ := h; rfl) (fun kV doc pm an cdv ct us hl => match us, hl with | [_, _], _ => rfl) (fun f cdv A outer s H vs Q E hr h => by obtain ⟨u, v, o, _, _, _, h0, _⟩ := h; exact absurd h0 (Nat.not_lt_zero _))
  | m + 1 => by
    obtain ⟨fR, dR, GR, bR, kR, mR⟩ := (ok_same T m).ex
    refine T.ok 37 rfl sc_sa (fun vs H Q E h => ?_) (fun kV doc pm an cdv ct us hl => match us, hl with | [_, _], _ => rfl) (fun f cdv A outer s H vs Q E hr h => ?_)
    · obtain ⟨u, v, o, rfl, _⟩ := h
      rfl
    · obtain ⟨u, v, o, rfl, hu, hv, hd, hm, hs, k⟩ := h
      refine ⟨_, pss_cons (ps_if (pt_val (pe_isiLT T.isi T.list T.tuple (pv 1)))
          (pss_cons (ps_if (PW.pt (pw_or (pt_cmpR op_ne (pe_isiB T.isi T.list PyProof.Rows.boot_list (pv 0)) (pe_isiB T.isi T.list PyProof.Rows.boot_list (pv 1)) (nomark _)) (pw_or1 (pt_cmpR op_ne (pe_isiB T.isi T.tuple PyProof.Rows.boot_tuple (pv 0)) (pe_isiB T.isi T.tuple PyProof.Rows.boot_tuple (pv 1)) (nomark _))))) (pss_one ps_never) pss_nil)
          (pss_one (ps_ret (pe_and (pe_cmpR op_eq (pe_callB call_len (by rfl) T.len PySem.boot_len (pa_cons (pv 0) pa_nil)) (pe_callB call_len (by rfl) T.len PySem.boot_len (pa_cons (pv 1) pa_nil)) (nomark _))
            (pe_one (pe_callB (cr_all rfl) (by rfl) T.all (by decide +kernel) (pa_cons (pe_lc (own := [("_law_x", 2), ("_law_y", 3)]) (g := gPair K 2 3) (tt := tYes) (te := tCall (spSa m) [] E0 (tCons (tVar 2) (tCons (tVar 3) tNil))) rfl sc_sa.nd (RZ.pi_zipA (by rfl) T.zip (pa_cons (pv 0) (pa_cons (pv 1) pa_nil))) (blkOk_by (N := nSa) (sc := defScope s__law_same) (by decide +kernel))
              (fun _ _ _ _ _ => pg_tup rfl (pgs_cons (pg_name (i := 2) sc_sa.nd rfl (Or.inl rfl)) (pgs_cons (pg_name (i := 3) sc_sa.nd rfl (Or.inl rfl)) pgs_nil))) (fun _ _ _ _ _ => pts_nil) (fun _ _ _ _ _ => pe_call GR hr (by rfl) mR kR bR .nil pass0 (pa_cons (pv 2) (pa_cons (pv 3) pa_nil)))) pa_nil)))))))
          pss_nil)
        (pss_cons (ps_if (pt_val (pe_isiB T.isi T.dict boot_dict23 (pv 1))) (pss_one (ps_ret (pe_and (pe_isiB T.isi T.dict boot_dict23 (pv 0))
            (pe_one (pe_call GR hr (by rfl) mR kR bR .nil pass0 (pa_cons (LiI.pe_listItems rfl (pv 0) (by rfl) T.list PyProof.Rows.boot_list) (pa_cons (LiI.pe_listItems rfl (pv 1) (by rfl) T.list PyProof.Rows.boot_list) pa_nil))))))) pss_nil)
        (pss_cons (ps_if (pt_val (pe_isiB T.isi T.int PyProof.Rows.boot_int (pv 1))) (pss_one (ps_ret (pe_and (pe_isiB T.isi T.int PyProof.Rows.boot_int (pv 0)) (pe_and (pe_cmpR op_eq (pe_isiB T.isi T.bool PyProof.Rows.boot_bool (pv 0)) (pe_isiB T.isi T.bool PyProof.Rows.boot_bool (pv 1)) (nomark _))
            (pe_one (pe_cmpR op_eq (pv 0) (pv 1) (nomark _))))))) pss_nil)
        (pss_one (ps_ret (pe_and (pe_not (pe_callB call_isiT (by rfl) T.isi PyProof.Rows.boot_isinstance (pa_cons (pv 0) (pa_cons (pe_tup (pa_cons (pe_bltn (v := .ty "int") (by rfl) T.int PyProof.Rows.boot_int rfl) (pa_cons (pe_bltn (v := .ty "list") (by rfl) T.list PyProof.Rows.boot_list rfl) (pa_cons (pe_bltn (v := .ty "tuple") (by rfl) T.tuple PyProof.Rows.boot_tuple rfl) (pa_cons (pe_bltn (v := .ty "dict") (by rfl) T.dict (by decide +kernel) rfl) pa_nil))))) pa_nil))))
          (pe_one (pe_cmpR op_eq (pv 0) (pv 1) (nomark _)))))))), ?_⟩
      have huo := hu
      have hvo := hv
      cases hq : o.isLst || o.isTup with
      | true =>
        obtain ⟨b, xs, rfl⟩ := O.seq_of hq
        obtain ⟨a1, us, rfl, ha1, hus⟩ := hu.seq
        obtain ⟨a2, ws, rfl, ha2, hws⟩ := hv.seq
        have sq1 : SqB H b a1 us := ha1
        have sq2 : SqB H b a2 ws := ha2
        have hul := hus.length
        have hwl := hws.length
        rw [O.seq_sz] at hs
        have hxl := O.len_szs xs
        have hdq : O.dqs xs < m := by
          have : (O.seq b xs).dq = O.dqs xs + 1 := by cases b <;> rfl
          omega
        refine q_if (b := true) (et_is (et_B (ev_isSeq (ev_var rfl) hvo)) hq) (fun _ H1 e1 => ?_) (fun z => nomatch z)
        refine q_when (b := false) (et_is (et_or (a := false) (b := false) (et_is (et_test (ev_op (ev_isLst (ev_var rfl) (huo.ext e1)) (ev_isLst (ev_var rfl) (hvo.ext e1)) rv_neB)) (by simp)) fun _ => et_is (et_test (ev_op (ev_isTup (ev_var rfl) (huo.ext e1)) (ev_isTup (ev_var rfl) (hvo.ext e1)) rv_neB)) (by simp)) rfl) (fun z => nomatch z) fun _ H2 e2 => ?_
        have e02 := e1.trans e2
        have sq12 := sq1.ext e02
        have sq22 := sq2.ext e02
        refine s_ret (ev_andV (a := true) (b := true) (ev_is (ev_op (ev_lenQ (ev_var rfl) sq12) (ev_lenQ (ev_var rfl) sq22) (rv_eq rfl)) (congrArg V.bl (decide_eq_true (by rw [hul, hwl])))) fun _ G1 g1 Q1 q1 => ?_) fun H3 e3 => k H3 (e02.trans e3)
        have turn : ∀ (Dl : Addr) (i : Nat) (x : V) (G G' : Hp), G1 Dl = none → i < us.length → (Ex G1 G ∧ G Dl = some (.lst ((List.replicate i true).map V.bl))) → YPair (fun i => us[i]?) (fun i => ws[i]?) i G x G' → gPair K 2 3 x (wipe [some (.ref a1), some (.ref a2), none, none] [2, 3]) G' fun σ2 H2 => wipe σ2 [2, 3] = wipe [some (.ref a1), some (.ref a2), none, none] [2, 3] ∧ tYes σ2 H2 fun b H3 =>
            if b = true then tCall (spSa m) [] E0 (tCons (tVar 2) (tCons (tVar 3) tNil)) σ2 H3 fun y H4 => ∃ acc, H4 Dl = some (.lst acc) ∧ acc.length < sizeLine ∧ (Ex G1 (upd H4 Dl (.lst (acc ++ [y]))) ∧ (upd H4 Dl (.lst (acc ++ [y]))) Dl = some (.lst ((List.replicate (i + 1) true).map V.bl))) else Ex G1 H3 ∧ H3 Dl = some (.lst ((List.replicate (i + 1) true).map V.bl)) := by
          rintro Dl i x G G' hD hi ⟨c1, c2⟩ ⟨t, x1, x2, rfl, ht, rfl, hx1, hx2⟩
          obtain ⟨y1, hy1, ho1⟩ := hus.get hx1
          obtain ⟨y2, hy2, ho2⟩ := hws.get hx2
          rw [hy1] at hy2
          obtain rfl : y1 = y2 := Option.some.inj hy2
          have eT : Ex G (upd G t (.tup [x1, x2])) := Ex.new ht
          have h3 := dqs_le hy1
          have h4 := szs_le hy1
          refine ⟨t, _, rfl, st_of upd_same, rfl, _, _, rfl, _, _, rfl, rfl, rfl, ?_⟩
          unfold tYes
          dsimp only
          rw [if_pos rfl]
          have eall := ((e02.trans g1).trans c1).trans eT
          refine ⟨_, rfl, _, rfl, x1, x2, y1, rfl, ho1.ext eall, ho2.ext eall, by omega, by omega, by omega, fun G3 g3 => ⟨_, g3 _ _ (eT _ _ c2), sz_lt (by simp; omega), Ex.mut ((c1.trans eT).trans g3) hD, ?_⟩⟩
          rw [upd_same, List.replicate_succ']
          simp
        have fin : ∀ (Dl : Addr) (G : Hp), (Ex G1 G ∧ G Dl = some (.lst ((List.replicate (min us.length ws.length) true).map V.bl))) → ∃ (p : Addr) (bs : List Bool), [V.ref Dl] = [V.ref p] ∧ SqL K G p (bs.map V.bl) ∧ Q1 (.bl (bs.all id)) G := by
          rintro Dl G ⟨c1, c2⟩
          exact ⟨Dl, _, rfl, sq_of c2, by rw [all_true]; exact q1 G c1⟩
        have h1 := sq12.ext g1
        have h2 := sq22.ext g1
        refine ⟨_, rfl, _, rfl, a1, a2, us, ws, rfl, ?_⟩
        cases b with
        | true => exact .inl ⟨sq_of h1, sq_of h2, fun Dl hD => lc_it (walk_zip (K := K) (a := a1) (b := a2) (xs := us) (ys := ws) rfl) (fun i G => Ex G1 G ∧ G Dl = some (.lst ((List.replicate i true).map V.bl))) ⟨Ex.new hD, upd_same⟩ (fun i G _ c => ⟨sq_of (c.1 _ _ h1), sq_of (c.1 _ _ h2)⟩) (fun i x G G' hi c y => turn Dl i x G G' hD (by omega) c y) (fun G c => fin Dl G c)⟩
        | false => exact .inr ⟨st_of h1, st_of h2, fun Dl hD => lc_it (walk_zipT (K := K) (a := a1) (b := a2) (xs := us) (ys := ws) rfl) (fun i G => Ex G1 G ∧ G Dl = some (.lst ((List.replicate i true).map V.bl))) ⟨Ex.new hD, upd_same⟩ (fun i G _ c => ⟨st_of (c.1 _ _ h1), st_of (c.1 _ _ h2)⟩) (fun i x G G' hi c y => turn Dl i x G G' hD (by omega) c y) (fun G c => fin Dl G c)⟩
      | false =>
        have hd1 : o.isLst = false := (Bool.or_eq_false_iff.mp hq).1
        have hd2 : o.isTup = false := (Bool.or_eq_false_iff.mp hq).2
        refine q_when (b := false) (et_is (et_B (ev_isSeq (ev_var rfl) hvo)) hq) (fun z => nomatch z) fun _ H1 e1 => ?_
        cases hdd : o.isDct with
        | true =>
          cases o with
          | dct =>
            obtain ⟨a1, rfl, ha1⟩ := huo
            obtain ⟨a2, rfl, ha2⟩ := hvo
            have hm2 : 2 < m + 1 := hd
            refine q_when (b := true) (et_B (ev_isDct (o := .dct) (ev_var rfl) ⟨a2, rfl, e1 _ _ ha2⟩)) (fun _ H2 e2 => ?_) fun z => nomatch z
            have e02 := e1.trans e2
            refine s_ret (ev_andV (a := true) (b := true) (ev_isDct (o := .dct) (ev_var rfl) ⟨a1, rfl, e02 _ _ ha1⟩) fun _ G1 g1 Q1 q1 => ?_) fun H3 e3 => k H3 (e02.trans e3)
            refine ⟨.ref a1, rfl, a1, [], rfl, g1 _ _ (e02 _ _ ha1), fun G2 p1 ts1 x1 n1 _ _ h1 pr1 => ⟨.ref a2, rfl, a2, [], rfl, x1 _ _ (g1 _ _ (e02 _ _ ha2)), fun G3 p2 ts2 x2 n2 _ _ h2 pr2 => ?_⟩⟩
            cases pr1
            cases pr2
            have x2' : Ex G2 G3 := x2
            have x1' : Ex G1 G2 := x1
            exact ⟨.ref p1, .ref p2, .lst [], rfl, ⟨p1, [], rfl, x2' _ _ h1, rfl⟩, ⟨p2, [], rfl, h2, rfl⟩, by show 1 < m; omega, by omega, by decide, fun G4 g4 => q1 G4 ((x1'.trans x2').trans g4)⟩
          | _ => cases hdd
        | false =>
          refine q_when (b := false) (et_is (et_B (ev_isDct (ev_var rfl) (hvo.ext e1))) hdd) (fun z => nomatch z) fun _ H2 e2 => ?_
          have e02 := e1.trans e2
          cases hii : o.isInt with
          | true =>
            refine q_when (b := true) (et_is (et_B (ev_isInt (ev_var rfl) (hvo.ext e02))) hii) (fun _ H3 e3 => ?_) fun z => nomatch z
            have e03 := e02.trans e3
            refine s_ret (ev_andV (a := true) (b := true) (ev_is (ev_isInt (ev_var rfl) (huo.ext e03)) (by rw [hii])) fun _ => ev_andV (a := true) (b := true) (ev_is (ev_op (ev_isBool (ev_var rfl) (huo.ext e03)) (ev_isBool (ev_var rfl) (hvo.ext e03)) (rv_eq rfl)) (congrArg V.bl (decide_eq_true rfl))) fun _ => ?_) fun H4 e4 => k H4 (e03.trans e4)
            cases o with
            | bl c =>
              obtain rfl : u = .bl c := huo
              obtain rfl : v = .bl c := hvo
              exact ev_is (ev_op (ev_var rfl) (ev_var rfl) (rv_eq rfl)) (congrArg V.bl (decide_eq_true rfl))
            | int c =>
              obtain rfl : u = .int c := huo
              obtain rfl : v = .int c := hvo
              exact ev_is (ev_op (ev_var rfl) (ev_var rfl) (rv_eq rfl)) (congrArg V.bl (decide_eq_true rfl))
            | _ => cases hii
          | false =>
            refine q_when (b := false) (et_is (et_B (ev_isInt (ev_var rfl) (hvo.ext e02))) hii) (fun z => nomatch z) fun _ H3 e3 => ?_
            have e03 := e02.trans e3
            have hu3 := huo.ext e03
            have h4 : PySem.W.kitAny K (.type o.ty) (["int", "list", "tuple", "dict"].map Value.type) = some false := by
              rw [kit_four, hii, hd1, hd2, hdd]
              rfl
            refine s_ret (ev_andV (a := true) (b := true) (ev_notV (a := false) (ev_isiN (m := o.ty) (cs := ["int", "list", "tuple", "dict"]) (ev_var rfl) hu3.tyx h4 (eu_tup (ea_cons ev_c (ea_cons ev_c (ea_cons ev_c (ea_cons ev_c ea_nil)))) (by show 4 ≤ 100000; decide)))) fun _ => ?_) fun H4 e4 => k H4 (e03.trans e4)
            cases o with
            | non =>
              obtain rfl : u = .non := huo
              obtain rfl : v = .non := hvo
              exact ev_is (ev_op (ev_var rfl) (ev_var rfl) (rv_eq rfl)) (congrArg V.bl (decide_eq_true rfl))
            | str c =>
              obtain rfl : u = .str c := huo
              obtain rfl : v = .str c := hvo
              exact ev_is (ev_op (ev_var rfl) (ev_var rfl) (rv_eq rfl)) (congrArg V.bl (decide_eq_true rfl))
            | bl c => cases hii
            | int c => cases hii
            | dct => cases hdd
            | lst c => cases hd1
            | tup c => cases hd2
end
end K23

set_option Elab.async false
set_option linter.all false
set_option maxRecDepth 100000
set_option maxHeartbeats 4000000
/-! Things each once; the variables of words. -/
namespace K23
open PySem PySem.Spec PyProof.Rows L2 Evl
def eo : List Str → List Str → List Str
  | acc, [] => acc
  | acc, x :: xs => eo (if acc.contains x then acc else acc ++ [x]) xs
theorem eo_snoc : ∀ (xs : List Str) (x : Str) (acc : List Str), eo acc (xs ++ [x]) = if (eo acc xs).contains x then eo acc xs else eo acc xs ++ [x]
  | [], x, acc => rfl
  | y :: ys, x, acc => eo_snoc ys x _
theorem eo_app : ∀ (xs ys acc : List Str), eo acc (xs ++ ys) = eo (eo acc xs) ys
  | [], ys, acc => rfl
  | y :: ys, zs, acc => eo_app ys zs _
theorem eo_len : ∀ (xs acc : List Str), (eo acc xs).length ≤ acc.length + xs.length
  | [], acc => Nat.le_refl _
  | x :: xs, acc => by
    have := eo_len xs (if acc.contains x then acc else acc ++ [x])
    show (eo (if acc.contains x then acc else acc ++ [x]) xs).length ≤ _
    by_cases h : acc.contains x = true
    · rw [if_pos h] at this ⊢
      simp at this ⊢
      omega
    · rw [if_neg h] at this ⊢
      simp at this ⊢
      omega
theorem contains_app (a b : List Str) (x : Str) : (a ++ b).contains x = (a.contains x || b.contains x) := by
  induction a with
  | nil => simp
  | cons y ys ih => simp [ih, Bool.or_assoc]
theorem contains_filter (b : List Str) (x : Str) (p : Str → Bool) : (b.filter p).contains x = (b.contains x && p x) := by
  induction b with
  | nil => rfl
  | cons y ys ih =>
    rw [List.filter_cons]
    cases hp : p y with
    | true =>
      rw [if_pos rfl, List.contains_cons, List.contains_cons, ih]
      by_cases h : x = y
      · subst h
        simp [hp]
      · rw [beq_eq_false_iff_ne.mpr h]
        simp
    | false =>
      rw [if_neg (by decide), ih, List.contains_cons]
      by_cases h : x = y
      · subst h
        simp [hp]
      · rw [beq_eq_false_iff_ne.mpr h]
        simp
theorem eo_rel (acc : List Str) : ∀ xs : List Str, eo acc xs = acc ++ (eo [] xs).filter fun s => !acc.contains s := by
  have key : ∀ (n : Nat) (xs : List Str), xs.length = n → eo acc xs = acc ++ (eo [] xs).filter fun s => !acc.contains s := by
    intro n
    induction n with
    | zero =>
      intro xs h
      obtain rfl := List.length_eq_zero_iff.mp h
      simp [eo]
    | succ n ih =>
      intro xs h
      have hne : xs ≠ [] := fun z => by rw [z] at h; cases h
      obtain ⟨ys, y, rfl⟩ : ∃ ys y, xs = ys ++ [y] := ⟨xs.dropLast, xs.getLast hne, (List.dropLast_concat_getLast hne).symm⟩
      have ih := ih ys (by simp at h; omega)
      rw [eo_snoc, eo_snoc, ih, contains_app, contains_filter]
      have e1 : ([y].filter fun s => !acc.contains s) = if acc.contains y = true then [] else [y] := by
        rw [List.filter_cons]
        cases h1 : acc.contains y <;> rfl
      cases h1 : acc.contains y with
      | true =>
        rw [Bool.true_or, if_pos rfl]
        cases h2 : (eo [] ys).contains y with
        | true => rw [if_pos rfl]
        | false => rw [if_neg (by decide), List.filter_append, e1, if_pos h1, List.append_nil]
      | false =>
        rw [Bool.false_or]
        cases h2 : (eo [] ys).contains y with
        | true => rw [if_pos rfl, if_pos (by rfl)]
        | false => rw [if_neg (by decide), if_neg (by decide), List.filter_append, e1, if_neg (by rw [h1]; decide), List.append_assoc]
  exact fun xs => key _ xs rfl
mutual
def W.allv : W → List Str
  | .v s => [s]
  | .n _ as => W.allvs as
def W.allvs : List W → List Str
  | [] => []
  | a :: r => a.allv ++ W.allvs r
end
mutual
theorem W.vars_eo : ∀ w : W, w.vars = eo [] w.allv
  | .v s => rfl
  | .n _ as => W.varsL_eo [] as
theorem W.varsL_eo : ∀ (acc : List Str) (as : List W), W.varsL acc as = eo acc (W.allvs as)
  | acc, [] => rfl
  | acc, a :: r => by
    show W.varsL (acc ++ a.vars.filter fun s => !acc.contains s) r = eo acc (a.allv ++ W.allvs r)
    rw [eo_app, W.varsL_eo, W.vars_eo a, ← eo_rel]
end
def vOf : W → Option Str
  | .v s => some s
  | .n _ _ => none
mutual
theorem W.parts_allv : ∀ w : W, w.parts.filterMap (fun q => vOf q.2) = w.allv
  | .v s => rfl
  | .n s as => by
    show (([], W.n s as) :: W.partsL 0 as).filterMap (fun q => vOf q.2) = _
    rw [List.filterMap_cons]
    exact W.partsL_allv 0 as
theorem W.partsL_allv : ∀ (i : Nat) (as : List W), (W.partsL i as).filterMap (fun q => vOf q.2) = W.allvs as
  | _, [] => rfl
  | i, a :: r => by
    show ((a.parts.map fun q => (i :: q.1, q.2)) ++ W.partsL (i + 1) r).filterMap (fun q => vOf q.2) = a.allv ++ W.allvs r
    rw [List.filterMap_append, W.partsL_allv (i + 1) r, List.filterMap_map, ← W.parts_allv a]
    rfl
end
section
variable {P : Program} {w : World} {K : PySem.W.Frag} {mg : Str → Option Value} {base : Heap}
def spEo : Sp := fun vs H Q _ => ∃ a xs, vs = [.ref a] ∧ H a = some (.lst (sVs xs)) ∧ xs.length ≤ 40000 ∧ ∀ p H', H p = none → Ex H H' → H' p = some (.lst (sVs (eo [] xs))) → Q (.ref p) H'
abbrev nEo : List Str := ["_law_things", "_law_found", "_law_thing"]
theorem sc_eo : FnScope nEo ["_law_things"] (defScope s__law_each_once) := ⟨rfl, rfl, rfl, by decide +kernel, rfl, by decide +kernel, by decide +kernel⟩
theorem sVs_len (xs : List Str) : (sVs xs).length = xs.length := by unfold sVs; rw [List.length_map]
theorem sVs_get {xs : List Str} {i : Nat} {x : V} (h : (sVs xs)[i]? = some x) : ∃ s, xs[i]? = some s ∧ x = .str s := by
  unfold sVs at h
  rw [List.getElem?_map] at h
  obtain ⟨s, a, b⟩ := Option.map_eq_some_iff.mp h
  exact ⟨s, a, b.symm⟩
theorem ok_each (T : T23 P w K mg base) : Ok P w K mg base CX0 "_law_each_once" ["_law_things"] 1 spEo := by
  refine T.ok 38 rfl sc_eo (fun vs H Q E h => ?_) (fun kV doc pm an cdv ct us hl => match us, hl with | [_], _ => rfl) (fun f cdv A outer s H vs Q E hr h => ?_)
  · obtain ⟨a, xs, rfl, _⟩ := h
    rfl
  · obtain ⟨a, xs, rfl, ha, hl, k⟩ := h
    refine ⟨_, pss_cons (ps_set (i := 1) sc_eo.nd rfl (Or.inl rfl) (pe_lst pa_nil))
      (pss_cons (ps_for PassesOwn.never rfl (pi_list (pv 0)) (pg_name (i := 2) sc_eo.nd rfl (Or.inl rfl))
        (pss_one (ps_if (pt_cmpR op_notIn_seq (pv 2) (pv 1) (by rfl)) (pss_one (ps_expr (pe_bm PySem.F.plainAttrs_list PySem.F.slot_list_append PySem.F.type_list_append mt_append (pv 1) (pa_cons (pv 2) pa_nil)))) pss_nil)))
      (pss_one (ps_ret (pv 1)))), ?_⟩
    refine q_asgL (el_lst ea_nil (by show 0 ≤ 100000; decide)) fun p H1 hp e1 h1 => ?_
    refine q_forL (xs := sVs xs) (ev_var rfl) (sq_of (e1 _ _ ha)) (fun i σ' H' => Ex H H' ∧ (∃ b : Option V, σ' = [some (.ref a), some (.ref p), b]) ∧ H' p = some (.lst (sVs (eo [] (xs.take i))))) ?_ ?_ ?_ ?_
    · intro H2 e2
      exact ⟨e1.trans e2, ⟨none, rfl⟩, e2 _ _ h1⟩
    · rintro i σ' H' hi ⟨e, _⟩
      exact sq_of (e _ _ ha)
    · rintro i x σ' H' hx ⟨e, ⟨b, rfl⟩, h⟩
      obtain ⟨s, hs, rfl⟩ := sVs_get hx
      have hil := (List.getElem?_eq_some_iff.mp hs).1
      have ht := eo_len (xs.take i) []
      have ht2 := List.length_take_le i xs
      simp at ht
      have hev : EvT (tTest (tOp (rIn K true) (tVar 2) (tVar 1))) [some (V.ref a), some (V.ref p), some (V.str s)] H' (!(eo [] (xs.take i)).contains s) := by
        refine et_is (et_test (ev_op (ev_var rfl) (ev_var rfl) (rv_niL (sq_of h) rfl (sVs_flat _)))) ?_
        rw [sVs_in]
      refine s_when hev (fun hb H2 e2 => ?_) fun hb H2 e2 => ?_
      · refine s_app (xs := sVs (eo [] (xs.take i))) (e2 _ _ h) (ev_var rfl) (ev_var rfl) (by rw [sVs_len]; omega) fun H3 e3 => ?_
        refine ⟨Ex.mut ((e.trans e2).trans e3) hp, ⟨_, rfl⟩, ?_⟩
        rw [upd_same, take_snoc hs, eo_snoc, if_neg (by intro z; rw [z] at hb; cases hb)]
        unfold sVs
        rw [List.map_append]
        rfl
      · refine ⟨e.trans e2, ⟨_, rfl⟩, ?_⟩
        rw [take_snoc hs, eo_snoc, if_pos (by cases hc : (eo [] (xs.take i)).contains s with | true => rfl | false => rw [hc] at hb; cases hb)]
        exact e2 _ _ h
    · rintro σ' H' ⟨e, ⟨b, rfl⟩, h⟩
      rw [sVs_len, List.take_length] at h
      exact s_ret (ev_var rfl) fun H2 e2 => k p H2 hp (e.trans e2) (e2 _ _ h)
end
end K23

set_option Elab.async false
set_option linter.all false
set_option maxRecDepth 100000
set_option maxHeartbeats 4000000
/-! The variables of words. -/
namespace K23
open PySem PySem.Spec PyProof.Rows L2 Evl
theorem given_vOf {α : Type} (L : List α) (v : α → Option Str) : ∀ n : Nat, n ≤ L.length → given n (fun i => ((L[i]?).bind v).isSome) (fun i => (((L[i]?).bind v).map V.str).getD .non) = sVs ((L.take n).filterMap v)
  | 0, _ => by simp [given, sVs]
  | n + 1, h => by
    have ih := given_vOf L v n (by omega)
    obtain ⟨x, hx⟩ : ∃ x, L[n]? = some x := ⟨L[n], by simp⟩
    rw [take_snoc hx, List.filterMap_append]
    cases hv : v x with
    | some s =>
      rw [given_yes (by rw [hx]; show (v x).isSome = true; rw [hv]; rfl), ih, hx]
      show _ ++ [((v x).map V.str).getD .non] = _
      rw [hv]
      unfold sVs
      rw [List.map_append]
      simp [hv]
    | none =>
      rw [given_no (by rw [hx]; show (v x).isSome = false; rw [hv]; rfl), ih]
      simp [hv]
mutual
theorem W.allv_len : ∀ w : W, w.allv.length ≤ w.sz
  | .v _ => Nat.le_refl _
  | .n _ as => by
    have := W.allvs_len as
    show (W.allvs as).length ≤ W.szs as + 2
    omega
theorem W.allvs_len : ∀ as : List W, (W.allvs as).length ≤ W.szs as
  | [] => Nat.le_refl _
  | a :: r => by
    have h1 := W.allv_len a
    have h2 := W.allvs_len r
    show (a.allv ++ W.allvs r).length ≤ a.sz + W.szs r
    rw [List.length_append]
    omega
end
theorem W.allvs_snoc : ∀ (as : List W) (x : W), W.allvs (as ++ [x]) = W.allvs as ++ x.allv
  | [], x => by simp [W.allvs]
  | a :: r, x => by
    show a.allv ++ W.allvs (r ++ [x]) = (a.allv ++ W.allvs r) ++ x.allv
    rw [W.allvs_snoc r x, List.append_assoc]
section
variable {P : Program} {w : World} {K : PySem.W.Frag} {mg : Str → Option Value} {base : Heap}
def spDv (m : Nat) : Sp := fun vs H Q _ => ∃ a us zs, vs = [.ref a] ∧ H a = some (.lst us) ∧ WVs H us zs ∧ (∀ z ∈ zs, z.dp < m) ∧ m ≤ 40 ∧ W.szs zs ≤ 1000 ∧
  ∀ p H', H p = none → Ex H H' → H' p = some (.lst (sVs (W.varsL [] zs))) → Q (.ref p) H'
abbrev nDv : List Str := ["_law_words", "_law_found", "_law_word", "_law_place", "_law_part"]
theorem sc_dv : FnScope nDv ["_law_words"] (defScope s__law_d_variables) := ⟨rfl, rfl, rfl, by decide +kernel, rfl, by decide +kernel, by decide +kernel⟩
theorem ok_d_vars (T : T23 P w K mg base) (m : Nat) : Ok P w K mg base CX0 "_law_d_variables" ["_law_words"] (m + 2) (spDv m) := by
  obtain ⟨fR, dR, GR, bR, kR, mR⟩ := (ok_d_parts T m).ex
  obtain ⟨fO, dO, GO, bO, kO, mO⟩ := (ok_each T).ex
  refine T.ok 30 rfl sc_dv (fun vs H Q E h => ?_) (fun kV doc pm an cdv ct us hl => match us, hl with | [_], _ => rfl) (fun f cdv A outer s H vs Q E hr h => ?_)
  · obtain ⟨a, us, zs, rfl, _⟩ := h
    rfl
  · obtain ⟨a, us, zs, rfl, ha, hu, hd, hm, hs, k⟩ := h
    refine ⟨_, pss_cons (ps_set (i := 1) sc_dv.nd rfl (Or.inl rfl) (pe_lst pa_nil))
      (pss_cons (ps_for PassesOwn.never rfl (pi_list (pv 0)) (pg_name (i := 2) sc_dv.nd rfl (Or.inl rfl))
        (pss_one (ps_expr (pe_bm PySem.F.plainAttrs_list PySem.F.slot_list_extend PySem.F.type_list_extend mt_extend (pv 1) (pa_cons
          (pe_lc (own := [("_law_place", 3), ("_law_part", 4)]) (g := gPair K 3 4) (tt := tB (tIsi K "str" (tVar 4))) (te := tVar 4) rfl sc_dv.nd (pi_list (pe_call GR hr (by rfl) mR kR bR .nil pass0 (pa_cons (pv 2) pa_nil))) (blkOk_by (N := nDv) (sc := defScope s__law_d_variables) (by decide +kernel))
            (fun _ _ _ _ _ => pg_tup rfl (pgs_cons (pg_name (i := 3) sc_dv.nd rfl (Or.inl rfl)) (pgs_cons (pg_name (i := 4) sc_dv.nd rfl (Or.inl rfl)) pgs_nil)))
            (fun _ _ _ _ _ => pts_one (pt_val (pe_isiB T.isi T.str PyProof.Rows.boot_str (pv 4)))) (fun _ _ _ _ _ => pv 4)) pa_nil)))))
      (pss_one (ps_ret (pe_call GO (hr.mono (by omega)) (by rfl) mO kO bO .nil pass0 (pa_cons (pv 1) pa_nil))))), ?_⟩
    have hul : us.length = zs.length := WVs.length hu
    refine q_asgL (el_lst ea_nil (by show 0 ≤ 100000; decide)) fun p H1 hp e1 h1 => ?_
    refine q_forL (xs := us) (ev_var rfl) (sq_of (e1 _ _ ha)) (fun i σ' H' => Ex H H' ∧ (∃ b : Option V, σ' = [some (.ref a), some (.ref p), b, none, none]) ∧ H' p = some (.lst (sVs (W.allvs (zs.take i))))) ?_ ?_ ?_ ?_
    · intro H2 e2
      exact ⟨e1.trans e2, ⟨none, rfl⟩, e2 _ _ h1⟩
    · rintro i σ' H' hi ⟨e, _⟩
      exact sq_of (e _ _ ha)
    · rintro i x σ' H' hx ⟨e, ⟨b, rfl⟩, h⟩
      obtain ⟨y, hy, hwy⟩ := WVs.getv (hu.ext e) hx
      have hyd := hd y (List.mem_of_getElem? hy)
      have hys := W.lt_sz hy
      have h5 := W.allv_len y
      have h6 := W.allvs_len (zs.take i)
      have h7 := szs_take zs i
      refine s_extL (xs := sVs (W.allvs (zs.take i))) (zs := sVs y.allv) h (ev_var rfl) ?_ (by rw [sVs_len, sVs_len]; omega) fun H4 e4 => ?_
      · intro H4 e4 Q4 q4
        refine ⟨x, rfl, x, y, rfl, hwy.ext e4, hyd, hm, by omega, fun pq ps H5 hpq e5 h5 hparts => ?_⟩
        have hpln := hparts.length
        have hpl2 := W.parts_len y
        refine ⟨pq, rfl, ⟨ps, sq_of h5⟩, fun Dl hD => lc_list (xs := ps) (Cw H5 (fun i => ((y.parts[i]?).bind fun q => vOf q.2).isSome) (fun i => (((y.parts[i]?).bind fun q => vOf q.2).map V.str).getD .non) Dl) ⟨hD, Ex.new hD, upd_same⟩ (fun i' H' _ p => sq_of (p.2.1 pq _ h5)) (fun j v G hj c => ?_) (fun G c => ?_)⟩
        · obtain ⟨q5, hq5, t5, l5, u5, rfl, k1, k2, k3, k5⟩ := hparts.get hj
          refine ⟨t5, _, rfl, st_of (c.2.1 _ _ k1), rfl, _, _, rfl, _, _, rfl, rfl, rfl, cw_turn c (by have := (List.getElem?_eq_some_iff.mp hj).1; omega) ?_ fun hb => ?_⟩
          · refine et_is (et_B (ev_isStr (o := q5.2.o) (ev_var rfl) k5)) ?_
            rw [hq5]
            show _ = (vOf q5.2).isSome
            cases q5.2 <;> rfl
          · rw [hq5] at hb ⊢
            change (vOf q5.2).isSome = true at hb
            show Ev _ _ _ (((vOf q5.2).map V.str).getD .non)
            cases hq : q5.2 with
            | v s =>
              rw [hq] at k5
              obtain rfl : u5 = .str s := k5
              exact ev_var rfl
            | n s as => rw [hq] at hb; cases hb
        · refine q4 Dl G (fresh_back e5 c.1) (e5.trans c.2.1) ?_
          rw [c.2.2, given_vOf y.parts (fun q => vOf q.2) ps.length (by omega), hpln, List.take_length, W.parts_allv]
      · refine ⟨Ex.mut (e.trans e4) hp, ⟨_, rfl⟩, ?_⟩
        rw [upd_same, take_snoc hy, W.allvs_snoc]
        unfold sVs
        rw [List.map_append]
    · rintro σ' H' ⟨e, ⟨b, rfl⟩, h⟩
      rw [hul, List.take_length] at h
      have h6 := W.allvs_len zs
      refine ⟨.ref p, rfl, p, W.allvs zs, rfl, h, by omega, fun p2 H2 hp2 e2 h2 => k p2 H2 (fresh_back e hp2) (e.trans e2) ?_⟩
      rw [W.varsL_eo]
      exact h2
end
end K23

set_option Elab.async false
set_option linter.all false
set_option maxRecDepth 100000
set_option maxHeartbeats 4000000
/-! The law's depths. -/
namespace K23
open PySem PySem.Spec PyProof.Rows L2 Evl
section
variable {P : Program} {w : World} {K : PySem.W.Frag} {mg : Str → Option Value} {base : Heap}
abbrev nLd : List Str := ["_law_word", "_law_part"]
theorem sc_ld : FnScope nLd ["_law_word"] (defScope s__law_depth) := ⟨rfl, rfl, rfl, by decide +kernel, rfl, by decide +kernel, by decide +kernel⟩
theorem ok_law_depth (T : T23 P w K mg base) : ∀ m, Ok P w K mg base CX0 "_law_depth" ["_law_word"] (m + 1) (spDe m)
  | 0 => T.ok 39 rfl sc_ld (fun vs H Q E h => by obtain ⟨v, z, rfl, _⟩ := h; rfl) (fun kV doc pm an cdv ct us hl => match us, hl with | [_], _ => rfl) (fun f cdv A outer s H vs Q E hr h => by obtain ⟨v, z, _, _, h0, _⟩ := h; exact absurd h0 (Nat.not_lt_zero _))
  | m + 1 => by
    obtain ⟨fR, dR, GR, bR, kR, mR⟩ := (ok_law_depth T m).ex
    refine T.ok 39 rfl sc_ld (fun vs H Q E h => ?_) (fun kV doc pm an cdv ct us hl => match us, hl with | [_], _ => rfl) (fun f cdv A outer s H vs Q E hr h => ?_)
    · obtain ⟨v, z, rfl, _⟩ := h
      rfl
    · obtain ⟨v, z, rfl, hw, hz, hm, hs, k⟩ := h
      refine ⟨_, pss_cons (ps_if (PW.pt (pw_or (pt_val (pe_isiB T.isi T.str PyProof.Rows.boot_str (pv 0))) (pw_or1 (pt_cmpR op_eq (pe_callB call_len (by rfl) T.len PySem.boot_len (pa_cons (pv 0) pa_nil)) pe_int (nomark _))))) (pss_one (ps_ret pe_int)) pss_nil)
        (pss_one (ps_ret (pe_op op_add pe_int (pe_callB (cr_max rfl) (by rfl) T.max (by decide +kernel) (pa_cons (pe_lc (own := [("_law_part", 1)]) (g := gName 1) (tt := tYes) (te := tCall (spDe m) [] E0 (tCons (tVar 1) tNil)) rfl sc_ld.nd (pi_tup (pe_slice sl_tup (pv 0) (po_some pe_int) po_none)) (blkOk_by (N := nLd) (sc := defScope s__law_depth) (by decide +kernel))
          (fun _ _ _ _ _ => pg_name (i := 1) sc_ld.nd rfl (Or.inl rfl)) (fun _ _ _ _ _ => pts_nil) (fun _ _ _ _ _ => pe_call GR hr (by rfl) mR kR bR .nil pass0 (pa_cons (pv 1) pa_nil))) pa_nil))))), ?_⟩
      cases z with
      | v sv =>
        obtain rfl : v = .str sv := hw
        exact q_when (b := true) (et_is (et_or (a := true) (b := true) (et_B (ev_isStr (o := .str sv) (ev_var rfl) rfl)) fun z => nomatch z) rfl) (fun _ H1 e1 => s_ret ev_c fun H2 e2 => k H2 (e1.trans e2)) fun z => nomatch z
      | n sn as =>
        obtain ⟨r, us, rfl, hr1, hu⟩ := hw.tup
        have hul := hu.length
        have hdp : W.dps as < m := by have : (W.n sn as).dp = W.dps as + 1 := rfl; omega
        have hsz : W.szs as + 2 ≤ 1000 := hs
        have hasl := W.len_szs as
        have hl : (V.str sn :: us).length = us.length + 1 := rfl
        cases as with
        | nil =>
          obtain rfl : us = [] := List.length_eq_zero_iff.mp hul
          exact q_when (b := true) (et_is (et_or (a := false) (b := true) (et_B (ev_isStr (o := (W.n sn []).o) (ev_var rfl) hw)) fun _ => et_is (et_test (ev_op (ev_lenT (ev_var rfl) (st_of hr1)) ev_c (rv_eq rfl))) (decide_eq_true rfl)) rfl) (fun _ H1 e1 => s_ret ev_c fun H2 e2 => k H2 (e1.trans e2)) fun z => nomatch z
        | cons a0 as =>
          refine q_when (b := false) (et_is (et_or (a := false) (b := false) (et_B (ev_isStr (o := (W.n sn (a0 :: as)).o) (ev_var rfl) hw)) fun _ => et_is (et_test (ev_op (ev_lenT (ev_var rfl) (st_of hr1)) ev_c (rv_eq rfl))) (decide_eq_false (by rw [hl, hul]; intro q; have := V.int.inj q; simp at this; omega))) rfl) (fun z => nomatch z) fun _ H1 e1 => ?_
          have hr2 := e1 _ _ hr1
          have hcomp : EvL (tLc (iTup K (tSl (rSlT K) (tVar 0) (tPart (tC (.int 1))) tNoPart)) (gName 1) tYes (tCall (spDe m) [] E0 (tCons (tVar 1) tNil)) [1]) [some (.ref r), none] H1 ((a0 :: as).map fun x => V.int (x.de : Nat)) := by
            rw [← given_map (a0 :: as) (fun x => V.int (x.de : Nat)) us.length hul]
            refine el_lcNT _ _ (eu_tail (ev_var rfl) (st_of hr2)) (by omega) (fun _ => rfl) (fun i x G e hx => et_yes) fun i x G e hx _ => ?_
            obtain ⟨y, hy, hwy⟩ := hu.getv hx
            have h1 := W.lt_dp hy
            have h2 := W.lt_sz hy
            rw [hy]
            exact ev_call (ea_cons (ev_var rfl) ea_nil) (spv_de (hwy.ext (e1.trans e)) (by omega) (by omega) (by omega))
          have hc2 : EvL (tLc (iTup K (tSl (rSlT K) (tVar 0) (tPart (tC (.int 1))) tNoPart)) (gName 1) tYes (tCall (spDe m) [] E0 (tCons (tVar 1) tNil)) [1]) [some (.ref r), none] H1 (((a0 :: as).map fun x => ((x.de : Nat) : Int)).map V.int) := by
            rw [List.map_map]
            exact hcomp
          refine s_ret (ev_is (ev_op (y := .int ((W.des (a0 :: as) : Nat) : Int)) ev_c (ev_maxL hc2 (by simp) fun m' h1 h2 => ?_) rv_I0) ?_) fun H2 e2 => k H2 (e1.trans e2)
          · obtain ⟨x, hx, rfl⟩ := List.mem_map.mp h1
            have := W.de_max (as := a0 :: as) (m := x.de) ⟨x, hx, rfl⟩ fun y hy => by
              have := h2 _ (List.mem_map.mpr ⟨y, hy, rfl⟩)
              omega
            omega
          · have : (W.n sn (a0 :: as)).de = W.des (a0 :: as) + 1 := rfl
            rw [this]
            exact congrArg V.int (by omega)
end
end K23

set_option Elab.async false
set_option linter.all false
set_option maxRecDepth 100000
set_option maxHeartbeats 4000000
/-! The law's exchange. -/
namespace K23
open PySem PySem.Spec PyProof.Rows L2 Evl
section
variable {K : PySem.W.Frag} {σ : L2.St} {H : Hp} {te : TE}
/-- x[1:], x a list -/
theorem el_tail {a : Addr} {x : V} {xs : List V} (h : Ev te σ H (.ref a)) (ha : H a = some (.lst (x :: xs))) : EvL (tSl (rSlL K) te (tPart (tC (.int 1))) tNoPart) σ H xs := fun H1 e Q q =>
  h H1 e _ fun H2 e2 => ⟨1, rfl, a, x :: xs, rfl, sq_of ((e.trans e2) _ _ ha), fun p hp => by
    have e0 : cutV (x :: xs) (some 1) none = xs := cut1 x xs
    rw [e0]
    exact q p _ (fresh_back e2 hp) (e2.trans (Ex.new hp)) upd_same⟩
theorem et_eqNil {a : Addr} {p : List Nat} (h : Ev te σ H (.ref a)) (ha : H a = some (.lst (nums p))) : EvT (tTest (tOp (rEqD K) te (tLst tNil))) σ H (PyData.eqv (.list ((p.map fun n => ((n : Nat) : Int)).map PyData.int)) (.list [])) := fun H1 e Q q =>
  h H1 e _ fun H2 e2 => ⟨Nat.zero_le _, fun l hl => by
    have e3 := e2.trans (Ex.new (o := .lst []) hl)
    have hp : nums p = (p.map fun n => ((n : Nat) : Int)).map V.int := by
      unfold nums
      rw [List.map_map]
      rfl
    refine ⟨.list ((p.map fun n => ((n : Nat) : Int)).map PyData.int), .list [], .lst (sq_of ((e.trans e3) _ _ (by rw [ha, hp]))) (dp_ints _), .lst (sq_of upd_same) .nil, shaped_ints _, by decide +kernel, _, rfl, ?_⟩
    exact q _ e3⟩
end
section
variable {P : Program} {w : World} {K : PySem.W.Frag} {mg : Str → Option Value} {base : Heap}
def spLx (m : Nat) : Sp := fun vs H Q _ => ∃ (u q : V) (a : Addr) (z y : W) (p : List Nat), vs = [u, .ref a, q] ∧ WV H u z ∧ H a = some (.lst (nums p)) ∧ WV H q y ∧ p.length < m ∧ m ≤ 40 ∧ z.sz ≤ 1000 ∧ (z.at p).isSome = true ∧ ∀ (r : V) (G : Hp), Ex H G → WV G r (z.put p y) → Q r G
theorem ep_lx {σ : L2.St} {H : Hp} {m : Nat} {t1 t2 t3 : TE} {ux q : V} {x y : W} {p : List Nat} (h1 : Ev t1 σ H ux) (h2 : EvL t2 σ H (nums p)) (h3 : Ev t3 σ H q) (hw : WV H ux x) (hy : WV H q y) (hp : p.length < m) (hm : m ≤ 40) (hs : x.sz ≤ 1000) (ha : (x.at p).isSome = true) :
    EvP (tCall (spLx m) [] E0 (tCons t1 (tCons t2 (tCons t3 tNil)))) σ H (fun r G => WV G r (x.put p y)) := fun H1 e Q k =>
  h1 H1 e _ fun H2 e2 => h2 H2 (e.trans e2) _ fun a H3 _ e3 h3' => h3 H3 ((e.trans e2).trans e3) _ fun H4 e4 => ⟨ux, q, a, x, y, p, rfl, hw.ext (((e.trans e2).trans e3).trans e4), e4 _ _ h3', hy.ext (((e.trans e2).trans e3).trans e4), hp, hm, hs, ha, fun r G e5 hr => k r G (((e2.trans e3).trans e4).trans e5) hr⟩
abbrev nLx : List Str := ["_law_word", "_law_place", "_law_part", "_law_at"]
theorem sc_lx : FnScope nLx ["_law_word", "_law_place", "_law_part"] (defScope s__law_exchanged) := ⟨rfl, rfl, rfl, by decide +kernel, rfl, by decide +kernel, by decide +kernel⟩
theorem ok_law_ex (T : T23 P w K mg base) : ∀ m, Ok P w K mg base CX0 "_law_exchanged" ["_law_word", "_law_place", "_law_part"] (m + 1) (spLx m)
  | 0 => T.ok 40 rfl sc_lx (fun vs H Q E h => by obtain ⟨u, q, a, z, y, p, rfl, _⟩ := h; rfl) (fun kV doc pm an cdv ct us hl => match us, hl with | [_, _, _], _ => rfl) (fun f cdv A outer s H vs Q E hr h => by obtain ⟨u, q, a, z, y, p, _, _, _, _, h0, _⟩ := h; exact absurd h0 (Nat.not_lt_zero _))
  | m + 1 => by
    obtain ⟨fR, dR, GR, bR, kR, mR⟩ := (ok_law_ex T m).ex
    refine T.ok 40 rfl sc_lx (fun vs H Q E h => ?_) (fun kV doc pm an cdv ct us hl => match us, hl with | [_, _, _], _ => rfl) (fun f cdv A outer s H vs Q E hr h => ?_)
    · obtain ⟨u, q, a, z, y, p, rfl, _⟩ := h
      rfl
    · obtain ⟨u, q, a, z, y, p, rfl, hw, ha, hy, hp, hm, hs, hat, k⟩ := h
      refine ⟨_, pss_cons (ps_if (pt_cmpR (op_eqD hr.units) (pv 1) (pe_lst pa_nil) (nomark _)) (pss_one (ps_ret (pv 2))) pss_nil)
        (pss_cons (ps_set (i := 3) sc_lx.nd rfl (Or.inl rfl) (pe_op op_add (pe_ix ix_list (pv 1) pe_int (fun _ _ => rfl)) pe_int))
        (pss_one (ps_ret (pe_op op_catT (pe_op op_catT (pe_slice sl_tup (pv 0) po_none (po_some (pv 3))) (pe_tup (pa_cons (pe_call GR hr (by rfl) mR kR bR .nil pass0 (pa_cons (pe_ix ix_tup (pv 0) (pv 3) (fun _ _ => rfl)) (pa_cons (pe_slice sl_list (pv 1) (po_some pe_int) po_none) (pa_cons (pv 2) pa_nil)))) pa_nil)))
          (pe_slice sl_tup (pv 0) (po_some (pe_op op_add (pv 3) pe_int)) po_none))))), ?_⟩
      have hpl := nums_len p
      cases p with
      | nil =>
        refine q_when (b := true) (et_eqNil (ev_var rfl) ha) (fun _ H1 e1 => ?_) fun z => nomatch z
        refine s_ret (ev_var rfl) fun H2 e2 => k q H2 (e1.trans e2) ?_
        have : z.put [] y = y := by cases z <;> rfl
        rw [this]
        exact hy.ext (e1.trans e2)
      | cons i p =>
        refine q_when (b := false) (et_eqNil (ev_var rfl) ha) (fun z => nomatch z) fun _ H1 e1 => ?_
        have ha1 := e1 _ _ ha
        refine q_asg (v := .int ((i + 1 : Nat) : Int)) (ev_is (ev_op (x := .int (i : Nat)) (ev_op (ev_var rfl) ev_c (rv_ixL (sq_of ha1) (atI_nat (j := 0) rfl))) ev_c rv_I0) rfl) fun H2 e2 => ?_
        have e02 := e1.trans e2
        cases z with
        | v sv => cases hat
        | n s as =>
          obtain ⟨x, hx, hat2⟩ := at_cons hat
          have hil := (List.getElem?_eq_some_iff.mp hx).1
          obtain ⟨t, us, rfl, ht, hus⟩ := hw.tup
          have hul := hus.length
          obtain ⟨ux, hux, hwx⟩ := hus.get hx
          have hsx := W.lt_sz hx
          have hsz : W.szs as + 2 ≤ 1000 := hs
          have hasl := W.len_szs as
          have ht2 := e02 _ _ ht
          have st2 : SqT K H2 t (V.str s :: us) := st_of ht2
          have hix : Ev (tOp (rIxT K) (tVar 0) (tVar 3)) [some (.ref t), some (.ref a), some q, some (.int ((i + 1 : Nat) : Int))] H2 ux := ev_op (ev_var rfl) (ev_var rfl) (rv_ixT st2 (atI_nat (by simpa using hux)))
          have hcall := ep_lx (m := m) hix (el_tail (K := K) (a := a) (x := V.int (i : Nat)) (xs := nums p) (ev_var (i := 1) rfl) (e02 _ _ ha)) (ev_var (i := 2) rfl) (hwx.ext e02) (hy.ext e02) (by simp at hp; omega) (by omega) (by omega) hat2
          refine s_retUP (eup_cat (eup_cat (EvUP.of (eu_to (k := i + 1) (ev_var rfl) (ev_var rfl) st2 (by simp; omega))) (eup_one hcall fun r G1 G2 e h => WV.ext e h) (fun _ _ _ _ h => h) (fun xs G1 G2 e h => by
              obtain ⟨r, h1, h2⟩ := h
              exact ⟨r, h1, WV.ext e h2⟩) (fun xs G h => by rw [h]; simp) (fun xs ys G h1 h2 => by
              obtain ⟨r, rfl, _⟩ := h2
              rw [h1, List.length_take]
              simp
              omega))
            (EvUP.of (eu_from (k := i + 2) (ev_var rfl) (ev_is (ev_op (ev_var rfl) ev_c rv_I0) rfl) st2 (by omega) (by simp))) (fun xs G1 G2 e h => by
              obtain ⟨a1, a2, h0, h1, r, h2, h3⟩ := h
              exact ⟨a1, a2, h0, h1, r, h2, WV.ext e h3⟩) (fun _ _ _ _ h => h) (fun xs G h => by
              obtain ⟨a1, a2, h0, h1, r, h2, h3⟩ := h
              rw [h0, h1]
              simp) (fun xs ys G h1 h2 => by
              obtain ⟨a1, a2, h0, h1, r, h3, h4⟩ := h1
              rw [h0, h1, h2, h3]
              simp
              omega)) fun pp xs G _ e3 hpp hxs => ?_
          obtain ⟨xs1, ys1, rfl, ⟨a1, a2, rfl, rfl, r, rfl, hr⟩, rfl⟩ := hxs
          refine k _ G (e02.trans e3) ?_
          have e4 : (W.n s as).put (i :: p) y = .n s (as.set i (x.put p y)) := by
            show (match as[i]? with | some x => W.n s (as.set i (x.put p y)) | none => .n s as) = _
            rw [hx]
          rw [e4]
          have e5 : (V.str s :: us).take (i + 1) ++ [r] ++ (V.str s :: us).drop (i + 2) = V.str s :: us.set i r := by
            rw [List.set_eq_take_append_cons_drop, if_pos (by omega)]
            simp
          rw [e5] at hpp
          exact WV.of hpp (WVs.set ((hus.ext e02).ext e3) hr)
end
end K23

set_option Elab.async false
set_option linter.all false
set_option maxRecDepth 100000
set_option maxHeartbeats 4000000
/-! Things that are no words. -/
namespace K23
open PySem PySem.Spec PyProof.Rows L2 Evl
/-- a new thing, beside the lists of H0 -/
def EvOx (H0 : Hp) (te : TE) (σ : L2.St) (H : Hp) (o : O) : Prop := ∀ H1, Ex H H1 → ∀ Q : VK, (∀ v H2, Ex H1 H2 → OV (Hx (Old H0) H2) v o → Q v H2) → te σ H1 Q
def EvAx (H0 : Hp) (ta : TA) (σ : L2.St) (H : Hp) (os : List O) : Prop := ∀ H1, Ex H H1 → ∀ Q : List V → Hp → Prop, (∀ vs H2, Ex H1 H2 → OVs (Hx (Old H0) H2) vs os → Q vs H2) → ta σ H1 Q
def EvLx (H0 : Hp) (te : TE) (σ : L2.St) (H : Hp) (os : List O) : Prop := ∀ H1, Ex H H1 → ∀ Q : VK, (∀ p xs H2, H1 p = none → Ex H1 H2 → H2 p = some (.lst xs) → OVs (Hx (Old H0) H2) xs os → Q (.ref p) H2) → te σ H1 Q
section
variable {H0 H : Hp} {σ : L2.St} {te : TE} {ta : TA}
theorem eox_int {i : Int} : EvOx H0 (tC (.int i)) σ H (.int i) := fun H1 e Q q => q _ _ (Ex.refl _) rfl
theorem eox_str {i : Str} : EvOx H0 (tC (.str i)) σ H (.str i) := fun H1 e Q q => q _ _ (Ex.refl _) rfl
theorem eox_bl {i : Bool} : EvOx H0 (tC (.bl i)) σ H (.bl i) := fun H1 e Q q => q _ _ (Ex.refl _) rfl
theorem eox_non : EvOx H0 (tC .non) σ H .non := fun H1 e Q q => q _ _ (Ex.refl _) rfl
theorem eax_nil : EvAx H0 tNil σ H [] := fun H1 e Q q => q _ _ (Ex.refl _) rfl
theorem eax_cons {o : O} {os : List O} (h : EvOx H0 te σ H o) (k : EvAx H0 ta σ H os) : EvAx H0 (tCons te ta) σ H (o :: os) := fun H1 e Q q =>
  h H1 e _ fun v H2 e2 hv => k H2 (e.trans e2) _ fun vs H3 e3 hvs => q (v :: vs) H3 (e2.trans e3) (.cons (hv.ext (Go.of e3).ex) hvs)
theorem eox_tup {os : List O} (h0 : Ex H0 H) (h : EvAx H0 ta σ H os) (n : os.length ≤ 1000) : EvOx H0 (tTup ta) σ H (.tup os) := fun H1 e Q q =>
  h H1 e _ fun vs H2 e2 hvs => ⟨sz_of (by rw [hvs.length]; omega), fun p hp => q (.ref p) _ (e2.trans (Ex.new hp)) ⟨p, vs, rfl, hx_of (not_old (fresh_back (h0.trans (e.trans e2)) hp)) tup_tbl upd_same, hvs.ext (Go.of (Ex.new hp)).ex⟩⟩
theorem eox_lst {os : List O} (h0 : Ex H0 H) (h : EvAx H0 ta σ H os) (n : os.length ≤ 1000) : EvOx H0 (tLst ta) σ H (.lst os) := fun H1 e Q q =>
  h H1 e _ fun vs H2 e2 hvs => ⟨sz_of (by rw [hvs.length]; omega), fun p hp => q (.ref p) _ (e2.trans (Ex.new hp)) ⟨p, vs, rfl, hx_of (not_old (fresh_back (h0.trans (e.trans e2)) hp)) lst_tbl upd_same, hvs.ext (Go.of (Ex.new hp)).ex⟩⟩
theorem eox_dct (h0 : Ex H0 H) : EvOx H0 tDNewK σ H .dct := fun H1 e Q q => fun p hp => q (.ref p) _ (Ex.new hp) ⟨p, rfl, hx_of (not_old (fresh_back (h0.trans e) hp)) (fun _ z => nomatch z) upd_same⟩
theorem elx_lst {os : List O} (h : EvAx H0 ta σ H os) (n : os.length ≤ 1000) : EvLx H0 (tLst ta) σ H os := fun H1 e Q q =>
  h H1 e _ fun vs H2 e2 hvs => ⟨sz_of (by rw [hvs.length]; omega), fun p hp => q p vs _ (fresh_back e2 hp) (e2.trans (Ex.new hp)) upd_same (hvs.ext (Go.of (Ex.new hp)).ex)⟩
theorem s_retLx {D : Ends} {os : List O} (h : EvLx H0 te σ H os) (k : ∀ p xs H1, H p = none → Ex H H1 → H1 p = some (.lst xs) → OVs (Hx (Old H0) H1) xs os → D.rt (.ref p) H1) : tRet te D σ H := h H (Ex.refl H) _ k
end
def odds : List O := [.non, .int 5, .bl true, .str "", .str "x", .str "a", .str "Xy", .str "X1y", .str "XX", .lst [], .tup [], .dct, .tup [.str "X"], .tup [.str "not"], .tup [.str "a", .int 5], .tup [.str "f", .tup [.str "a"], .non], .tup [.str "f", .str "a"], .tup [.str "=", .str "X"], .tup [.str "=", .tup [.str "a"], .tup [.str "b"], .tup [.str "c"]],
  .tup [.int 5, .str "X"], .tup [.str "f", .tup [.str "=", .str "X", .str "Y"]], .tup [.str "Ff", .str "X"]]
def oddB (o : O) : Bool := o.ss && (decide (o.sz ≤ 900) && (o.e3 && !o.fitW))
theorem odds_odd : odds.all oddB = true := by decide +kernel
theorem oddB_no {H : Hp} {v : V} {o : O} (h : oddB o = true) (k : OV H v o) : NoW H v := by
  unfold oddB at h
  simp only [Bool.and_eq_true, Bool.not_eq_true', decide_eq_true_eq] at h
  exact ⟨o, ⟨k, h.1, h.2.1, h.2.2.1⟩, h.2.2.2⟩
section
variable {P : Program} {w : World} {K : PySem.W.Frag} {mg : Str → Option Value} {base : Heap}
def spOd : Sp := fun vs H Q _ => vs = [] ∧ ∀ p xs H', H p = none → Ex H H' → H' p = some (.lst xs) → OVs (Hx (Old H) H') xs odds → Q (.ref p) H'
theorem sc_od : FnScope [] [] (defScope s__law_d_odd_words) := ⟨rfl, rfl, rfl, by decide +kernel, rfl, by decide +kernel, by decide +kernel⟩
theorem ok_odd (T : T23 P w K mg base) : Ok P w K mg base CX0 "_law_d_odd_words" [] 1 spOd := by
  refine T.ok 31 rfl sc_od (fun vs H Q E h => ?_) (fun kV doc pm an cdv ct us hl => match us, hl with | [], _ => rfl) (fun f cdv A outer s H vs Q E hr h => ?_)
  · rw [h.1]
    rfl
  · obtain ⟨rfl, k⟩ := h
    refine ⟨_, pss_one (ps_ret (pe_lst (pa_cons pe_non (pa_cons pe_int (pa_cons pe_bl (pa_cons pe_str (pa_cons pe_str (pa_cons pe_str (pa_cons pe_str (pa_cons pe_str (pa_cons pe_str (pa_cons (pe_lst pa_nil) (pa_cons (pe_tup pa_nil) (pa_cons pe_dnewK (pa_cons (pe_tup (pa_cons pe_str pa_nil)) (pa_cons (pe_tup (pa_cons pe_str pa_nil)) (pa_cons (pe_tup (pa_cons pe_str (pa_cons pe_int pa_nil))) (pa_cons (pe_tup (pa_cons pe_str (pa_cons (pe_tup (pa_cons pe_str pa_nil)) (pa_cons pe_non pa_nil)))) (pa_cons (pe_tup (pa_cons pe_str (pa_cons pe_str pa_nil))) (pa_cons (pe_tup (pa_cons pe_str (pa_cons pe_str pa_nil))) (pa_cons (pe_tup (pa_cons pe_str (pa_cons (pe_tup (pa_cons pe_str pa_nil)) (pa_cons (pe_tup (pa_cons pe_str pa_nil)) (pa_cons (pe_tup (pa_cons pe_str pa_nil)) pa_nil))))) (pa_cons (pe_tup (pa_cons pe_int (pa_cons pe_str pa_nil))) (pa_cons (pe_tup (pa_cons pe_str (pa_cons (pe_tup (pa_cons pe_str (pa_cons pe_str (pa_cons pe_str pa_nil)))) pa_nil))) (pa_cons (pe_tup (pa_cons pe_str (pa_cons pe_str pa_nil))) pa_nil)))))))))))))))))))))))), ?_⟩
    refine s_retLx (H0 := H) (os := odds) (elx_lst ?_ (by decide)) k
    exact (eax_cons eox_non (eax_cons eox_int (eax_cons eox_bl (eax_cons eox_str (eax_cons eox_str (eax_cons eox_str (eax_cons eox_str (eax_cons eox_str (eax_cons eox_str (eax_cons (eox_lst (Ex.refl H) eax_nil (by decide)) (eax_cons (eox_tup (Ex.refl H) eax_nil (by decide)) (eax_cons (eox_dct (Ex.refl H)) (eax_cons (eox_tup (Ex.refl H) (eax_cons eox_str eax_nil) (by decide)) (eax_cons (eox_tup (Ex.refl H) (eax_cons eox_str eax_nil) (by decide)) (eax_cons (eox_tup (Ex.refl H) (eax_cons eox_str (eax_cons eox_int eax_nil)) (by decide)) (eax_cons (eox_tup (Ex.refl H) (eax_cons eox_str (eax_cons (eox_tup (Ex.refl H) (eax_cons eox_str eax_nil) (by decide)) (eax_cons eox_non eax_nil))) (by decide)) (eax_cons (eox_tup (Ex.refl H) (eax_cons eox_str (eax_cons eox_str eax_nil)) (by decide)) (eax_cons (eox_tup (Ex.refl H) (eax_cons eox_str (eax_cons eox_str eax_nil)) (by decide)) (eax_cons (eox_tup (Ex.refl H) (eax_cons eox_str (eax_cons (eox_tup (Ex.refl H) (eax_cons eox_str eax_nil) (by decide)) (eax_cons (eox_tup (Ex.refl H) (eax_cons eox_str eax_nil) (by decide)) (eax_cons (eox_tup (Ex.refl H) (eax_cons eox_str eax_nil) (by decide)) eax_nil)))) (by decide)) (eax_cons (eox_tup (Ex.refl H) (eax_cons eox_int (eax_cons eox_str eax_nil)) (by decide)) (eax_cons (eox_tup (Ex.refl H) (eax_cons eox_str (eax_cons (eox_tup (Ex.refl H) (eax_cons eox_str (eax_cons eox_str (eax_cons eox_str eax_nil))) (by decide)) eax_nil)) (by decide)) (eax_cons (eox_tup (Ex.refl H) (eax_cons eox_str (eax_cons eox_str eax_nil)) (by decide)) eax_nil))))))))))))))))))))))
end
end K23

set_option Elab.async false
set_option linter.all false
set_option maxRecDepth 100000
set_option maxHeartbeats 4000000
/-! repr of words; defs that run where no guard stands. -/
namespace K23
open PySem PySem.Spec PyProof.Rows L2 Evl
/-- a def's promise where no guard stands -/
structure FnG (P : Program) (w : World) (K : PySem.W.Frag) (mg : Str → Option Value) (base : Heap) (k : Nat) (f : Addr) (fd : FuncData) (ps : List Str) (sp : Sp) : Prop where
  len : ∀ vs H Q E, sp vs H Q E → vs.length = ps.length
  run : ∀ (A : Around) (outer : List Env) (s : Shared) (H : Hp) (args : Args) (us : List Value) (vs : List V) (Q : VK), A.guards = some [] → Room k A → Env0 P w K mg base A outer s H → BindsTo s fd args (ps.zip us) → Vals vs us → sp vs H Q E0 →
    codeAny (model P w) A (.call (.ref f) args) (CR CX0 outer P w H s Q E0) s
section
variable {P : Program} {w : World} {K : PySem.W.Frag} {mg : Str → Option Value} {base : Heap}
theorem FnG.of {x qual : Str} {params : Arguments} {body : List Stmt} {scope : Scope} {f : Addr} {fd : FuncData} {N ps : List Str} {k : Nat} {sp : Sp} (F : FunD K x qual params body scope [] [] f fd) (S : FnScope N ps scope) (len : ∀ vs H Q E, sp vs H Q E → vs.length = ps.length)
    (hb : ∀ (c : Addr), (∃ oc od osl, K.lookup f = some ⟨oc, od, .func fd, osl⟩ ∧ fd.code = .ref c) → ∀ (A : Around) (outer : List Env) (s : Shared) (H : Hp) (vs : List V) (Q : VK), A.guards = some [] → Room k (A.deeper (envOfC qual scope s.heap.objs.size f (.ref c))) → sp vs H Q E0 →
      ∃ t, PSs (cxOf CX0 P w K mg base N qual scope f (.ref c) A outer s H E0) body t ∧ t { nx := fun _ G => Q .non G, rt := Q } (L2.start N vs) H) : FnG P w K mg base (k + 1) f fd ps sp := by
  obtain ⟨oc, od, dV, kV, doc, pm, an, cd, ct, osl, rfl, lk, hcd, _, _⟩ := F.ex
  obtain ⟨c, hc⟩ := He.codeIn_ref hcd
  subst hc
  constructor
  · exact len
  intro A outer s H args us vs Q hg hr e0 hbi r hs
  have hK : K.In s.heap := e0.mod.kin.keeps fun b o e => (e0.bs b o e).1
  have hL : s.heap.NoLimit := e0.mod.nolimit.keeps fun b o e => (e0.bs b o e).1
  refine codeAny_call_function hr.depth (hK _ _ lk) rfl S.co S.gen rfl (PySem.W.codeRec_of hK hcd) (hbi _ _ _ _ ?_)
  refine wpAny_newFunctionEnv_cells S.kind (fun y hy => ?_) fun env he s1 x => ?_
  · rcases S.par y.1 (List.of_mem_zip (a := y.1) (b := y.2) hy).1 with q | q
    · exact Or.inl q
    · exact Or.inr ⟨q, PySem.W.cellsFrom_some _ _ _ (Or.inl q)⟩
  · subst he
    obtain ⟨t, ht, hq⟩ := hb c ⟨_, _, _, lk, rfl⟩ A outer s H vs Q hg (hr.deeper _) hs
    refine ⟨hL.keeps x.toInCall.keep, codeAny_func (wpAny_mono (ht.run [] s1 (L2.start N vs) H _ (inv_start S hr.hd e0 (len _ _ _ _ hs) r x) hq) (fun fl s' z => ?_) fun _ _ z => z)⟩
    match fl, z with
    | .ret u, ⟨v, σ', G, J, rv, q⟩ => exact ⟨v, G, J.os, J.bare, J.base, J.hok, rv, q⟩
    | .next, ⟨σ', G, J, q⟩ => exact ⟨V.non, G, J.os, J.bare, J.base, J.hok, rfl, q⟩
    | .brk, ⟨_, _, _, q⟩ => exact q.elim
    | .cont, ⟨_, _, _, q⟩ => exact q.elim
end
section
variable {X : Cx}
/-- a call of such a def -/
theorem pe_callG {k : Nat} {f : Addr} {fd : FuncData} {ps : List Str} {sp : Sp} {x : Str} {p pos : Pos} {e : Expr} {es : List Expr} {t : TA} (F : FnG X.prog X.w X.K X.mg X.base k f fd ps sp) (hg : X.A.guards = some []) (hr : Room k X.A) (hx : Gl X x) (hm : X.mg x = some (.ref f))
    (hk : PySem.W.keepIn X.K (.ref f) = true) (hb : Binds X.K fd ps []) (ha : PA X (e :: es) t) (hdb : (x == ("__debug__" : Str)) = false := by decide) (he : starEach (e :: es) X.env = (false, eval e X.env) :: starEach es X.env := by rfl)
    (hpl : (backTo pos (starEach es X.env)).any (·.1) = false := by rfl) : PE X (.Call (.Name x p) (e :: es) [] pos) (tCall sp [] E0 t) := by
  refine ⟨fun pins s σ H Q I h => wpAny_Call_Name_kw (ld_glob I hx hm (PySem.W.callWith_K (h₀ := X.base) I.ok.mod.kin hk (thn (ha.run pos pins s σ H _ I h) fun us s1 ⟨vs, H1, I1, r, q⟩ => ⟨I1.kIn, ?_⟩) he hpl) hdb)⟩
  have q : sp (vs ++ []) H1 Q E0 := q
  rw [List.append_nil] at q
  have hl : us.length = ps.length := by
    rw [← r.length]
    exact F.len _ _ _ _ q
  have b := hb s1 us I1.kIn (by simpa using hl)
  rw [List.append_nil] at b
  refine wpAny_call (codeAny_mono (F.run X.A X.stack s1 H1 ⟨us, []⟩ us vs Q hg hr I1.env0 b r q) fun r s' z => ?_)
  match r, z with
  | .ok (.ret u), z => exact I1.after z
  | .error _, z => exact (show False from z).elim
/-! ### repr -/
def rRepr (K : PySem.W.Frag) : List V → Hp → VK → Prop := fun xs H Q => ∃ (v : V) (d : PyData), xs = [v] ∧ Dp K H v d ∧ d.hasDict = false ∧ d.showable = true ∧ d.depth ≤ 30 ∧ d.shown.length ≤ sizeLine ∧ ((∃ a, v = .ref a) ∨ ∃ x, v = .str x) ∧ Q (.str d.shown) H
theorem call_repr (hg : X.A.guards = some []) (hu : X.A.units + 100 < cLine) : CallR X (.builtin "repr") (rRepr X.K) := by
  intro pins s σ H xs us Q I r h
  obtain ⟨v, d, rfl, hd, h1, h2, h3, h4, hv, q⟩ := h
  obtain ⟨u, rfl, r1⟩ := vals1 r
  rcases hv with ⟨a, rfl⟩ | ⟨x, rfl⟩
  · obtain rfl : u = .ref a := r1
    obtain ⟨as, rd⟩ := Dp.reads I d _ _ hd rfl
    exact PySem.repr_of_reads' rd h2 (fun z => by rw [h1] at z; cases z) hg (by omega) (fun _ _ e => e) (fun h' t tk hk => ⟨.str _, H, I.kept hk, ⟨_, rfl⟩, q⟩) h4
  · obtain ⟨t, rfl⟩ := r1
    cases hd
    exact P.repr_of_str ⟨.str _, H, I.tok _, ⟨_, rfl⟩, q⟩ h4
end
/-! ### words as data -/
mutual
def O.py : O → PyData
  | .non => .none | .bl b => .bool b | .int i => .int i | .str s => .str s | .dct => .dict [] | .lst xs => .list (O.pys xs) | .tup xs => .tuple (O.pys xs)
def O.pys : List O → List PyData
  | [] => []
  | x :: xs => x.py :: O.pys xs
end
mutual
def O.wd : O → Bool
  | .str s => SS.contains s | .lst xs => O.wds xs | .tup xs => O.wds xs | _ => false
def O.wds : List O → Bool
  | [] => true
  | x :: xs => x.wd && O.wds xs
end
mutual
theorem strip_wd : ∀ o : O, o.strip.wd = o.wd
  | .non => rfl | .bl _ => rfl | .int _ => rfl | .str _ => rfl | .dct => rfl
  | .lst xs => strips_wd xs
  | .tup xs => strips_wd xs
theorem strips_wd : ∀ xs : List O, O.wds (O.strips xs) = O.wds xs
  | [] => rfl
  | x :: xs => by show (x.strip.wd && O.wds (O.strips xs)) = (x.wd && O.wds xs); rw [strip_wd x, strips_wd xs]
end
mutual
theorem W.wd : ∀ w : W, w.o.wd = w.o.ss
  | .v s => rfl
  | .n s as => by show (SS.contains s && O.wds (W.os as)) = (SS.contains s && O.sss (W.os as)); rw [W.wds as]
theorem W.wds : ∀ ws : List W, O.wds (W.os ws) = O.sss (W.os ws)
  | [] => rfl
  | x :: xs => by show (x.o.wd && O.wds (W.os xs)) = (x.o.ss && O.sss (W.os xs)); rw [W.wd x, W.wds xs]
end
mutual
theorem strip_dp : ∀ o : O, o.strip.dp = o.dp
  | .non => rfl | .bl _ => rfl | .int _ => rfl | .str _ => rfl | .dct => rfl
  | .lst xs => by show O.dps (O.strips xs) + 1 = O.dps xs + 1; rw [strips_dp xs]
  | .tup xs => by show O.dps (O.strips xs) + 1 = O.dps xs + 1; rw [strips_dp xs]
theorem strips_dp : ∀ xs : List O, O.dps (O.strips xs) = O.dps xs
  | [] => rfl
  | x :: xs => by show max x.strip.dp (O.dps (O.strips xs)) = max x.dp (O.dps xs); rw [strip_dp x, strips_dp xs]
end
mutual
theorem W.odp : ∀ w : W, w.o.dp = w.dp
  | .v _ => rfl
  | .n _ as => by show max 0 (O.dps (W.os as)) + 1 = W.dps as + 1; rw [W.odps as]; omega
theorem W.odps : ∀ ws : List W, O.dps (W.os ws) = W.dps ws
  | [] => rfl
  | x :: xs => by show max x.o.dp (O.dps (W.os xs)) = max x.dp (W.dps xs); rw [W.odp x, W.odps xs]
end
theorem ss_cps : SS.all (fun s => s.cps.toList.all fun c => decide (c < 16 ^ 8)) = true := by decide +kernel
theorem ss_size : SS.all (fun s => decide (s.cps.size ≤ 8)) = true := by decide +kernel
theorem ss_of {p : Str → Bool} (h : SS.all p = true) {s : Str} (k : SS.contains s = true) : p s = true := List.all_eq_true.mp h s (List.contains_iff_mem.mp k)
section
variable {K : PySem.W.Frag} {H : Hp}
mutual
theorem OV.dp : ∀ {o : O} {v : V}, OV H v o → o.wd = true → Dp K H v o.py
  | .str s, v, h, k => by obtain rfl : v = .str s := h; exact .str s
  | .lst xs, v, h, k => by obtain ⟨a, vs, rfl, h1, h2⟩ := h; exact .lst (sq_of h1) (OVs.dp h2 k)
  | .tup xs, v, h, k => by obtain ⟨a, vs, rfl, h1, h2⟩ := h; exact .tup (st_of h1) (OVs.dp h2 k)
  | .non, _, _, k => nomatch k
  | .bl _, _, _, k => nomatch k
  | .int _, _, _, k => nomatch k
  | .dct, _, _, k => nomatch k
theorem OVs.dp : ∀ {os : List O} {vs : List V}, OVs H vs os → O.wds os = true → DpAll K H vs (O.pys os)
  | [], vs, h, k => by obtain rfl : vs = [] := h; exact .nil
  | x :: xs, vs, h, k => by
    obtain ⟨v, us, rfl, h1, h2⟩ := h
    have k : (x.wd && O.wds xs) = true := k
    rw [Bool.and_eq_true] at k
    exact .cons (OV.dp h1 k.1) (OVs.dp h2 k.2)
end
mutual
theorem O.py_nd : ∀ {o : O}, o.wd = true → o.py.hasDict = false ∧ o.py.showable = true ∧ o.py.leavesShort 8 = true ∧ o.py.weight + 1 ≤ 9 * o.sz ∧ o.py.depth ≤ o.dp
  | .str s, k => ⟨rfl, rfl, ss_of ss_cps k, by
      have := of_decide_eq_true (ss_of ss_size k)
      show s.cps.size + 1 ≤ 9 * 1
      omega, Nat.le_refl _⟩
  | .lst xs, k => by
    obtain ⟨a, b, c, d, e⟩ := O.pys_nd (xs := xs) k
    exact ⟨by simpa only [O.py, PyData.hasDict] using a, by simpa only [O.py, PyData.showable] using b, by simpa only [O.py, PyData.leavesShort] using c, by simp only [O.py, PyData.weight, O.sz]; omega, by simp only [O.py, PyData.depth, O.dp]; omega⟩
  | .tup xs, k => by
    obtain ⟨a, b, c, d, e⟩ := O.pys_nd (xs := xs) k
    exact ⟨by simpa only [O.py, PyData.hasDict] using a, by simpa only [O.py, PyData.showable] using b, by simpa only [O.py, PyData.leavesShort] using c, by simp only [O.py, PyData.weight, O.sz]; omega, by simp only [O.py, PyData.depth, O.dp]; omega⟩
  | .non, k => nomatch k
  | .bl _, k => nomatch k
  | .int _, k => nomatch k
  | .dct, k => nomatch k
theorem O.pys_nd : ∀ {xs : List O}, O.wds xs = true → PyData.hasDictAll (O.pys xs) = false ∧ PyData.showableAll (O.pys xs) = true ∧ PyData.leavesShortAll 8 (O.pys xs) = true ∧ PyData.weightAll (O.pys xs) ≤ 9 * O.szs xs ∧ PyData.depthAll (O.pys xs) ≤ O.dps xs
  | [], _ => ⟨rfl, rfl, rfl, Nat.zero_le _, Nat.zero_le _⟩
  | x :: xs, k => by
    have k : (x.wd && O.wds xs) = true := k
    rw [Bool.and_eq_true] at k
    obtain ⟨a1, b1, c1, d1, e1⟩ := O.py_nd (o := x) k.1
    obtain ⟨a, b, c, d, e⟩ := O.pys_nd (xs := xs) k.2
    have hs := x.sz_pos
    refine ⟨?_, ?_, ?_, ?_, ?_⟩
    · simp only [O.pys, PyData.hasDictAll, a1, a, Bool.or_false]
    · simp only [O.pys, PyData.showableAll, b1, b, Bool.and_true]
    · simp only [O.pys, PyData.leavesShortAll, c1, c, Bool.and_true]
    · simp only [O.pys, PyData.weightAll, O.szs]; omega
    · simp only [O.pys, PyData.depthAll, O.dps]; omega
end
abbrev tRpr (K : PySem.W.Frag) (te : TE) : TE := tCB (rRepr K) (tCons te tNil)
theorem ev_repr {σ : L2.St} {te : TE} {v : V} {z : W} {o : O} (h : Ev te σ H v) (ov : OV H v o) (e : o.strip = z.o) (hz : Dz z) : Ev (tRpr K te) σ H (.str o.py.shown) := fun H1 x Q q =>
  h H1 x _ fun H2 x2 => by
    have hw : o.wd = true := by rw [← strip_wd, e, W.wd]; exact hz.ss
    obtain ⟨a, b, c, d, e2⟩ := O.py_nd hw
    have hd : o.dp ≤ 12 := by rw [← strip_dp, e, W.odp]; exact Nat.le_of_lt hz.dp
    have hs : o.sz ≤ 800 := by
      have := sz_of_strip e
      have := W.sz_nd z
      have := hz.nd
      omega
    refine ⟨v, o.py, rfl, OV.dp (ov.ext (x.trans x2)) hw, a, b, by omega, PyData.shown_fits (B := 8) (by decide) (by decide) c (by omega), ?_, q H2 x2⟩
    cases o with
    | str s => exact .inr ⟨s, ov⟩
    | lst xs => obtain ⟨p, _, h, _⟩ := ov; exact .inl ⟨p, h⟩
    | tup xs => obtain ⟨p, _, h, _⟩ := ov; exact .inl ⟨p, h⟩
    | _ => cases hw
end
end K23

set_option Elab.async false
set_option linter.all false
set_option maxRecDepth 100000
set_option maxHeartbeats 4000000
/-! The law's walk over one word: what is known. -/
namespace K23
open PySem PySem.Spec PyProof.Rows L2 Evl LamX
/-- the tables of the defs that make lambdas -/
def tabT (K : PySem.W.Frag) : List (Addr × Str) := tf.map fun p => ((He.cT K p).2, (p.1 ++ ("." : Str) ++ ("<locals>." : Str)) ++ ("<lambda>" : Str))
theorem tab_uniq : ∀ {l : List (Addr × Str)}, (l.map (·.1)).Nodup → ∀ p ∈ l, ∀ q ∈ l, p.1 = q.1 → p.2 = q.2
  | [], _, _, hp, _, _, _ => nomatch hp
  | a :: r, nd, p, hp, q, hq, e => by
    rw [List.map_cons, List.nodup_cons] at nd
    rcases List.mem_cons.mp hp with hp | hp
    · rcases List.mem_cons.mp hq with hq | hq
      · rw [hp, hq]
      · exact absurd (List.mem_map.mpr ⟨q, hq, by rw [← e, hp]⟩) nd.1
    · rcases List.mem_cons.mp hq with hq | hq
      · exact absurd (List.mem_map.mpr ⟨p, hp, by rw [e, hq]⟩) nd.1
      · exact tab_uniq nd.2 p hp q hq e
/-- the tables of the two defs, and that they are apart -/
structure Tab2 (K : PySem.W.Frag) (mg : Str → Option Value) (base : Heap) : Prop where
  tb : ∀ p ∈ tf, TabB base mg (He.cT K p).1 (He.cT K p).2
  ap : (tf.map fun p => (He.cT K p).2).Nodup
theorem cod_lst {c : Addr} {q : Str} {xs : List V} : CodeO c q ≠ .lst xs := fun z => by
  unfold CodeO at z
  cases z
theorem tabs_but {T : List (Addr × Str)} {H G : Hp} {p q : Addr} {n : Int} (h : Tabs T H) (B : But p q H G) (S : Spr H p q n) : Tabs T G := fun z hz => by
  obtain ⟨xs, ys, hp, hq⟩ := S.lst
  obtain ⟨ps, y1, y2, y3⟩ := h z hz
  refine ⟨ps, ?_, y2, fun pos cv hc => ?_⟩
  · exact B _ _ (fun e => by rw [e, hp] at y1; cases y1) (fun e => by rw [e, hq] at y1; cases y1) y1
  · obtain ⟨c, c1, c2⟩ := y3 pos cv hc
    exact ⟨c, c1, B _ _ (fun e => by rw [e, hp] at c2; exact absurd (Option.some.inj c2).symm cod_lst) (fun e => by rw [e, hq] at c2; exact absurd (Option.some.inj c2).symm cod_lst) c2⟩
/-- what holds from the spring's and the known things' side at G -/
structure SW (T : List (Addr × Str)) (H0 Hb : Hp) (p q : Addr) (n : Int) (G : Hp) : Prop where
  spr : Spr G p q n
  go : Go (Old H0) Hb G
  tabs : Tabs T G
  op : Old H0 p
  oq : Old H0 q
  old : ∀ b, Old H0 b → Old Hb b
section
variable {T : List (Addr × Str)} {H0 Hb G G' : Hp} {p q : Addr} {n n' : Int}
theorem SW.ext (S : SW T H0 Hb p q n G) (e : Ex G G') : SW T H0 Hb p q n G' := ⟨S.spr.ext e, S.go.trans (Go.of e), S.tabs.ext e, S.op, S.oq, S.old⟩
theorem SW.but (S : SW T H0 Hb p q n G) (B : But p q G G') (S' : Spr G' p q n') : SW T H0 Hb p q n' G' := ⟨S', S.go.trans (Go.but B S.op S.oq), tabs_but S.tabs B S.spr, S.op, S.oq, S.old⟩
theorem SW.lam (S : SW T H0 Hb p q n G) (e : ExtN G G') (t : Tabs T G') : SW T H0 Hb p q n G' := ⟨S.spr.keep (fun o h => by
    obtain ⟨xs, ys, h1, h2⟩ := S.spr.lst
    rw [h1] at h
    cases h
    exact e _ _ h1 lst_tbl) (fun o h => by
    obtain ⟨xs, ys, h1, h2⟩ := S.spr.lst
    rw [h2] at h
    cases h
    exact e _ _ h2 lst_tbl), S.go.trans (Go.ofN e), t, S.op, S.oq, S.old⟩
theorem SW.tx (S : SW T H0 Hb p q n G) : Tx Hb G := fun a xs h => S.go a _ (fun z => by
  obtain ⟨ys, k⟩ := S.old a z
  rw [h] at k
  cases k) tup_tbl h
end
def oPl (p : List Nat) : O := .lst (p.map fun i : Nat => O.int (i : Nat))
/-- the word, the part, what is handed, the parts -/
structure Kw (H0 Hb : Hp) (u v r : V) (pp : Addr) (ps : List V) (z y : W) (o : O) : Prop where
  hu : WV Hb u z
  hv : WV Hb v y
  hr : OV (Hx (Old H0) Hb) r o
  st : o.strip = z.o
  dz : Dz z
  dy : Dw 2 y
  hpp : Hb pp = some (.lst ps)
  npp : H0 pp = none
  pa : A2 (PaV (fun l => H0 l = none) Hb) ps z.parts
section
variable {T : List (Addr × Str)} {H0 Hb G : Hp} {p q pp : Addr} {n : Int} {u v r : V} {ps : List V} {z y : W} {o : O}
theorem Kw.gu (k : Kw H0 Hb u v r pp ps z y o) (S : SW T H0 Hb p q n G) : WV G u z := k.hu.tx S.tx
theorem Kw.gv (k : Kw H0 Hb u v r pp ps z y o) (S : SW T H0 Hb p q n G) : WV G v y := k.hv.tx S.tx
theorem Kw.gr (k : Kw H0 Hb u v r pp ps z y o) (S : SW T H0 Hb p q n G) : OV G r o := (k.hr.ext S.go.ex).ext hx_ex
theorem Kw.lw (k : Kw H0 Hb u v r pp ps z y o) (S : SW T H0 Hb p q n G) : Lw G r z := k.dz.lw (k.gr S) k.st
theorem Kw.gp (k : Kw H0 Hb u v r pp ps z y o) (S : SW T H0 Hb p q n G) : G pp = some (.lst ps) := S.go _ _ (not_old k.npp) lst_tbl k.hpp
theorem Kw.gpa (k : Kw H0 Hb u v r pp ps z y o) (S : SW T H0 Hb p q n G) : A2 (PaV (fun l => H0 l = none) G) ps z.parts := k.pa.mono fun a b h => by
  obtain ⟨t, l, x, rfl, h1, h2, h3, h4⟩ := h
  exact ⟨t, l, x, rfl, S.tx _ _ h1, h2, S.go _ _ (not_old h2) lst_tbl h3, h4.tx S.tx⟩
end
/-! ### new things, compared -/
/-- what a text tells, staying -/
abbrev EvD (te : TE) (σ : L2.St) (H : Hp) (o : O) : Prop := EvP te σ H (fun x G => OV G x o)
abbrev tSame (m : Nat) (t1 t2 : TE) : TE := tCall (spSa m) [] E0 (tCons t1 (tCons t2 tNil))
section
variable {K : PySem.W.Frag} {σ : L2.St} {H : Hp} {t1 t2 te : TE} {o : O}
theorem ev_same {m : Nat} (h1 : EvD t1 σ H o) (h2 : EvD t2 σ H o) (hd : o.dq < m) (hm : m ≤ 40) (hs : o.sz ≤ 40000) : Ev (tSame m t1 t2) σ H (.bl true) := fun H1 e Q q =>
  h1 H1 e _ fun x H2 e2 hx => h2 H2 (e.trans e2) _ fun y H3 e3 hy => ⟨x, y, o, rfl, hx.ext e3, hy, hd, hm, hs, fun H4 e4 => q H4 ((e2.trans e3).trans e4)⟩
/-- if not _law_same(..): return .. -/
theorem s_same {m : Nat} {tu : TS} {D : Ends} (h1 : EvD t1 σ H o) (h2 : EvD t2 σ H o) (hd : o.dq < m) (hm : m ≤ 40) (hs : o.sz ≤ 40000) (k : ∀ G, Ex H G → D.nx σ G) : tIfS (tNot (tB (tSame m t1 t2))) tu tNext D σ H :=
  s_when (b := false) (et_not (a := true) (et_B (ev_same h1 h2 hd hm hs))) (fun z => nomatch z) fun _ G e => k G e
theorem evd_var {i : Nat} {v : V} (h : σ[i]? = some (some v)) (k : OV H v o) : EvD (tVar i) σ H o := EvP.of (ev_var h) fun G e => k.ext e
end
def oPls (L : List (List Nat × W)) : O := .lst (L.map fun q => oPl q.1)
theorem oPl_dq (p : List Nat) : (oPl p).dq ≤ 1 := by
  show O.dqs (p.map fun i : Nat => O.int (i : Nat)) + 1 ≤ 1
  have : O.dqs (p.map fun i : Nat => O.int (i : Nat)) = 0 := by
    induction p with
    | nil => rfl
    | cons a r ih => show max 0 (O.dqs (r.map _)) = 0; rw [ih]; rfl
  omega
theorem oPls_dq (L : List (List Nat × W)) : (oPls L).dq ≤ 2 := by
  show O.dqs (L.map fun q => oPl q.1) + 1 ≤ 2
  have : O.dqs (L.map fun q => oPl q.1) ≤ 1 := by
    induction L with
    | nil => exact Nat.zero_le _
    | cons a r ih => exact Nat.max_le.mpr ⟨oPl_dq _, ih⟩
  omega
theorem oPls_sz {m : Nat} (L : List (List Nat × W)) (h : ∀ q ∈ L, q.1.length ≤ m) : (oPls L).sz ≤ (m + 1) * L.length + 1 := by
  show O.szs (L.map fun q => oPl q.1) + 1 ≤ _
  have : O.szs (L.map fun q => oPl q.1) ≤ (m + 1) * L.length := by
    induction L with
    | nil => exact Nat.zero_le _
    | cons a r ih =>
      have h1 := h a (List.mem_cons_self ..)
      have h2 := ih fun q hq => h q (List.mem_cons_of_mem _ hq)
      have h3 : (oPl a.1).sz = a.1.length + 1 := by
        show O.szs (a.1.map fun i : Nat => O.int (i : Nat)) + 1 = _
        rw [nums_sz]
      show (oPl a.1).sz + O.szs (r.map _) ≤ (m + 1) * (r.length + 1)
      rw [h3, Nat.mul_add]
      omega
  omega
theorem Dz.pls {z : W} (h : Dz z) : (oPls z.parts).sz ≤ 40000 := by
  have h1 := oPls_sz (m := 12) z.parts fun q hq => by
    have := W.parts_deep z q hq
    have := h.dp
    omega
  have h2 := W.parts_nd z
  have h3 := h.nd
  rw [h2] at h1
  omega
theorem pl_ov {B : Addr → Prop} {H : Hp} : ∀ {xs : List V} {L : List (List Nat × W)}, A2 (PlV B H) xs (L.map (·.1)) → OVs H xs (L.map fun q => oPl q.1)
  | [], [], _ => rfl
  | x :: xs, q :: L, ⟨h, k⟩ => by
    obtain ⟨l, rfl, _, hl⟩ := h
    exact .cons ⟨l, _, rfl, hl, nums_ov q.1⟩ (pl_ov k)
  | [], _ :: _, h => nomatch h
  | _ :: _, [], h => nomatch h
section
variable {K : PySem.W.Frag} {σ : L2.St} {H : Hp} {te : TE} {o : O}
theorem strip_o : ∀ z : W, z.o.strip = z.o := by
  have key : ∀ n : Nat, ∀ z : W, z.sz ≤ n → z.o.strip = z.o := by
    intro n
    induction n with
    | zero => intro z h; cases z <;> simp [W.sz] at h
    | succ n ih =>
      intro z h
      cases z with
      | v s => rfl
      | n s as =>
        have hs : W.szs as + 2 ≤ n + 1 := h
        have : ∀ l : List W, W.szs l ≤ n → O.strips (W.os l) = W.os l := by
          intro l
          induction l with
          | nil => intro _; rfl
          | cons a r ih2 =>
            intro h
            have h : a.sz + W.szs r ≤ n := h
            show a.o.strip :: O.strips (W.os r) = a.o :: W.os r
            rw [ih a (by omega), ih2 (by omega)]
        show O.tup (.str s :: O.strips (W.os as)) = .tup (.str s :: W.os as)
        rw [this as (by omega)]
  exact fun z => key _ z (Nat.le_refl _)
theorem Dz.lwo {z : W} (h : Dz z) {v : V} (k : WV H v z) : Lw H v z := h.lw k (strip_o z)
/-- places(..) -/
theorem evd_places {E : L2.St → XK} {i : Nat} {v : V} {z : W} (h : σ[i]? = some (some v)) (hw : Lw H v z) : EvP (tCallS (spP1 K tPlaces) E (tCons (tVar i) tNil)) σ H (fun x G => OV G x (oPls z.parts)) := fun H1 e Q q =>
  ev_var h H1 e _ fun H2 e2 => ⟨v, rfl, .inl ⟨z, hw.ext (e.trans e2), fun p xs G hp e3 h3 hA => q (.ref p) G (e2.trans e3) ⟨p, xs, rfl, h3, pl_ov hA⟩⟩⟩
/-- [place for place, deep in parts] -/
theorem evd_comp {B : Addr → Prop} {i j1 j2 : Nat} {pp : Addr} {ps : List V} {L : List (List Nat × W)} (h : σ[i]? = some (some (.ref pp))) (hp : H pp = some (.lst ps)) (hA : A2 (PaV B H) ps L) (hl : ps.length ≤ 1000) (hj : ∀ a b, wipe (((wipe σ [j1, j2]).set j1 (some a)).set j2 (some b)) [j1, j2] = wipe σ [j1, j2])
    (hj2 : ∀ a b, (((wipe σ [j1, j2]).set j1 (some a)).set j2 (some b))[j1]? = some (some a)) :
    EvP (tLc (iList K (tVar i)) (gPair K j1 j2) tYes (tVar j1) [j1, j2]) σ H (fun x G => ∃ a xs, x = .ref a ∧ G a = some (.lst xs) ∧ OVs G xs (L.map fun q => oPl q.1)) := fun H1 e Q q =>
  ⟨.ref pp, h, pp, rfl, ⟨ps, sq_of (e _ _ hp)⟩, fun Dl hD => by
    have e02 := e
    have hpl := hA.length
    refine lc_list (xs := ps) (Cw H1 (fun _ => true) (fun i => ((ps[i]?).bind fun x => match x with
      | .ref t => match H t with
        | some (.tup (a :: _)) => some a
        | _ => none
      | _ => none).getD .non) Dl) ⟨hD, Ex.new hD, upd_same⟩ (fun i' H' _ p => sq_of (p.2.1 pp _ (e02 _ _ hp))) (fun i v G hi c => ?_) (fun G c => ?_)
    · obtain ⟨q5, hq5, t5, l5, u5, rfl, k1, k2, k3, k5⟩ := hA.get hi
      refine ⟨t5, _, rfl, st_of (c.2.1 _ _ (e02 _ _ k1)), rfl, _, _, rfl, _, _, rfl, rfl, hj _ _, cw_turn c (by have := (List.getElem?_eq_some_iff.mp hi).1; omega) et_yes fun _ => ?_⟩
      rw [hi]
      simp only [Option.bind_some, k1, Option.getD_some]
      exact ev_var (hj2 _ _)
    · refine q (.ref Dl) G c.2.1 ⟨Dl, _, rfl, c.2.2, ?_⟩
      have e0G := (e02.trans c.2.1)
      have key : ∀ n, n ≤ ps.length → OVs G (given n (fun _ => true) (fun i => ((ps[i]?).bind fun x => match x with
        | .ref t => match H t with
          | some (.tup (a :: _)) => some a
          | _ => none
        | _ => none).getD .non)) ((L.take n).map fun q => oPl q.1) := by
        intro n
        induction n with
        | zero => intro _; simp [given]; rfl
        | succ n ih =>
          intro hn
          obtain ⟨x, hx⟩ : ∃ x, ps[n]? = some x := ⟨ps[n], by simp⟩
          obtain ⟨q5, hq5, t5, l5, u5, rfl, k1, k2, k3, k5⟩ := hA.get hx
          rw [given_yes rfl, take_snoc hq5, List.map_append]
          refine OVs.append (ih (by omega)) (.cons ?_ .nil)
          rw [hx]
          simp only [Option.bind_some, k1, Option.getD_some]
          exact ⟨l5, _, rfl, e0G _ _ k3, nums_ov q5.1⟩
      have := key ps.length (Nat.le_refl _)
      rw [hpl, List.take_length] at this
      rw [hpl]
      exact this⟩
end
end K23

set_option Elab.async false
set_option linter.all false
set_option maxRecDepth 100000
set_option maxHeartbeats 4000000
/-! The law's walk over one word: to the places. -/
namespace K23
open PySem PySem.Spec PyProof.Rows L2 Evl LamX
abbrev nWr : List Str := ["_law_stream", "_law_word", "_law_part", "_law_parts", "_law_was", "_law_told", "_law_place", "_law_deep", "_law_asked", "_law_found", "_law_some", "_law_odds", "_law_handed", "_law_odd"]
theorem sc_wr : FnScope nWr ["_law_stream", "_law_word", "_law_part"] (defScope s__law_word_right) := ⟨rfl, rfl, rfl, by decide +kernel, rfl, by decide +kernel, by decide +kernel⟩
abbrev XW (P : Program) (w : World) (K : PySem.W.Frag) (mg : Str → Option Value) (base : Heap) (f c : Addr) (A : Around) (outer : List Env) (s : Shared) (H : Hp) : Cx := (cxOf CX0 P w K mg base nWr "_law_word_right" (defScope s__law_word_right) f (.ref c) A outer s H E0).nox
def stW (i : Nat) : Stmt := (defBody s__law_word_right).getD i (.Pass ⟨0, 0, 0, 0⟩)
section
variable {P : Program} {w : World} {K : PySem.W.Frag} {mg : Str → Option Value} {base : Heap} {f c : Addr} {A : Around} {outer : List Env} {s : Shared} {HX : Hp}
theorem wb1 (T : T23 P w K mg base) (hr : Room 40 (XW P w K mg base f c A outer s HX).A) : ∃ t, PS (XW P w K mg base f c A outer s HX) (stW 0) t ∧
    ∀ (D : Ends) (H : Hp) (p q : Addr) (n : Int) (u v : V) (z y : W), Spr H p q n → n + (z.nd : Nat) ≤ 90000 → Tabs (tabT K) H → WV H u z → WV H v y → Dz z → Dw 2 y →
      (∀ (Hb : Hp) (pp : Addr) (r : V) (ps : List V) (o : O) (n' : Int), SW (tabT K) H Hb p q n' Hb → n' ≤ n + (z.nd : Nat) → Kw H Hb u v r pp ps z y o → D.nx [some (.ref p), some u, some v, some (.ref pp), none, none, none, none, none, none, none, none, some r, none] Hb) →
      t D (L2.start nWr [.ref p, u, v]) H := by
  obtain ⟨fL, dL, GL, bL, kL, mL⟩ := (ok_d_loose T 12).ex
  obtain ⟨fD, dD, GD, bD, kD, mD⟩ := (ok_d_parts T 12).ex
  refine ⟨_, ps_asg (pe_tup (pa_cons (pe_call GL (hr.mono (by decide)) (by rfl) mL kL bL .nil pass0 (pa_cons (pv 0) (pa_cons (pv 1) pa_nil))) (pa_cons (pe_call GD (hr.mono (by decide)) (by rfl) mD kD bD .nil pass0 (pa_cons (pv 1) pa_nil)) pa_nil)))
    (pg_tup rfl (pgs_cons (pg_name (i := 12) sc_wr.nd rfl (Or.inr rfl)) (pgs_cons (pg_name (i := 3) sc_wr.nd rfl (Or.inl rfl)) pgs_nil))), ?_⟩
  intro D H p q n u v z y S hn hT hu hv dz dy k
  have hsz : z.sz ≤ 1000 := by have := W.sz_nd z; have := dz.nd; omega
  refine ⟨_, rfl, _, rfl, p, q, u, n, z, rfl, S, hn, hu, dz.dp, by decide, hsz, fun r G n1 o SG hn1 B hov hst => ?_⟩
  have tx1 := S.tx B
  refine ⟨_, rfl, u, z, rfl, hu.tx tx1, dz.dp, by decide, hsz, fun pp xs G2 hpp e2 h2 hA => ?_⟩
  refine ⟨by show 2 ≤ sizeLine; decide, fun t ht => ?_⟩
  have x3 : Ex G2 (upd G2 t (.tup [r, .ref pp])) := Ex.new ht
  have e3 := e2.trans x3
  refine ⟨t, _, rfl, st_of upd_same, rfl, _, _, rfl, _, _, rfl, rfl, ?_⟩
  have hS : SW (tabT K) H G p q n1 G := ⟨SG, Go.refl, tabs_but hT B S, S.old.1, S.old.2, fun b h => Old.but B SG h⟩
  obtain ⟨oP, oQ⟩ := S.old
  refine k _ pp r xs o n1 ⟨SG.ext e3, Go.refl, (tabs_but hT B S).ext e3, oP, oQ, fun b h => Old.ex e3 (Old.but B SG h)⟩ hn1
    ⟨(hu.tx tx1).ext e3, (hv.tx tx1).ext e3, hov.ext (Go.of e3).ex, hst, dz, dy, x3 _ _ h2, B.back SG hpp, hA.mono fun a b h => h.mut (Tx.of x3) (fun c x e1 e => x3 _ _ e) fun c e => B.back SG e.1⟩
theorem wb2 (T : T23 P w K mg base) (hr : Room 40 (XW P w K mg base f c A outer s HX).A) (hg : (XW P w K mg base f c A outer s HX).A.guards = some []) : ∃ t, PS (XW P w K mg base f c A outer s HX) (stW 1) t ∧
    ∀ (D : Ends) (G : Hp) (c0 c1 c2 c3 c4 c5 c6 c7 c8 c9 c10 c11 c13 : Option V) (r : V) (z : W) (o : O), OV G r o → o.strip = z.o → Dz z →
      (∀ (G' : Hp) (p2 : Addr) (xs : List V), Ex G G' → G p2 = none → G' p2 = some (.lst xs) → A2 (PlV (fun l => G l = none ∧ l ≠ p2) G') xs (plc z) → D.nx [c0, c1, c2, c3, some (.str o.py.shown), some (.ref p2), c6, c7, c8, c9, c10, c11, some r, c13] G') →
      t D [c0, c1, c2, c3, c4, c5, c6, c7, c8, c9, c10, c11, some r, c13] G := by
  obtain ⟨fP, dP, GP, bP, kP, mP⟩ := (ok_places T).ex
  have hu := hr.un
  refine ⟨_, ps_par (i := 4) (j := 5) rfl sc_wr.nd rfl rfl (by decide) rfl rfl (pa_cons (pe_callB (call_repr hg (by omega)) (by rfl) T.repr PyProof.Rows.boot_repr (pa_cons (pv 12) pa_nil)) (pa_cons (pe_callS (sp := spP1 K tPlaces) GP (hr.mono (by decide)) (by rfl) mP kP bP (fun σ => passAt L2.takes0 σ) (pa_cons (pv 12) pa_nil)) pa_nil)) (by rfl), ?_⟩
  intro D G c0 c1 c2 c3 c4 c5 c6 c7 c8 c9 c10 c11 c13 r z o hov hst dz k
  refine ev_repr (σ := [c0, c1, c2, c3, c4, c5, c6, c7, c8, c9, c10, c11, some r, c13]) (ev_var (i := 12) rfl) hov hst dz G (Ex.refl G) _ fun G1 e1 => ?_
  refine ⟨r, rfl, r, rfl, .inl ⟨z, dz.lw (hov.ext e1) hst, fun p2 xs G2 hp2 e2 h2 hA => ⟨_, _, rfl, ?_⟩⟩⟩
  exact k G2 p2 xs (e1.trans e2) (fresh_back e1 hp2) h2 (hA.mono fun a b h => h.mut (fun _ _ _ h => h) fun c q => ⟨fresh_back e1 q.1, q.2⟩)
abbrev tCompP (K : PySem.W.Frag) : TE := tLc (iList K (tVar 3)) (gPair K 6 7) tYes (tVar 6) [6, 7]
theorem evd_compP {B : Addr → Prop} {c0 c1 c2 c4 c5 c6 c7 c8 c9 c10 c11 c12 c13 : Option V} {H : Hp} {pp : Addr} {ps : List V} {L : List (List Nat × W)} (hp : H pp = some (.lst ps)) (hA : A2 (PaV B H) ps L) (hl : ps.length ≤ 1000) : EvD (tCompP K) [c0, c1, c2, some (.ref pp), c4, c5, c6, c7, c8, c9, c10, c11, c12, c13] H (oPls L) := fun H1 e Q q =>
  evd_comp (i := 3) (j1 := 6) (j2 := 7) rfl hp hA hl (fun _ _ => rfl) (fun _ _ => rfl) H1 e Q fun x G e2 ⟨a, xs, h1, h2, h3⟩ => q x G e2 ⟨a, xs, h1, h2, h3⟩
theorem wb3 (T : T23 P w K mg base) (hr : Room 40 (XW P w K mg base f c A outer s HX).A) : ∃ t, PS (XW P w K mg base f c A outer s HX) (stW 2) t ∧
    ∀ (D : Ends) (G : Hp) (c0 c1 c2 c4 c6 c7 c8 c9 c10 c11 c12 c13 : Option V) (pp p2 : Addr) (xs ps : List V) (z : W) (B B2 : Addr → Prop), Dz z → G p2 = some (.lst xs) → A2 (PlV B G) xs (plc z) → G pp = some (.lst ps) → A2 (PaV B2 G) ps z.parts →
      (∀ G', Ex G G' → D.nx [c0, c1, c2, some (.ref pp), c4, some (.ref p2), c6, c7, c8, c9, c10, c11, c12, c13] G') →
      t D [c0, c1, c2, some (.ref pp), c4, some (.ref p2), c6, c7, c8, c9, c10, c11, c12, c13] G := by
  obtain ⟨fS, dS, GS, bS, kS, mS⟩ := (ok_same T 3).ex
  refine ⟨_, ps_if (pt_not (pt_val (pe_call GS (hr.mono (by decide)) (by rfl) mS kS bS .nil pass0 (pa_cons (pv 5) (pa_cons (pe_lc (own := [("_law_place", 6), ("_law_deep", 7)]) (g := gPair K 6 7) (tt := tYes) (te := tVar 6) rfl sc_wr.nd (pi_list (pv 3)) (blkOk_by (N := nWr) (sc := defScope s__law_word_right) (by decide +kernel))
    (fun _ _ _ _ _ => pg_tup rfl (pgs_cons (pg_name (i := 6) sc_wr.nd rfl (Or.inl rfl)) (pgs_cons (pg_name (i := 7) sc_wr.nd rfl (Or.inl rfl)) pgs_nil))) (fun _ _ _ _ _ => pts_nil) (fun _ _ _ _ _ => pv 6)) pa_nil))))) (pss_one ps_never) pss_nil, ?_⟩
  intro D G c0 c1 c2 c4 c6 c7 c8 c9 c10 c11 c12 c13 pp p2 xs ps z B B2 dz h2 hA hp hP k
  have hlen : ps.length ≤ 1000 := by
    have := hP.length
    have := W.parts_nd z
    have := dz.nd
    omega
  exact s_same (o := oPls z.parts) (evd_var (i := 5) rfl ⟨p2, xs, rfl, h2, pl_ov hA⟩) (evd_compP hp hP hlen) (by have := oPls_dq z.parts; omega) (by decide) dz.pls k
theorem wb4 (T : T23 P w K mg base) : ∃ t, PS (XW P w K mg base f c A outer s HX) (stW 3) t ∧
    ∀ (D : Ends) (G0 G : Hp) (c0 c1 c2 c3 c4 c6 c7 c8 c9 c10 c11 c12 c13 : Option V) (p2 : Addr) (xs : List V) (L : List (List Nat)), Ex G0 G → G0 p2 = none → G p2 = some (.lst xs) → A2 (PlV (fun l => G0 l = none ∧ l ≠ p2) G) xs L → (∀ q ∈ L, q.length ≤ 50) → xs.length ≤ 1000 →
      (∀ G' c6', Ex G0 G' → G' p2 = some (.lst xs) → D.nx [c0, c1, c2, c3, c4, some (.ref p2), c6', c7, c8, c9, c10, c11, c12, c13] G') →
      t D [c0, c1, c2, c3, c4, some (.ref p2), c6, c7, c8, c9, c10, c11, c12, c13] G := by
  refine ⟨_, ps_for PassesOwn.never rfl (pi_list (pv 5)) (pg_name (i := 6) sc_wr.nd rfl (Or.inl rfl)) (pss_one (ps_expr (pe_bm PySem.F.plainAttrs_list PySem.F.slot_list_append PySem.F.type_list_append mt_append (pv 6) (pa_cons pe_str pa_nil)))), ?_⟩
  intro D G0 G c0 c1 c2 c3 c4 c6 c7 c8 c9 c10 c11 c12 c13 p2 xs L e0 n2 h2 hA hL hx k
  refine q_forL (K := K) (D := D) (tz := fun D => D.nx) (g := gName 6) (a := p2) (xs := xs) (tl := tVar 5) (ev_var rfl) (sq_of h2) (fun i σ' G' => Ex G0 G' ∧ G' p2 = some (.lst xs) ∧ (∃ c6', σ' = [c0, c1, c2, c3, c4, some (.ref p2), c6', c7, c8, c9, c10, c11, c12, c13]) ∧ ∀ x ∈ xs, ∃ l ws, x = .ref l ∧ G0 l = none ∧ l ≠ p2 ∧ G' l = some (.lst ws) ∧ ws.length ≤ 50 + i) ?_ ?_ ?_ ?_
  · intro G1 e1
    refine ⟨e0.trans e1, e1 _ _ h2, ⟨_, rfl⟩, fun x hx => ?_⟩
    obtain ⟨i, hi⟩ := List.getElem?_of_mem hx
    obtain ⟨pl, hpl, l, rfl, ⟨b1, b2⟩, b3⟩ := hA.get hi
    exact ⟨l, _, rfl, b1, b2, e1 _ _ b3, by rw [nums_len]; have := hL pl (List.mem_of_getElem? hpl); omega⟩
  · rintro i σ' G' hi ⟨_, h, _⟩
    exact sq_of h
  · rintro i x σ' G' hi ⟨e, h, ⟨c6', rfl⟩, hall⟩
    obtain ⟨l, ws, rfl, b1, b2, b3, b4⟩ := hall x (List.mem_of_getElem? hi)
    have hil := (List.getElem?_eq_some_iff.mp hi).1
    refine s_app b3 (ev_var rfl) ev_c (by omega) fun G2 e2 => ?_
    refine ⟨Ex.mut (e.trans e2) b1, by rw [upd_ne (Ne.symm b2)]; exact e2 _ _ h, ⟨_, rfl⟩, fun x2 hx2 => ?_⟩
    obtain ⟨l2, ws2, rfl, d1, d2, d3, d4⟩ := hall x2 hx2
    by_cases hll : l2 = l
    · subst hll
      rw [b3] at d3
      cases d3
      exact ⟨l2, _, rfl, d1, d2, upd_same, by simp; omega⟩
    · exact ⟨l2, ws2, rfl, d1, d2, by rw [upd_ne hll]; exact e2 _ _ d3, by omega⟩
  · rintro σ' G' ⟨e, h, ⟨c6', rfl⟩, _⟩
    exact k G' c6' e h
theorem wb5 (T : T23 P w K mg base) : ∃ t, PS (XW P w K mg base f c A outer s HX) (stW 4) t ∧
    ∀ (D : Ends) (G0 G : Hp) (c0 c1 c2 c3 c4 c6 c7 c8 c9 c10 c11 c12 c13 : Option V) (p2 : Addr) (xs : List V), Ex G0 G → G0 p2 = none → G p2 = some (.lst xs) → xs.length ≤ 1000 →
      (∀ G', Ex G0 G' → D.nx [c0, c1, c2, c3, c4, some (.ref p2), c6, c7, c8, c9, c10, c11, c12, c13] G') →
      t D [c0, c1, c2, c3, c4, some (.ref p2), c6, c7, c8, c9, c10, c11, c12, c13] G := by
  refine ⟨_, ps_expr (pe_bm PySem.F.plainAttrs_list PySem.F.slot_list_append PySem.F.type_list_append mt_append (pv 5) (pa_cons pe_str pa_nil)), ?_⟩
  intro D G0 G c0 c1 c2 c3 c4 c6 c7 c8 c9 c10 c11 c12 c13 p2 xs e0 n2 h2 hx k
  exact s_app h2 (ev_var rfl) ev_c (by omega) fun G2 e2 => k _ (Ex.mut (e0.trans e2) n2)
theorem wb6 (T : T23 P w K mg base) (hr : Room 40 (XW P w K mg base f c A outer s HX).A) : ∃ t, PS (XW P w K mg base f c A outer s HX) (stW 5) t ∧
    ∀ (D : Ends) (G : Hp) (c0 c2 c4 c5 c6 c7 c8 c9 c10 c11 c12 c13 : Option V) (u : V) (pp : Addr) (ps : List V) (z : W) (B2 : Addr → Prop), Dz z → WV G u z → G pp = some (.lst ps) → A2 (PaV B2 G) ps z.parts →
      (∀ G', Ex G G' → D.nx [c0, some u, c2, some (.ref pp), c4, c5, c6, c7, c8, c9, c10, c11, c12, c13] G') →
      t D [c0, some u, c2, some (.ref pp), c4, c5, c6, c7, c8, c9, c10, c11, c12, c13] G := by
  obtain ⟨fS, dS, GS, bS, kS, mS⟩ := (ok_same T 3).ex
  obtain ⟨fP, dP, GP, bP, kP, mP⟩ := (ok_places T).ex
  refine ⟨_, ps_if (pt_not (pt_val (pe_call GS (hr.mono (by decide)) (by rfl) mS kS bS .nil pass0 (pa_cons (pe_callS (sp := spP1 K tPlaces) GP (hr.mono (by decide)) (by rfl) mP kP bP (fun σ => passAt L2.takes0 σ) (pa_cons (pv 1) pa_nil)) (pa_cons (pe_lc (own := [("_law_place", 6), ("_law_deep", 7)]) (g := gPair K 6 7) (tt := tYes) (te := tVar 6) rfl sc_wr.nd (pi_list (pv 3)) (blkOk_by (N := nWr) (sc := defScope s__law_word_right) (by decide +kernel))
    (fun _ _ _ _ _ => pg_tup rfl (pgs_cons (pg_name (i := 6) sc_wr.nd rfl (Or.inl rfl)) (pgs_cons (pg_name (i := 7) sc_wr.nd rfl (Or.inl rfl)) pgs_nil))) (fun _ _ _ _ _ => pts_nil) (fun _ _ _ _ _ => pv 6)) pa_nil))))) (pss_one ps_never) pss_nil, ?_⟩
  intro D G c0 c2 c4 c5 c6 c7 c8 c9 c10 c11 c12 c13 u pp ps z B2 dz hu hp hP k
  have hlen : ps.length ≤ 1000 := by
    have := hP.length
    have := W.parts_nd z
    have := dz.nd
    omega
  exact s_same (o := oPls z.parts) (evd_places (i := 1) rfl (dz.lwo hu)) (evd_compP hp hP hlen) (by have := oPls_dq z.parts; omega) (by decide) dz.pls k
end
end K23

set_option Elab.async false
set_option linter.all false
set_option maxRecDepth 100000
set_option maxHeartbeats 4000000
/-! The law's walk over one word: each place asked. -/
namespace K23
open PySem PySem.Spec PyProof.Rows L2 Evl LamX
mutual
theorem W.parts_at : ∀ (w : W) (q : List Nat × W), q ∈ w.parts → w.at q.1 = some q.2
  | .v s, q, h => by
    obtain rfl : q = _ := by simpa [W.parts] using h
    rfl
  | .n s as, q, h => by
    rcases List.mem_cons.mp h with rfl | h
    · rfl
    · obtain ⟨i, x, p, e1, e2, e3⟩ := W.partsL_at 0 as q h
      rw [Nat.zero_add] at e2
      rw [e2]
      show (match as[i]? with | some x => x.at p | none => none) = _
      rw [e1]
      exact e3
theorem W.partsL_at : ∀ (j : Nat) (as : List W) (q : List Nat × W), q ∈ W.partsL j as → ∃ i x p, as[i]? = some x ∧ q.1 = (j + i) :: p ∧ x.at p = some q.2
  | _, [], q, h => nomatch h
  | j, a :: r, q, h => by
    rcases List.mem_append.mp h with h | h
    · obtain ⟨q2, hq, rfl⟩ := List.mem_map.mp h
      exact ⟨0, a, q2.1, rfl, rfl, W.parts_at a q2 hq⟩
    · obtain ⟨i, x, p, e1, e2, e3⟩ := W.partsL_at (j + 1) r q h
      exact ⟨i + 1, x, p, by simpa using e1, by rw [e2]; congr 1; omega, e3⟩
end
theorem W.at_le : ∀ (p : List Nat) {z x : W}, z.at p = some x → x.dp ≤ z.dp ∧ x.sz ≤ z.sz ∧ x.nd ≤ z.nd
  | [], z, x, h => by
    have h : some z = some x := by cases z <;> exact h
    obtain rfl := Option.some.inj h
    exact ⟨Nat.le_refl _, Nat.le_refl _, Nat.le_refl _⟩
  | i :: p, .v s, x, h => nomatch h
  | i :: p, .n s as, x, h => by
    have h : (match as[i]? with | some x => x.at p | none => none) = some x := h
    cases e : as[i]? with
    | none => rw [e] at h; cases h
    | some a =>
      rw [e] at h
      obtain ⟨h1, h2, h3⟩ := W.at_le p h
      have k1 := W.lt_dp e
      have k2 := W.lt_sz e
      have k3 : a.nd ≤ W.nds as := by
        have := nds_take e
        have := nds_take_le as (i + 1)
        omega
      refine ⟨?_, ?_, ?_⟩
      · show _ ≤ W.dps as + 1; omega
      · show _ ≤ W.szs as + 2; omega
      · show _ ≤ W.nds as + 1; omega
theorem dps_set : ∀ (as : List W) (i : Nat) (x : W), W.dps (as.set i x) ≤ max (W.dps as) x.dp
  | [], _, _ => Nat.zero_le _
  | a :: r, 0, x => by show max x.dp (W.dps r) ≤ max (max a.dp (W.dps r)) x.dp; omega
  | a :: r, i + 1, x => by
    have := dps_set r i x
    show max a.dp (W.dps (r.set i x)) ≤ max (max a.dp (W.dps r)) x.dp
    omega
theorem szs_set : ∀ (as : List W) (i : Nat) (a x : W), as[i]? = some a → W.szs (as.set i x) + a.sz = W.szs as + x.sz
  | [], _, _, _, h => by simp at h
  | b :: r, 0, a, x, h => by
    obtain rfl : b = a := by simpa using h
    show x.sz + W.szs r + b.sz = b.sz + W.szs r + x.sz
    omega
  | b :: r, i + 1, a, x, h => by
    have := szs_set r i a x (by simpa using h)
    show b.sz + W.szs (r.set i x) + a.sz = b.sz + W.szs r + x.sz
    omega
theorem W.put_le : ∀ (p : List Nat) (z y : W), (z.put p y).dp ≤ z.dp + y.dp ∧ (z.put p y).sz ≤ z.sz + y.sz
  | [], z, y => by
    have : z.put [] y = y := by cases z <;> rfl
    rw [this]
    exact ⟨Nat.le_add_left _ _, Nat.le_add_left _ _⟩
  | i :: p, .v s, y => ⟨Nat.zero_le _, by show 1 ≤ 1 + y.sz; omega⟩
  | i :: p, .n s as, y => by
    cases e : as[i]? with
    | none =>
      have e4 : (W.n s as).put (i :: p) y = .n s as := by
        show (match as[i]? with | some x => W.n s (as.set i (x.put p y)) | none => .n s as) = _
        rw [e]
      rw [e4]
      exact ⟨Nat.le_add_right _ _, Nat.le_add_right _ _⟩
    | some a =>
      have e4 : (W.n s as).put (i :: p) y = .n s (as.set i (a.put p y)) := by
        show (match as[i]? with | some x => W.n s (as.set i (x.put p y)) | none => .n s as) = _
        rw [e]
      rw [e4]
      obtain ⟨h1, h2⟩ := W.put_le p a y
      have k1 := W.lt_dp e
      have k2 := dps_set as i (a.put p y)
      have k3 := szs_set as i a (a.put p y) e
      refine ⟨?_, ?_⟩
      · show W.dps (as.set i (a.put p y)) + 1 ≤ W.dps as + 1 + y.dp; omega
      · show W.szs (as.set i (a.put p y)) + 2 ≤ W.szs as + 2 + y.sz; omega
mutual
theorem W.odq : ∀ w : W, w.o.dq = w.dp
  | .v _ => rfl
  | .n _ as => by show max 0 (O.dqs (W.os as)) + 1 = W.dps as + 1; rw [W.odqs as]; omega
theorem W.odqs : ∀ ws : List W, O.dqs (W.os ws) = W.dps ws
  | [] => rfl
  | x :: xs => by show max x.o.dq (O.dqs (W.os xs)) = max x.dp (W.dps xs); rw [W.odq x, W.odqs xs]
end
section
variable {K : PySem.W.Frag} {σ : L2.St} {H : Hp} {t1 t2 te : TE} {o1 o2 : O}
theorem evd_lst2 (h1 : EvD t1 σ H o1) (h2 : EvD t2 σ H o2) : EvD (tLst (tCons t1 (tCons t2 tNil))) σ H (.lst [o1, o2]) := fun H1 e Q q =>
  h1 H1 e _ fun x H2 e2 hx => h2 H2 (e.trans e2) _ fun y H3 e3 hy => ⟨by show 2 ≤ sizeLine; decide, fun p hp => by
    have x4 : Ex H3 (upd H3 p (.lst [x, y])) := Ex.new hp
    exact q (.ref p) _ ((e2.trans e3).trans x4) ⟨p, _, rfl, upd_same, .cons (hx.ext (e3.trans x4)) (.cons (hy.ext x4) .nil)⟩⟩
theorem evd_lx {m i1 i2 i3 : Nat} {u v : V} {l : Addr} {p : List Nat} {z y : W} (s1 : σ[i1]? = some (some u)) (s2 : σ[i2]? = some (some (.ref l))) (s3 : σ[i3]? = some (some v)) (hu : WV H u z) (hl : H l = some (.lst (nums p))) (hv : WV H v y) (hp : p.length < m) (hm : m ≤ 40) (hs : z.sz ≤ 1000) (ha : (z.at p).isSome = true) :
    EvD (tCall (spLx m) [] E0 (tCons (tVar i1) (tCons (tVar i2) (tCons (tVar i3) tNil)))) σ H (z.put p y).o := fun H1 e Q q =>
  ⟨u, s1, .ref l, s2, v, s3, u, v, l, z, y, p, rfl, hu.ext e, e _ _ hl, hv.ext e, hp, hm, hs, ha, fun r G e2 hr => q r G e2 hr⟩
end
section
variable {P : Program} {w : World} {K : PySem.W.Frag} {mg : Str → Option Value} {base : Heap} {f c : Addr} {A : Around} {outer : List Env} {s : Shared} {HX : Hp}
theorem wb7 (T : T23 P w K mg base) (hr : Room 40 (XW P w K mg base f c A outer s HX).A) : ∃ t, PS (XW P w K mg base f c A outer s HX) (stW 6) t ∧
    ∀ (D : Ends) (H0 Hb G : Hp) (c4 c5 c6 c7 c8 c9 c10 c11 c13 : Option V) (p q pp : Addr) (u v r : V) (ps : List V) (z y : W) (o : O) (n : Int), Kw H0 Hb u v r pp ps z y o → SW (tabT K) H0 Hb p q n G → n ≤ 70000 →
      (∀ G' c6' c7' c8' c9' n', SW (tabT K) H0 Hb p q n' G' → n' ≤ n + 14 * (z.nd : Nat) → D.nx [some (.ref p), some u, some v, some (.ref pp), c4, c5, c6', c7', c8', c9', c10, c11, some r, c13] G') →
      t D [some (.ref p), some u, some v, some (.ref pp), c4, c5, c6, c7, c8, c9, c10, c11, some r, c13] G := by
  obtain ⟨fS, dS, GS, bS, kS, mS⟩ := (ok_same T 24).ex
  obtain ⟨fD, dD, GD, bD, kD, mD⟩ := (ok_dr T).ex
  obtain ⟨fL, dL, GL, bL, kL, mL⟩ := (ok_d_loose T 12).ex
  obtain ⟨fA, dA, GA, bA, kA, mA⟩ := (ok_word_at T).ex
  obtain ⟨fU, dU, GU, bU, kU, mU⟩ := (ok_word_put T).ex
  obtain ⟨fX, dX, GX, bX, kX, mX⟩ := (ok_law_ex T 13).ex
  refine ⟨_, ps_for PassesOwn.never rfl (pi_list (pv 3)) (pg_tup rfl (pgs_cons (pg_name (i := 6) sc_wr.nd rfl (Or.inl rfl)) (pgs_cons (pg_name (i := 7) sc_wr.nd rfl (Or.inl rfl)) pgs_nil)))
    (pss_cons (ps_set (i := 8) sc_wr.nd rfl (Or.inl rfl) (pe_ifExp (pt_cmpR op_eq (pe_call GD (hr.mono (by decide)) (by rfl) mD kD bD .nil pass0 (pa_cons (pv 0) (pa_cons pe_int pa_nil))) pe_int (nomark _)) (pe_callTy call_tuple_of (by rfl) T.tuple PyProof.Rows.boot_tuple (pa_cons (pv 6) pa_nil)) (pv 6)))
    (pss_cons (ps_set (i := 9) sc_wr.nd rfl (Or.inl rfl) (pe_lst (pa_cons (pe_callS (sp := spWa K) GA (hr.mono (by decide)) (by rfl) mA kA bA (fun σ => passAt L2.takes0 σ) (pa_cons (pv 12) (pa_cons (pv 8) pa_nil)))
      (pa_cons (pe_callS (sp := spWu K) GU (hr.mono (by decide)) (by rfl) mU kU bU (fun σ => passAt L2.takes0 σ) (pa_cons (pv 12) (pa_cons (pv 8) (pa_cons (pe_call GL (hr.mono (by decide)) (by rfl) mL kL bL .nil pass0 (pa_cons (pv 0) (pa_cons (pv 2) pa_nil))) pa_nil)))) pa_nil))))
    (pss_one (ps_if (pt_not (pt_val (pe_call GS (hr.mono (by decide)) (by rfl) mS kS bS .nil pass0 (pa_cons (pv 9) (pa_cons (pe_lst (pa_cons (pv 7) (pa_cons (pe_call GX (hr.mono (by decide)) (by rfl) mX kX bX .nil pass0 (pa_cons (pv 1) (pa_cons (pv 6) (pa_cons (pv 2) pa_nil)))) pa_nil))) pa_nil))))) (pss_one ps_never) pss_nil)))), ?_⟩
  intro D H0 Hb G c4 c5 c6 c7 c8 c9 c10 c11 c13 p q pp u v r ps z y o n kw S hn k
  have hpl : ps.length = z.nd := by rw [kw.pa.length, W.parts_nd]
  have dz := kw.dz
  have hnd := dz.nd
  have hzs := W.sz_nd z
  have hys := W.sz_nd y
  have hyn : y.nd ≤ 13 := kw.dy.nd
  have hyd : y.dp ≤ 3 := kw.dy.dp
  have hzd := dz.dp
  have dyz := kw.dy.dz (by decide)
  refine q_forL (K := K) (D := D) (tz := fun D => D.nx) (g := gPair K 6 7) (a := pp) (xs := ps) (tl := tVar 3) (ev_var rfl) (sq_of (kw.gp S)) (fun i σ' G' => (∃ c6' c7' c8' c9', σ' = [some (.ref p), some u, some v, some (.ref pp), c4, c5, c6', c7', c8', c9', c10, c11, some r, c13]) ∧ ∃ n', SW (tabT K) H0 Hb p q n' G' ∧ n' ≤ n + 14 * (i : Nat)) ?_ ?_ ?_ ?_
  · intro G1 e1
    exact ⟨⟨_, _, _, _, rfl⟩, n, S.ext e1, by omega⟩
  · rintro i σ' G' hi ⟨_, n', S', _⟩
    exact sq_of (kw.gp S')
  · rintro i x σ' G' hi ⟨⟨c6', c7', c8', c9', rfl⟩, n', S', hn'⟩
    have hil := (List.getElem?_eq_some_iff.mp hi).1
    obtain ⟨qp, hqp, t5, l5, xd, rfl, k1, k2, k3, k5⟩ := (kw.gpa S').get hi
    have hmem := List.mem_of_getElem? hqp
    have hat := W.parts_at z qp hmem
    have hats : (z.at qp.1).isSome = true := by rw [hat]; rfl
    have hdeep := W.parts_deep z qp hmem
    obtain ⟨hxd, hxs, _⟩ := W.at_le qp.1 hat
    obtain ⟨hpd, hps⟩ := W.put_le qp.1 z y
    refine ⟨t5, _, rfl, st_of k1, rfl, _, _, rfl, _, _, rfl, rfl, ?_⟩
    refine ⟨.ref p, rfl, p, q, n', 2, rfl, S'.spr, by omega, by decide, by decide, fun rr G1 r0 r1 S1 B1 => ⟨rfl, _, rfl, ?_⟩⟩
    have SW1 := S'.but B1 S1
    have hl1 : G1 l5 = some (.lst (nums qp.1)) := by
      obtain ⟨qp', hqp', t6, l6, xd6, h6, k16, k26, k36, k56⟩ := (kw.gpa SW1).get hi
      rw [hqp] at hqp'
      obtain rfl := Option.some.inj hqp'
      cases h6
      have := (S'.spr.tx B1) _ _ k1
      rw [this] at k16
      cases k16
      exact k36
    have hxd1 : WV G1 xd qp.2 := k5.tx (S'.spr.tx B1)
    -- what follows once the place asked is known
    have rest : ∀ (a : Addr) (b : Bool) (G2 : Hp), Ex G1 G2 → SqB G2 b a (nums qp.1) → (b = true → ¬ Old H0 a) → tSeq (tAsg (tLst (tCons (tCallS (spWa K) (fun σ => WE (fun _ _ _ _ => False) σ) (tCons (tVar 12) (tCons (tVar 8) tNil))) (tCons (tCallS (spWu K) (fun σ => WE (fun _ _ _ _ => False) σ) (tCons (tVar 12) (tCons (tVar 8) (tCons (tCall (spLo 12) [] E0 (tCons (tVar 0) (tCons (tVar 2) tNil))) tNil)))) tNil))) (gName 9))
        (tIfS (tNot (tB (tSame 24 (tVar 9) (tLst (tCons (tVar 7) (tCons (tCall (spLx 13) [] E0 (tCons (tVar 1) (tCons (tVar 6) (tCons (tVar 2) tNil)))) tNil)))))) (fun _ _ _ => False) tNext)
        { nx := fun σ' G' => (∃ c6' c7' c8' c9', σ' = [some (.ref p), some u, some v, some (.ref pp), c4, c5, c6', c7', c8', c9', c10, c11, some r, c13]) ∧ ∃ n', SW (tabT K) H0 Hb p q n' G' ∧ n' ≤ n + 14 * ((i + 1 : Nat) : Nat), rt := D.rt, bk := D.nx, ct := fun σ' G' => (∃ c6' c7' c8' c9', σ' = [some (.ref p), some u, some v, some (.ref pp), c4, c5, c6', c7', c8', c9', c10, c11, some r, c13]) ∧ ∃ n', SW (tabT K) H0 Hb p q n' G' ∧ n' ≤ n + 14 * ((i + 1 : Nat) : Nat) }
        [some (.ref p), some u, some v, some (.ref pp), c4, c5, some (.ref l5), some xd, some (.ref a), c9', c10, c11, some r, c13] G2 := by
      intro a b G2 e2 ha hold
      have SW2 := SW1.ext e2
      refine ⟨r, rfl, .ref a, rfl, r, .ref a, rfl, .inr ⟨z, kw.lw SW2, .inr ⟨qp.1, qp.2, .yes rfl ha (by omega) hats, hat, fun r1 G3 e3 w3 => ?_⟩⟩⟩
      have SW3 := SW2.ext e3
      refine ⟨r, rfl, .ref a, rfl, .ref p, rfl, v, rfl, p, q, v, n' + 1, y, rfl, SW3.spr, by omega, kw.gv SW3, by omega, by decide, by omega, fun r4 G4 n4 o4 S4 hn4 B4 ov4 st4 => ?_⟩
      have SW4 := SW3.but B4 S4
      have ha4 : SqB G4 b a (nums qp.1) := by
        have ha3 := ha.ext e3
        cases b with
        | true =>
          have : G3 a = some (.lst (nums qp.1)) := ha3
          exact B4 _ _ (fun z => hold rfl (by rw [z]; exact SW3.op)) (fun z => hold rfl (by rw [z]; exact SW3.oq)) this
        | false => exact (SW3.spr.tx B4) _ _ ha3
      refine ⟨r, .ref a, r4, rfl, .inr ⟨z, kw.lw SW4, .inr ⟨qp.1, .yes rfl ha4 (by omega) hats, .inr ⟨y, dyz.lw (ov4.ext hx_ex) st4, kw.dy.eq, fun r5 G5 e5 w5 => ?_⟩⟩⟩⟩
      refine ⟨by show 2 ≤ sizeLine; decide, fun lf hlf => ?_⟩
      have x6 : Ex G5 (upd G5 lf (.lst [r1, r5])) := Ex.new hlf
      have SW5 := SW4.ext (e5.trans x6)
      have w6 : WV (upd G5 lf (.lst [r1, r5])) r1 qp.2 := (w3.tx (SW3.spr.tx B4)).ext (e5.trans x6)
      unfold gName
      dsimp only
      refine s_same (m := 24) (o := .lst [qp.2.o, (z.put qp.1 y).o]) ?_ (evd_lst2 ?_ ?_) ?_ (by decide) ?_ fun G7 e7 => ?_
      · exact evd_var (i := 9) rfl ⟨lf, _, rfl, upd_same, .cons w6 (.cons (w5.ext x6) .nil)⟩
      · exact evd_var (i := 7) rfl (hxd1.tx (((Tx.of (e2.trans e3)).trans (SW3.spr.tx B4)).trans (Tx.of (e5.trans x6))))
      · refine evd_lx (m := 13) (i1 := 1) (i2 := 6) (i3 := 2) rfl rfl rfl (kw.gu SW5) ?_ (kw.gv SW5) (by omega) (by decide) (by omega) hats
        obtain ⟨qp', hqp', t6, l6, xd6, h6, k16, k26, k36, k56⟩ := (kw.gpa SW5).get hi
        rw [hqp] at hqp'
        obtain rfl := Option.some.inj hqp'
        cases h6
        have := (((S'.spr.tx B1).trans (Tx.of (e2.trans e3))).trans (SW3.spr.tx B4)).trans (Tx.of (e5.trans x6)) _ _ k1
        rw [this] at k16
        cases k16
        exact k36
      · show max qp.2.o.dq (max (z.put qp.1 y).o.dq 0) + 1 < 24
        rw [W.odq, W.odq]
        omega
      · show qp.2.o.sz + ((z.put qp.1 y).o.sz + 0) + 1 ≤ 40000
        rw [W.osz, W.osz]
        omega
      · exact ⟨⟨_, _, _, _, rfl⟩, n4, SW5.ext e7, by omega⟩
    dsimp only
    by_cases hb : decide (V.int rr = V.int 0) = true
    · rw [if_pos hb]
      refine ⟨.ref l5, rfl, l5, _, rfl, .inl ⟨sq_of hl1, fun pt hpt => ?_⟩⟩
      exact rest pt false _ (Ex.new hpt) upd_same fun z => nomatch z
    · rw [if_neg hb]
      exact ⟨.ref l5, rfl, rest l5 true G1 (Ex.refl _) hl1 fun _ => not_old k2⟩
  · rintro σ' G' ⟨⟨c6', c7', c8', c9', rfl⟩, n', S', hn'⟩
    exact k G' c6' c7' c8' c9' n' S' (by rw [← hpl]; exact hn')
end
end K23

set_option Elab.async false
set_option linter.all false
set_option maxRecDepth 100000
set_option maxHeartbeats 4000000
/-! The law's walk over one word: what is no place. -/
namespace K23
open PySem PySem.Spec PyProof.Rows L2 Evl LamX
mutual
def W.ar : W → Bool
  | .v _ => true
  | .n _ as => decide (as.length ≤ 6) && W.ars as
def W.ars : List W → Bool
  | [] => true
  | x :: xs => x.ar && W.ars xs
end
mutual
theorem W.ar_of : ∀ w : W, w.o.fit = true → w.ar = true
  | .v _, _ => rfl
  | .n s as, h => by
    have h : (headB (.str s) (W.os as).length && O.fits (W.os as)) = true := h
    rw [Bool.and_eq_true, os_len] at h
    have h1 : (decide (as.length ≤ 6) && nameB s) = true := h.1
    rw [Bool.and_eq_true] at h1
    show (decide (as.length ≤ 6) && W.ars as) = true
    rw [h1.1, W.ars_of as h.2]
    rfl
theorem W.ars_of : ∀ ws : List W, O.fits (W.os ws) = true → W.ars ws = true
  | [], _ => rfl
  | x :: xs, h => by
    have h : (x.o.fit && O.fits (W.os xs)) = true := h
    rw [Bool.and_eq_true] at h
    show (x.ar && W.ars xs) = true
    rw [W.ar_of x h.1, W.ars_of xs h.2]
    rfl
end
theorem W.ar_fitW {w : W} (h : w.o.fitW = true) : w.ar = true := by
  unfold O.fitW at h
  rcases Bool.or_eq_true_iff.mp h with h | h
  · exact W.ar_of w h
  · cases w with
    | v s => rfl
    | n s as =>
      have h : ((eqL (.str s :: W.os as) || headB (.str s) (W.os as).length) && O.fits (W.os as)) = true := h
      rw [Bool.and_eq_true, os_len] at h
      show (decide (as.length ≤ 6) && W.ars as) = true
      rw [W.ars_of as h.2, Bool.and_true]
      rcases Bool.or_eq_true_iff.mp h.1 with h1 | h1
      · match as, h1 with
        | [], _ => rfl
        | [_], _ => rfl
        | [_, _], _ => rfl
        | a :: b :: c :: r, h1 => exact absurd (show false = true from h1) (by decide)
      · have h1 : (decide (as.length ≤ 6) && nameB s) = true := h1
        exact (Bool.and_eq_true_iff.mp h1).1
theorem ars_get : ∀ {as : List W} {i : Nat} {x : W}, W.ars as = true → as[i]? = some x → x.ar = true
  | [], _, _, _, e => by simp at e
  | a :: r, 0, x, h, e => by
    obtain rfl : a = x := by simpa using e
    exact (Bool.and_eq_true_iff.mp (show (a.ar && W.ars r) = true from h)).1
  | a :: r, i + 1, x, h, e => ars_get (Bool.and_eq_true_iff.mp (show (a.ar && W.ars r) = true from h)).2 (by simpa using e)
theorem at_app : ∀ (p : List Nat) (k : Nat) {z x : W}, z.at p = some x → z.at (p ++ [k]) = x.at [k]
  | [], k, z, x, h => by
    have h : some z = some x := by cases z <;> exact h
    obtain rfl := Option.some.inj h
    rfl
  | i :: p, k, .v s, x, h => nomatch h
  | i :: p, k, .n s as, x, h => by
    have h : (match as[i]? with | some x => x.at p | none => none) = some x := h
    show (match as[i]? with | some x => x.at (p ++ [k]) | none => none) = _
    cases e : as[i]? with
    | none => rw [e] at h; cases h
    | some a =>
      rw [e] at h
      exact at_app p k h
theorem at_ar : ∀ (p : List Nat) {z x : W}, z.ar = true → z.at p = some x → x.ar = true
  | [], z, x, h, e => by
    have e : some z = some x := by cases z <;> exact e
    obtain rfl := Option.some.inj e
    exact h
  | i :: p, .v s, x, h, e => nomatch e
  | i :: p, .n s as, x, h, e => by
    have e : (match as[i]? with | some x => x.at p | none => none) = some x := e
    cases e2 : as[i]? with
    | none => rw [e2] at e; cases e
    | some a =>
      rw [e2] at e
      exact at_ar p (ars_get (Bool.and_eq_true_iff.mp (show (decide (as.length ≤ 6) && W.ars as) = true from h)).2 e2) e
theorem at_far {z : W} (h : z.ar = true) {k : Nat} (hk : 6 ≤ k) : z.at [k] = none := by
  cases z with
  | v s => rfl
  | n s as =>
    have h1 := of_decide_eq_true (Bool.and_eq_true_iff.mp (show (decide (as.length ≤ 6) && W.ars as) = true from h)).1
    show (match as[k]? with | some x => x.at [] | none => none) = none
    rw [List.getElem?_eq_none_iff.mpr (by omega)]
def leafB : W → Bool
  | .v _ => true
  | .n _ as => as.isEmpty
theorem at_leaf {z : W} (h : leafB z = true) : z.at [0] = none := by
  cases z with
  | v s => rfl
  | n s as =>
    have h : as.isEmpty = true := h
    cases as with
    | nil => rfl
    | cons a r => cases h
/-- what is asked at each place that is none -/
def odP1 : List O := [.non, .int 5, .str "0", .dct, .lst [.non], .lst [.bl true], .lst [.int (-1)], .lst [.str "0"], .lst [.int 9], .lst [.lst [.int 0]]]
def odP2 (L : List (List Nat × W)) : List O := (L.take 3).map fun q => oPl (q.1 ++ [7])
def odP3 (L : List (List Nat × W)) : List O := ((L.filter fun q => leafB q.2).take 3).map fun q => oPl (q.1 ++ [0])
def odPs (L : List (List Nat × W)) : List O := (odP1 ++ odP2 L) ++ odP3 L
theorem oPl_sz (p : List Nat) : (oPl p).sz = p.length + 1 := by
  show O.szs (p.map fun i : Nat => O.int (i : Nat)) + 1 = _
  rw [nums_sz]
theorem oPl_good {z : W} {p : List Nat} : goodP z (oPl p) = (z.at p).isSome := place_good (b := true)
theorem odPs_no {z : W} (dz : Dz z) : ∀ o ∈ odPs z.parts, goodP z o = false ∧ o.sz ≤ 100 ∧ o.dq ≤ 2 := by
  have har := W.ar_fitW dz.fit
  intro o ho
  rcases List.mem_append.mp ho with ho | ho
  · rcases List.mem_append.mp ho with ho | ho
    · have h9 : goodP z (.lst [.int 9]) = false := by
        have := oPl_good (z := z) (p := [9])
        rw [at_far har (by decide)] at this
        exact this
      simp only [odP1, List.mem_cons, List.not_mem_nil, or_false] at ho
      rcases ho with rfl | rfl | rfl | rfl | rfl | rfl | rfl | rfl | rfl | rfl
      · exact ⟨rfl, by decide, by decide⟩
      · exact ⟨rfl, by decide, by decide⟩
      · exact ⟨rfl, by decide, by decide⟩
      · exact ⟨rfl, by decide, by decide⟩
      · exact ⟨rfl, by decide, by decide⟩
      · exact ⟨rfl, by decide, by decide⟩
      · exact ⟨rfl, by decide, by decide⟩
      · exact ⟨rfl, by decide, by decide⟩
      · exact ⟨h9, by decide, by decide⟩
      · exact ⟨rfl, by decide, by decide⟩
    · obtain ⟨q, hq, rfl⟩ := List.mem_map.mp ho
      have hq := List.mem_of_mem_take hq
      have hat := W.parts_at z q hq
      have hd := W.parts_deep z q hq
      have hz := dz.dp
      refine ⟨?_, ?_, ?_⟩
      · rw [oPl_good, at_app q.1 7 hat, at_far (at_ar q.1 har hat) (by decide)]
        rfl
      · rw [oPl_sz]
        simp
        omega
      · have := oPl_dq (q.1 ++ [7])
        omega
  · obtain ⟨q, hq, rfl⟩ := List.mem_map.mp ho
    have hq := List.mem_of_mem_take hq
    obtain ⟨hq, hl⟩ := List.mem_filter.mp hq
    have hat := W.parts_at z q hq
    have hd := W.parts_deep z q hq
    have hz := dz.dp
    refine ⟨?_, ?_, ?_⟩
    · rw [oPl_good, at_app q.1 0 hat, at_leaf hl]
      rfl
    · rw [oPl_sz]
      simp
      omega
    · have := oPl_dq (q.1 ++ [0])
      omega
/-! ### lists of things -/
abbrev EvXs (te : TE) (σ : L2.St) (H : Hp) (os : List O) : Prop := EvLP te σ H (fun xs G => OVs G xs os)
section
variable {K : PySem.W.Frag} {σ : L2.St} {H : Hp} {ta tb te : TE} {os os2 : List O}
theorem evx_cat (ha : EvXs ta σ H os) (hb : EvXs tb σ H os2) (hl : os.length + os2.length ≤ 100000) : EvXs (tOp rCat ta tb) σ H (os ++ os2) :=
  (elp_cat ha hb (fun _ _ _ e h => h.ext e) (fun _ _ _ e h => h.ext e) fun xs ys G h1 h2 => by rw [h1.length, h2.length]; exact hl).imp fun zs G _ h => by
    obtain ⟨xs, ys, rfl, h1, h2⟩ := h
    exact OVs.append h1 h2
theorem OVs.take {G : Hp} : ∀ {os : List O} {xs : List V} (n : Nat), OVs G xs os → OVs G (xs.take n) (os.take n)
  | [], xs, n, h => by
    obtain rfl : xs = [] := h
    simp
    rfl
  | o :: os, xs, 0, h => by simp; rfl
  | o :: os, xs, n + 1, ⟨v, us, e, h1, h2⟩ => by
    subst e
    exact .cons h1 (OVs.take n h2)
theorem cut_to3 (xs : List V) : cutV xs none (some 3) = xs.take 3 := by
  unfold cutV
  rw [HT.sIx_none]
  have := HT.sIx_nat xs.length xs.length 3
  rw [show (some 3 : Option Int) = some ((3 : Nat) : Int) from rfl, this]
  simp
theorem evx_cut3 (ha : EvXs ta σ H os) : EvXs (tSl (rSlL K) ta tNoPart (tPart (tC (.int 3)))) σ H (os.take 3) := fun H1 e Q q =>
  ha H1 e _ fun a xs H2 na e2 h2 hov => ⟨3, rfl, a, xs, rfl, sq_of h2, fun p hp => by
    rw [cut_to3]
    have x3 : Ex H2 (upd H2 p (.lst (xs.take 3))) := Ex.new hp
    exact q p _ _ (fresh_back e2 hp) (e2.trans x3) upd_same ((OVs.take 3 hov).ext x3)⟩
theorem evx_var {i : Nat} {a : Addr} {xs : List V} (h : σ[i]? = some (some (.ref a))) (ha : H a = some (.lst xs)) (ho : OVs H xs os) : EvXs (tSl (rSlL K) (tVar i) tNoPart (tPart (tC (.int 3)))) σ H (os.take 3) := fun H1 e Q q =>
  ⟨.ref a, h, 3, rfl, a, xs, rfl, sq_of (e _ _ ha), fun p hp => by
    rw [cut_to3]
    have x3 : Ex H1 (upd H1 p (.lst (xs.take 3))) := Ex.new hp
    exact q p _ _ hp x3 upd_same ((OVs.take 3 ho).ext (e.trans x3))⟩
theorem evx_of {σ : L2.St} {H : Hp} {te : TE} (h : ∀ H1, Ex H H1 → EvLx H1 te σ H1 os) : EvXs te σ H os := fun H1 e Q q =>
  h H1 e H1 (Ex.refl _) _ fun p xs H2 hp e2 h2 hov => q p xs H2 hp e2 h2 (hov.ext hx_ex)
/-- [f(x) for x in xs], each told new -/
theorem evx_comp {tl : TE} {tt : TT} {j : Nat} (f : O → O) (ha : EvXs tl σ H os) (hl : os.length ≤ 1000) (hw : ∀ x, wipe ((wipe σ [j]).set j (some x)) [j] = wipe σ [j])
    (he : ∀ (x : V) (o : O) (G : Hp), Ex H G → o ∈ os → OV G x o → EvOx G te ((wipe σ [j]).set j (some x)) G (f o)) : EvXs (tLc (iList K tl) (gName j) tYes te [j]) σ H (os.map f) := fun H1 e Q q =>
  ha H1 e _ fun a xs H2 na e2 h2 hov => ⟨a, rfl, ⟨xs, sq_of h2⟩, fun Dl hD => by
    have hxl := hov.length
    refine lc_list (xs := xs) (fun i G => Ex H2 G ∧ ∃ acc, G Dl = some (.lst acc) ∧ acc.length = i ∧ OVs (Hx (fun b => b = Dl) G) acc ((os.take i).map f)) ⟨Ex.new hD, [], upd_same, rfl, by simp; rfl⟩ (fun i G _ c => sq_of (c.1 _ _ h2)) (fun i x G hi c => ?_) (fun G c => ?_)
    · obtain ⟨eG, acc, hacc, hal, hov2⟩ := c
      obtain ⟨o, ho, hxo⟩ := hov.get hi
      have hil := (List.getElem?_eq_some_iff.mp hi).1
      refine ⟨hw x, ?_⟩
      unfold tYes
      dsimp only
      rw [if_pos rfl]
      refine he x o G ((e.trans e2).trans eG) (List.mem_of_getElem? ho) (hxo.ext eG) G (Ex.refl G) _ fun y G2 e3 hy => ?_
      have hD2 : G2 Dl = some (.lst acc) := e3 _ _ hacc
      refine ⟨acc, hD2, sz_lt (by omega), Ex.mut (eG.trans e3) hD, acc ++ [y], upd_same, by simp [hal], ?_⟩
      rw [take_snoc ho, List.map_append]
      have g1 : Go (fun b => b = Dl) G2 (upd G2 Dl (.lst (acc ++ [y]))) := Go.upd rfl
      have hy2 : OV (Hx (fun b => b = Dl) G2) y (f o) := hy.ext (hx_mono fun b hb => by rw [hb]; exact ⟨_, hacc⟩)
      exact OVs.append ((hov2.ext (Go.of e3).ex).ext g1.ex) (.cons (hy2.ext g1.ex) .nil)
    · obtain ⟨eG, acc, hacc, hal, hov2⟩ := c
      rw [hxl, List.take_length] at hov2
      exact q Dl acc G (fresh_back e2 hD) (e2.trans eG) hacc (hov2.ext hx_ex)⟩
/-- place + [k] -/
theorem eox_plus {i : Nat} {l : Addr} {p : List Nat} {k : Nat} (h : σ[i]? = some (some (.ref l))) (hl : H l = some (.lst (nums p))) (hp : p.length ≤ 100) : EvOx H (tOp rCat (tVar i) (tLst (tCons (tC (.int (k : Nat))) tNil))) σ H (oPl (p ++ [k])) := fun H1 e Q q =>
  ⟨.ref l, h, by show 1 ≤ sizeLine; decide, fun l2 h2 => ⟨l, l2, nums p, [.int (k : Nat)], rfl, rfl, Ex.new h2 _ _ (e _ _ hl), upd_same, sz_of (by rw [nums_len]; simp; omega), fun l3 h3 => by
    have x3 := (Ex.new (o := .lst [.int (k : Nat)]) h2).trans (Ex.new (o := .lst (nums p ++ [.int (k : Nat)])) h3)
    have hn : H l3 = none := fresh_back (e.trans (Ex.new (o := .lst [.int (k : Nat)]) h2)) h3
    refine q (.ref l3) _ x3 ⟨l3, _, rfl, hx_of (not_old hn) lst_tbl upd_same, ?_⟩
    have : nums p ++ [V.int (k : Nat)] = nums (p ++ [k]) := by unfold nums; rw [List.map_append]; rfl
    rw [this]
    exact nums_ov _⟩⟩
end
end K23

set_option Elab.async false
set_option linter.all false
set_option maxRecDepth 100000
set_option maxHeartbeats 4000000
/-! The law's walk over one word: lambdas asked; the odd places listed. -/
namespace K23
open PySem PySem.Spec PyProof.Rows L2 Evl LamX
section
variable {X : Cx}
/-- _law_d_met(lambda: ..) -/
theorem pe_met {c Pt : Addr} {k : Nat} {params : Arguments} {body : Expr} {scope : Scope} {t : XK → TE} {p lpos pos : Pos} (T : T23 X.prog X.w X.K X.mg X.base) (t2 : Tab2 X.K X.mg X.base) (hg : Gl X "_law_d_met") (TB : TabB X.base X.mg c Pt) (hcode : X.env.code = .ref c)
    (hm : (Pt, X.env.qual ++ "<lambda>") ∈ tabT X.K) (hr : Room (k + 2) X.A) (L : LamS X.env.scope scope) (hdef : defaultsOf params X.env = ([], []))
    (hbind : ∀ (q : Str) (cl : List (Str × Addr)) (pm cv ctv : Value), bindArgs (PySem.W.kla_fn "<lambda>" q params body scope cl pm cv ctv) ⟨[], []⟩ = pure [])
    (hbody : ∀ (A : Around) (outer : List Env) (s : Shared) (H : Hp) (E : XK) (f c' : Addr), Room k (A.deeper (lamEnv X scope s.heap.objs.size f c')) → PE (lamCx X A outer s H E scope f c') body (t E)) :
    PE X (.Call (.Name "_law_d_met" p) [.Lambda params body scope lpos] [] pos) (tLam (tabT X.K) (TTmet X.K) t) := by
  obtain ⟨⟨fd, F⟩, m⟩ := T.df 33 "_law_d_met" s__law_d_met rfl
  have hb := F.bindsN (ps := ["_law_ask"]) fun kV doc pm an cdv ct us hl => match us, hl with | [_], _ => rfl
  obtain ⟨oc, od, dV, kV, doc, pm, an, cdv, ct, osl, rfl, lk, hcd, _, _⟩ := F.ex
  have hu : ∀ p ∈ tabT X.K, p.1 = Pt → p.2 = X.env.qual ++ "<lambda>" := fun p hp e => tab_uniq (l := tabT X.K) (by
    have := t2.ap
    unfold tabT
    rw [List.map_map]
    exact this) p hp _ hm e
  exact pe_lamcall hg m F.kp lk hcd hb sc_me rfl (.inl rfl) (met_gives T) TB hcode hm hu hr L hdef hbind hbody
end
/-- what is asked meets x's error of v -/
theorem lam_bad {T : List (Addr × Str)} {K : PySem.W.Frag} {t : XK → TE} {σ : L2.St} {H : Hp} {Q : VK} {x : Str} {s : Str} {v : V} (hx : (x = "BadWord" ∧ s = "word") ∨ (x = "BadPlace" ∧ s = "place")) (hT : Tabs T H)
    (ht : ∀ (H1 : Hp) (E : XK) (Q' : VK), ExtN H H1 → Bad K x v H1 E → t E σ H1 Q')
    (k : ∀ (a : Addr) (G : Hp), ExtN H G → Tabs T G → G a = some (.tup [.str s, v]) → Q (.ref a) G) : tLam T (TTmet K) t σ H Q := by
  refine ⟨hT, fun H1 e1 T1 => ht H1 _ _ e1 fun d G e hd => ?_⟩
  have fin : Pr s v G Q := ⟨by show 2 ≤ sizeLine; decide, fun a ha => by
    have x2 : Ex G (upd G a (.tup [.str s, v])) := Ex.new ha
    exact k a _ ((e1.trans (ExtN.of e)).trans (ExtN.of x2)) ((T1.ext e).ext x2) upd_same⟩
  rcases hx with ⟨rfl, rfl⟩ | ⟨rfl, rfl⟩
  · exact .inl ⟨rfl, d, v, rfl, hd, fin⟩
  · exact .inr ⟨rfl, d, v, rfl, hd, fin⟩
section
variable {K : PySem.W.Frag} {σ : L2.St} {H : Hp}
theorem eox_neg {H0 : Hp} {i : Int} : EvOx H0 (tUn (rU fun i => .int (-i)) (tC (.int i))) σ H (.int (-i)) := fun H1 e Q q => ⟨i, rfl, q _ _ (Ex.refl _) rfl⟩
theorem et_leaf {i : Nat} {x : V} {z : W} (h : σ[i]? = some (some x)) (hw : WV H x z) : EvT (tOr (tB (tIsi K "str" (tVar i))) (tTest (tOp rEq (tLen K (tVar i)) (tC (.int 1))))) σ H (leafB z) := by
  cases z with
  | v s =>
    obtain rfl : x = .str s := hw
    exact et_is (et_or (a := true) (b := true) (et_B (ev_isStr (o := .str s) (ev_var h) rfl)) fun z => nomatch z) rfl
  | n s as =>
    have hw0 := hw
    obtain ⟨r, us, rfl, hr, hu⟩ := hw.tup
    have hul := hu.length
    refine et_is (et_or (a := false) (b := leafB (.n s as)) (et_B (ev_isStr (o := (W.n s as).o) (ev_var h) hw0)) fun _ => et_is (et_test (ev_op (ev_lenT (ev_var h) (st_of hr)) ev_c (rv_eq rfl))) ?_) rfl
    show decide (V.int ((us.length + 1 : Nat) : Int) = V.int 1) = as.isEmpty
    cases as with
    | nil =>
      rw [hul]
      rfl
    | cons a r =>
      rw [hul]
      exact decide_eq_false fun q => by
        have := V.int.inj q
        simp at this
        omega
abbrev tLeafT (K : PySem.W.Frag) : TT := tOr (tB (tIsi K "str" (tVar 7))) (tTest (tOp rEq (tLen K (tVar 7)) (tC (.int 1))))
/-- [place + [0] for place, deep in parts if ..] -/
theorem evx_leaf {B : Addr → Prop} {c0 c1 c2 c4 c5 c6 c7 c8 c9 c10 c11 c12 c13 : Option V} {pp : Addr} {ps : List V} {L : List (List Nat × W)} (hp : H pp = some (.lst ps)) (hA : A2 (PaV B H) ps L) (hl : ps.length ≤ 1000) (hL : ∀ q ∈ L, q.1.length ≤ 50) :
    EvXs (tLc (iList K (tVar 3)) (gPair K 6 7) (tLeafT K) (tOp rCat (tVar 6) (tLst (tCons (tC (.int 0)) tNil))) [6, 7]) [c0, c1, c2, some (.ref pp), c4, c5, c6, c7, c8, c9, c10, c11, c12, c13] H ((L.filter fun q => leafB q.2).map fun q => oPl (q.1 ++ [0])) := fun H1 e Q q =>
  ⟨.ref pp, rfl, pp, rfl, ⟨ps, sq_of (e _ _ hp)⟩, fun Dl hD => by
    have hpl := hA.length
    refine lc_list (xs := ps) (fun i G => Ex H1 G ∧ ∃ acc, G Dl = some (.lst acc) ∧ acc.length ≤ i ∧ OVs (Hx (fun b => b = Dl) G) acc (((L.take i).filter fun q => leafB q.2).map fun q => oPl (q.1 ++ [0]))) ⟨Ex.new hD, [], upd_same, Nat.le_refl _, by simp; rfl⟩ (fun i G _ c => sq_of (c.1 _ _ (e _ _ hp))) (fun i v G hi c => ?_) (fun G c => ?_)
    · obtain ⟨eG, acc, hacc, hal, hov2⟩ := c
      obtain ⟨q5, hq5, t5, l5, u5, rfl, k1, k2, k3, k5⟩ := hA.get hi
      have hil := (List.getElem?_eq_some_iff.mp hi).1
      have e2 := e.trans eG
      refine ⟨t5, _, rfl, st_of (e2 _ _ k1), rfl, _, _, rfl, _, _, rfl, rfl, rfl, ?_⟩
      refine et_leaf (z := q5.2) rfl (k5.ext e2) G (Ex.refl G) _ fun G2 e3 => ?_
      have hD2 : G2 Dl = some (.lst acc) := e3 _ _ hacc
      rw [take_snoc hq5, List.filter_append, List.map_append]
      cases hb : leafB q5.2 with
      | true =>
        rw [if_pos rfl]
        refine eox_plus (i := 6) (l := l5) (p := q5.1) (k := 0) rfl ((e2.trans e3) _ _ k3) (by have := hL q5 (List.mem_of_getElem? hq5); omega) G2 (Ex.refl _) _ fun y G3 e4 hy => ?_
        have hD3 : G3 Dl = some (.lst acc) := e4 _ _ hD2
        refine ⟨acc, hD3, sz_lt (by omega), Ex.mut ((eG.trans e3).trans e4) hD, acc ++ [y], upd_same, by simp; omega, ?_⟩
        have g1 : Go (fun b => b = Dl) G3 (upd G3 Dl (.lst (acc ++ [y]))) := Go.upd rfl
        have hy2 : OV (Hx (fun b => b = Dl) G3) y (oPl (q5.1 ++ [0])) := hy.ext (hx_mono fun b hb => by rw [hb]; exact ⟨_, hD2⟩)
        have e5 : (List.filter (fun q : List Nat × W => leafB q.2) [q5]) = [q5] := by simp [hb]
        rw [e5]
        exact OVs.append ((hov2.ext (Go.of (e3.trans e4)).ex).ext g1.ex) (.cons (hy2.ext g1.ex) .nil)
      | false =>
        rw [if_neg (by decide)]
        have e5 : (List.filter (fun q : List Nat × W => leafB q.2) [q5]) = [] := by simp [hb]
        refine ⟨eG.trans e3, acc, hD2, by omega, ?_⟩
        rw [e5, List.map_nil, List.append_nil]
        exact hov2.ext (Go.of e3).ex
    · obtain ⟨eG, acc, hacc, hal, hov2⟩ := c
      rw [hpl, List.take_length] at hov2
      exact q Dl acc G hD eG hacc (hov2.ext hx_ex)⟩
end
end K23

set_option Elab.async false
set_option linter.all false
set_option maxRecDepth 100000
set_option maxHeartbeats 4000000
/-! The law's walk over one word: the odd places asked. -/
namespace K23
open PySem PySem.Spec PyProof.Rows L2 Evl LamX
mutual
theorem OV.hxn {H : Hp} : ∀ {o : O} {v : V}, OV H v o → OV (Hx (fun _ => False) H) v o
  | .non, _, h => h
  | .bl _, _, h => h
  | .int _, _, h => h
  | .str _, _, h => h
  | .dct, _, ⟨a, h1, h2⟩ => ⟨a, h1, hx_of (fun z => z) (fun _ z => nomatch z) h2⟩
  | .lst _, _, ⟨a, vs, h1, h2, h3⟩ => ⟨a, vs, h1, hx_of (fun z => z) lst_tbl h2, OVs.hxn h3⟩
  | .tup _, _, ⟨a, vs, h1, h2, h3⟩ => ⟨a, vs, h1, hx_of (fun z => z) tup_tbl h2, OVs.hxn h3⟩
theorem OVs.hxn {H : Hp} : ∀ {os : List O} {vs : List V}, OVs H vs os → OVs (Hx (fun _ => False) H) vs os
  | [], _, h => h
  | _ :: _, _, ⟨v, us, h1, h2, h3⟩ => ⟨v, us, h1, OV.hxn h2, OVs.hxn h3⟩
end
theorem OV.extN {H G : Hp} {v : V} {o : O} (h : OV H v o) (e : ExtN H G) : OV G v o := (h.hxn.ext (Go.ofN e).ex).ext hx_ex
theorem OVs.extN {H G : Hp} {vs : List V} {os : List O} (h : OVs H vs os) (e : ExtN H G) : OVs G vs os := (h.hxn.ext (Go.ofN e).ex).ext hx_ex
section
variable {K : PySem.W.Frag} {σ : L2.St} {H : Hp} {te tl : TE} {o : O} {D : Ends} {tu : TS} {g : TG}
theorem s_forNLP {P : List V → Hp → Prop} (h : EvLP tl σ H P) (k : ∀ p xs H1, H p = none → Ex H H1 → H1 p = some (.lst xs) → P xs H1 → ∃ Pv : Nat → L2.St → Hp → Prop, Pv 0 σ H1 ∧ (∀ i σ' H', i ≤ xs.length → Pv i σ' H' → SqL K H' p xs) ∧
    (∀ i x σ' H', xs[i]? = some x → Pv i σ' H' → g x σ' H' fun σ2 H2 => tu { D with nx := Pv (i + 1), ct := Pv (i + 1), bk := D.nx } σ2 H2) ∧ ∀ σ' H', Pv xs.length σ' H' → D.nx σ' H') : tFor (iList K tl) g tu D σ H :=
  h H (Ex.refl H) _ fun p xs H1 hp e h1 hP => by
    obtain ⟨Pv, k0, k1, k2, k3⟩ := k p xs H1 hp e h1 hP
    exact ⟨p, rfl, ⟨xs, sq_of h1⟩, for_list Pv k0 k1 k2 k3⟩
/-- [("..", x)] * 2 -/
theorem evd_two {i : Nat} {s : Str} {v : V} (h : σ[i]? = some (some v)) (hv : OV H v o) : EvD (tOp rRep (tLst (tCons (tTup (tCons (tC (.str s)) (tCons (tVar i) tNil))) tNil)) (tC (.int 2))) σ H (.lst [.tup [.str s, o], .tup [.str s, o]]) := fun H1 e Q q =>
  ⟨v, h, by show 2 ≤ sizeLine; decide, fun t ht => ⟨by show 1 ≤ sizeLine; decide, fun l hl => ⟨l, 2, [.ref t], rfl, rfl, upd_same, by decide, by decide, by show 2 ≤ sizeLine; decide, fun p hp => by
    have x1 : Ex H1 (upd H1 t (.tup [.str s, v])) := Ex.new ht
    have x2 := (Ex.new (H := upd H1 t (.tup [.str s, v])) (o := .lst [.ref t]) hl)
    have x3 := (Ex.new (H := upd (upd H1 t (.tup [.str s, v])) l (.lst [.ref t])) (o := .lst (List.replicate (2 : Int).toNat [V.ref t]).flatten) hp)
    have x23 := x2.trans x3
    have hov : OV (upd (upd (upd H1 t (.tup [.str s, v])) l (.lst [.ref t])) p (.lst (List.replicate (2 : Int).toNat [V.ref t]).flatten)) (.ref t) (.tup [.str s, o]) := ⟨t, _, rfl, x23 _ _ upd_same, .cons rfl (.cons (((hv.ext e).ext x1).ext x23) .nil)⟩
    exact q (.ref p) _ (x1.trans x23) ⟨p, [.ref t, .ref t], rfl, upd_same, .cons hov (.cons hov .nil)⟩⟩⟩⟩
end
section
variable {P : Program} {w : World} {K : PySem.W.Frag} {mg : Str → Option Value} {base : Heap} {f c : Addr} {A : Around} {outer : List Env} {s : Shared} {HX : Hp}
theorem wb8 (T : T23 P w K mg base) : ∃ t, PS (XW P w K mg base f c A outer s HX) (stW 7) t ∧
    ∀ (D : Ends) (G : Hp) (c0 c1 c2 c4 c5 c6 c7 c8 c9 c10 c11 c12 c13 : Option V) (pp : Addr) (ps : List V) (z : W) (B2 : Addr → Prop), Dz z → G pp = some (.lst ps) → A2 (PaV B2 G) ps z.parts →
      (∀ G' a xs, Ex G G' → G' a = some (.lst xs) → OVs G' xs (z.parts.map fun q => oPl q.1) → D.nx [c0, c1, c2, some (.ref pp), c4, c5, c6, c7, c8, c9, some (.ref a), c11, c12, c13] G') →
      t D [c0, c1, c2, some (.ref pp), c4, c5, c6, c7, c8, c9, c10, c11, c12, c13] G := by
  refine ⟨_, ps_setLc (i := 10) (own := [("_law_place", 6), ("_law_deep", 7)]) (g := gPair K 6 7) (tt := tYes) (te := tVar 6) rfl sc_wr.nd rfl rfl (sw_true rfl rfl rfl rfl) (pi_list (pv 3)) (blkOk_by (N := nWr) (sc := defScope s__law_word_right) (by decide +kernel))
    (fun _ _ _ _ _ => pg_tup rfl (pgs_cons (pg_name (i := 6) sc_wr.nd rfl (Or.inl rfl)) (pgs_cons (pg_name (i := 7) sc_wr.nd rfl (Or.inl rfl)) pgs_nil))) (fun _ _ _ _ _ => pts_nil) (fun _ _ _ _ _ => pv 6), ?_⟩
  intro D G c0 c1 c2 c4 c5 c6 c7 c8 c9 c10 c11 c12 c13 pp ps z B2 dz hp hP k
  have hlen : ps.length ≤ 1000 := by
    have := hP.length
    have := W.parts_nd z
    have := dz.nd
    omega
  exact evd_comp (i := 3) (j1 := 6) (j2 := 7) rfl hp hP hlen (fun _ _ => rfl) (fun _ _ => rfl) G (Ex.refl G) _ fun x G' e ⟨a, xs, h1, h2, h3⟩ => by
    subst h1
    exact k G' a xs e h2 h3
theorem wb9 (T : T23 P w K mg base) : ∃ t, PS (XW P w K mg base f c A outer s HX) (stW 8) t ∧
    ∀ (D : Ends) (G : Hp) (c0 c1 c2 c3 c4 c5 c6 c7 c8 c9 c11 c12 c13 : Option V) (a : Addr) (xs : List V) (z : W), Dz z → G a = some (.lst xs) → OVs G xs (z.parts.map fun q => oPl q.1) →
      (∀ G' b ys, Ex G G' → G' b = some (.lst ys) → OVs G' ys (odP1 ++ odP2 z.parts) → D.nx [c0, c1, c2, c3, c4, c5, c6, c7, c8, c9, some (.ref a), some (.ref b), c12, c13] G') →
      t D [c0, c1, c2, c3, c4, c5, c6, c7, c8, c9, some (.ref a), c11, c12, c13] G := by
  refine ⟨_, ps_set (i := 11) sc_wr.nd rfl (Or.inl rfl) (pe_op op_cat (pe_lst (pa_cons pe_non (pa_cons pe_int (pa_cons pe_str (pa_cons pe_dnewK (pa_cons (pe_lst (pa_cons pe_non pa_nil)) (pa_cons (pe_lst (pa_cons pe_bl pa_nil)) (pa_cons (pe_lst (pa_cons (pe_un un_neg pe_int) pa_nil)) (pa_cons (pe_lst (pa_cons pe_str pa_nil)) (pa_cons (pe_lst (pa_cons pe_int pa_nil)) (pa_cons (pe_lst (pa_cons (pe_lst (pa_cons pe_int pa_nil)) pa_nil)) pa_nil))))))))))) (pe_lc (own := [("_law_place", 6)]) (g := gName 6) (tt := tYes) (te := tOp rCat (tVar 6) (tLst (tCons (tC (.int 7)) tNil))) rfl sc_wr.nd (pi_list (pe_slice sl_list (pv 10) po_none (po_some pe_int))) (blkOk_by (N := nWr) (sc := defScope s__law_word_right) (by decide +kernel))
    (fun _ _ _ _ _ => pg_name (i := 6) sc_wr.nd rfl (Or.inl rfl)) (fun _ _ _ _ _ => pts_nil) (fun _ _ _ _ _ => pe_op op_cat (pv 6) (pe_lst (pa_cons pe_int pa_nil))))), ?_⟩
  intro D G c0 c1 c2 c3 c4 c5 c6 c7 c8 c9 c11 c12 c13 a xs z dz ha ho k
  have h3 : odP2 z.parts = ((z.parts.map fun q => oPl q.1).take 3).map (fun o => match o with
      | .lst is => .lst (is ++ [.int 7])
      | o => o) := by
    unfold odP2
    rw [← List.map_take, List.map_map]
    refine List.map_congr_left fun q _ => ?_
    show O.lst ((q.1 ++ [7]).map _) = O.lst (q.1.map _ ++ [O.int 7])
    rw [List.map_append]
    rfl
  have hc : EvXs (tLc (iList K (tSl (rSlL K) (tVar 10) tNoPart (tPart (tC (.int 3))))) (gName 6) tYes (tOp rCat (tVar 6) (tLst (tCons (tC (.int 7)) tNil))) [6]) [c0, c1, c2, c3, c4, c5, c6, c7, c8, c9, some (.ref a), c11, c12, c13] G (odP2 z.parts) := by
    rw [h3]
    refine evx_comp (tt := tYes) _ (evx_var (i := 10) rfl ha ho) (by simp; omega) (fun _ => rfl) fun x o G1 e1 hmem hx => ?_
    obtain ⟨q, hq, rfl⟩ := List.mem_map.mp (List.mem_of_mem_take hmem)
    obtain ⟨l, vs, rfl, hl, hvs⟩ := hx
    have hd := W.parts_deep z q hq
    have hz := dz.dp
    obtain rfl : vs = nums q.1 := by
      have h2 := nums_ov (H := G1) q.1
      have key : ∀ (p : List Nat) (vs : List V), OVs G1 vs (p.map fun i : Nat => O.int (i : Nat)) → vs = nums p := by
        intro p
        induction p with
        | nil => intro vs h; exact h
        | cons i p ih =>
          intro vs h
          obtain ⟨v, us, rfl, h1, h2⟩ := h
          obtain rfl : v = .int (i : Nat) := h1
          rw [ih us h2]
          rfl
      exact key q.1 vs hvs
    have := eox_plus (σ := (wipe [c0, c1, c2, c3, c4, c5, c6, c7, c8, c9, some (.ref a), c11, c12, c13] [6]).set 6 (some (.ref l))) (H := G1) (i := 6) (l := l) (p := q.1) (k := 7) rfl hl (by omega)
    have e5 : oPl (q.1 ++ [7]) = .lst ((q.1.map fun i : Nat => O.int (i : Nat)) ++ [.int 7]) := by
      show O.lst ((q.1 ++ [7]).map _) = _
      rw [List.map_append]
      rfl
    rw [e5] at this
    exact this
  have hl1 : odP1.length = 10 := rfl
  have hl2 : (odP2 z.parts).length ≤ 3 := by unfold odP2; simp; omega
  refine evx_cat (os := odP1) (os2 := odP2 z.parts) (evx_of fun H1 e1 => elx_lst ?_ (by decide)) hc (by omega) G (Ex.refl G) _ fun b ys G' hb e h2 hov => k G' b ys e h2 hov
  exact (eax_cons eox_non (eax_cons eox_int (eax_cons eox_str (eax_cons (eox_dct (Ex.refl H1)) (eax_cons (eox_lst (Ex.refl H1) (eax_cons eox_non eax_nil) (by decide)) (eax_cons (eox_lst (Ex.refl H1) (eax_cons eox_bl eax_nil) (by decide)) (eax_cons (eox_lst (Ex.refl H1) (eax_cons eox_neg eax_nil) (by decide)) (eax_cons (eox_lst (Ex.refl H1) (eax_cons eox_str eax_nil) (by decide)) (eax_cons (eox_lst (Ex.refl H1) (eax_cons eox_int eax_nil) (by decide)) (eax_cons (eox_lst (Ex.refl H1) (eax_cons (eox_lst (Ex.refl H1) (eax_cons eox_int eax_nil) (by decide)) eax_nil) (by decide)) eax_nil))))))))))
end
end K23

set_option Elab.async false
set_option linter.all false
set_option maxRecDepth 100000
set_option maxHeartbeats 4000000
/-! The law's walk over one word: each odd place is refused. -/
namespace K23
open PySem PySem.Spec PyProof.Rows L2 Evl LamX
theorem tabs_put {T : List (Addr × Str)} {G : Hp} {p : Addr} {L L' : List V} (h : Tabs T G) (gp : G p = some (.lst L)) : Tabs T (upd G p (.lst L')) := fun z hz => by
  obtain ⟨ps, y1, y2, y3⟩ := h z hz
  refine ⟨ps, ?_, y2, fun pos cv hc => ?_⟩
  · rw [upd_ne fun q => by rw [q, gp] at y1; cases y1]
    exact y1
  · obtain ⟨c, c1, c2⟩ := y3 pos cv hc
    refine ⟨c, c1, ?_⟩
    rw [upd_ne fun q => by rw [q, gp] at c2; exact absurd (Option.some.inj c2).symm cod_lst]
    exact c2
abbrev tAskA (K : PySem.W.Frag) : XK → TE := fun E => tCallS (spWa K) (fun σ => WE (fun cls d _ H => E cls d H) σ) (tCons (tVar 12) (tCons (tVar 13) tNil))
abbrev tAskU (K : PySem.W.Frag) : XK → TE := fun E => tCallS (spWu K) (fun σ => WE (fun cls d _ H => E cls d H) σ) (tCons (tVar 12) (tCons (tVar 13) (tCons (tC .non) tNil)))
abbrev tMet (K : PySem.W.Frag) (t : XK → TE) : TE := tLam (tabT K) (TTmet K) t
section
variable {K : PySem.W.Frag} {σ : L2.St} {H : Hp} {tb : TE} {os os2 : List O}
theorem evx_catV {i : Nat} {a : Addr} {xs : List V} (h : σ[i]? = some (some (.ref a))) (ha : H a = some (.lst xs)) (ho : OVs H xs os) (hb : EvXs tb σ H os2) (hl : os.length + os2.length ≤ 100000) : EvXs (tOp rCat (tVar i) tb) σ H (os ++ os2) := fun H1 e Q q =>
  ⟨.ref a, h, hb H1 e _ fun p ys H2 hp e2 h2 hov => ⟨a, p, xs, ys, rfl, rfl, (e.trans e2) _ _ ha, h2, sz_of (by rw [ho.length, hov.length]; exact hl), fun l hl => by
    have x3 : Ex H2 (upd H2 l (.lst (xs ++ ys))) := Ex.new hl
    exact q l _ _ (fresh_back e2 hl) (e2.trans x3) upd_same (OVs.append (ho.ext ((e.trans e2).trans x3)) (hov.ext x3))⟩⟩
end
section
variable {P : Program} {w : World} {K : PySem.W.Frag} {mg : Str → Option Value} {base : Heap} {f c : Addr} {A : Around} {outer : List Env} {s : Shared} {HX : Hp}
theorem wb10 (T : T23 P w K mg base) (t2 : Tab2 K mg base) (hc : He.codeOf K ("_law_word_right", none) = c) (hr : Room 40 (XW P w K mg base f c A outer s HX).A) : ∃ t, PS (XW P w K mg base f c A outer s HX) (stW 9) t ∧
    ∀ (D : Ends) (H0 Hb G : Hp) (c4 c5 c6 c7 c8 c9 c10 c13 : Option V) (p q pp b : Addr) (u v r : V) (ps ys : List V) (z y : W) (o : O) (n : Int), Kw H0 Hb u v r pp ps z y o → SW (tabT K) H0 Hb p q n G → G b = some (.lst ys) → OVs G ys (odP1 ++ odP2 z.parts) →
      (∀ G' c9' c13', SW (tabT K) H0 Hb p q n G' → D.nx [some (.ref p), some u, some v, some (.ref pp), c4, c5, c6, c7, c8, c9', c10, some (.ref b), some r, c13'] G') →
      t D [some (.ref p), some u, some v, some (.ref pp), c4, c5, c6, c7, c8, c9, c10, some (.ref b), some r, c13] G := by
  obtain ⟨fS, dS, GS, bS, kS, mS⟩ := (ok_same T 6).ex
  obtain ⟨fA, dA, GA, bA, kA, mA⟩ := (ok_word_at T).ex
  obtain ⟨fU, dU, GU, bU, kU, mU⟩ := (ok_word_put T).ex
  have tb := t2.tb ("_law_word_right", none) (List.mem_of_getElem? (i := 1) rfl)
  have ecd : (He.cT K ("_law_word_right", none)).1 = c := hc
  rw [ecd] at tb
  have hm : ((He.cT K ("_law_word_right", none)).2, ("_law_word_right.<locals>.<lambda>" : Str)) ∈ tabT K := List.mem_of_getElem? (i := 1) (by rfl)
  refine ⟨_, ps_for PassesOwn.never rfl (pi_list (pe_op op_cat (pv 11) (pe_slice sl_list (pe_lc (own := [("_law_place", 6), ("_law_deep", 7)]) (g := gPair K 6 7) (tt := tLeafT K) (te := tOp rCat (tVar 6) (tLst (tCons (tC (.int 0)) tNil))) rfl sc_wr.nd (pi_list (pv 3)) (blkOk_by (N := nWr) (sc := defScope s__law_word_right) (by decide +kernel))
      (fun _ _ _ _ _ => pg_tup rfl (pgs_cons (pg_name (i := 6) sc_wr.nd rfl (Or.inl rfl)) (pgs_cons (pg_name (i := 7) sc_wr.nd rfl (Or.inl rfl)) pgs_nil)))
      (fun _ _ _ _ _ => pts_one (PW.pt (pw_or (pt_val (pe_isiB T.isi T.str PyProof.Rows.boot_str (pv 7))) (pw_or1 (pt_cmpR op_eq (pe_callB call_len (by rfl) T.len PySem.boot_len (pa_cons (pv 7) pa_nil)) pe_int (nomark _))))))
      (fun _ _ _ _ _ => pe_op op_cat (pv 6) (pe_lst (pa_cons pe_int pa_nil)))) po_none (po_some pe_int)))) (pg_name (i := 13) sc_wr.nd rfl (Or.inr rfl))
    (pss_cons (ps_set (i := 9) sc_wr.nd rfl (Or.inl rfl) (pe_lst (pa_cons (pe_met (k := 35) (t := tAskA K) T t2 (by rfl) tb rfl hm (hr.mono (by decide)) (lamS_by (sc := defScope s__law_word_right) (by decide +kernel)) rfl (fun _ _ _ _ _ => rfl)
        (fun A outer s H E f c' hr2 => pe_callS (sp := spWa K) GA (hr2.mono (by decide)) (by rfl) mA kA bA (fun σ => passAt (takes_of rfl rfl rfl rfl) σ) (pa_cons (pv 12) (pa_cons (pv 13) pa_nil)))) pa_nil)))
    (pss_cons (ps_expr (pe_bm PySem.F.plainAttrs_list PySem.F.slot_list_append PySem.F.type_list_append mt_append (pv 9) (pa_cons (pe_met (k := 35) (t := tAskU K) T t2 (by rfl) tb rfl hm (hr.mono (by decide)) (lamS_by (sc := defScope s__law_word_right) (by decide +kernel)) rfl (fun _ _ _ _ _ => rfl)
        (fun A outer s H E f c' hr2 => pe_callS (sp := spWu K) GU (hr2.mono (by decide)) (by rfl) mU kU bU (fun σ => passAt (takes_of rfl rfl rfl rfl) σ) (pa_cons (pv 12) (pa_cons (pv 13) (pa_cons pe_non pa_nil))))) pa_nil)))
    (pss_one (ps_if (pt_not (pt_val (pe_call GS (hr.mono (by decide)) (by rfl) mS kS bS .nil pass0 (pa_cons (pv 9) (pa_cons (pe_op op_rep (pe_lst (pa_cons (pe_tup (pa_cons pe_str (pa_cons (pv 13) pa_nil))) pa_nil)) pe_int) pa_nil))))) (pss_one ps_never) pss_nil)))), ?_⟩
  intro D H0 Hb G c4 c5 c6 c7 c8 c9 c10 c13 p q pp b u v r ps ys z y o n kw S hb hys k
  have dz := kw.dz
  have hnd := dz.nd
  have hpl : ps.length = z.nd := by rw [kw.pa.length, W.parts_nd]
  have hleaf := evx_leaf (K := K) (c0 := some (.ref p)) (c1 := some u) (c2 := some v) (c4 := c4) (c5 := c5) (c6 := c6) (c7 := c7) (c8 := c8) (c9 := c9) (c10 := c10) (c11 := some (.ref b)) (c12 := some r) (c13 := c13) (kw.gp S) (kw.gpa S) (by omega) (fun q hq => by
    have := W.parts_deep z q hq
    have := dz.dp
    omega)
  have hleaf3 := evx_cut3 (K := K) hleaf
  have hiter := evx_catV (i := 11) (σ := [some (.ref p), some u, some v, some (.ref pp), c4, c5, c6, c7, c8, c9, c10, some (.ref b), some r, c13]) rfl hb hys hleaf3 (by
    have h1 : (odP1 ++ odP2 z.parts).length ≤ 13 := by
      rw [List.length_append]
      have : odP1.length = 10 := rfl
      have : (odP2 z.parts).length ≤ 3 := by unfold odP2; simp; omega
      omega
    simp only [List.length_take]
    omega)
  refine s_forNLP hiter fun l xs G1 hl e1 h1 hov => ?_
  have hov : OVs G1 xs (odPs z.parts) := by
    have : (odP1 ++ odP2 z.parts) ++ ((z.parts.filter fun q => leafB q.2).map fun q => oPl (q.1 ++ [0])).take 3 = odPs z.parts := by
      unfold odPs odP3
      rw [List.map_take]
    rw [← this]
    exact hov
  have hno := odPs_no dz
  refine ⟨fun i σ' G' => (∃ c9' c13', σ' = [some (.ref p), some u, some v, some (.ref pp), c4, c5, c6, c7, c8, c9', c10, some (.ref b), some r, c13']) ∧ SW (tabT K) H0 Hb p q n G' ∧ ExtN G1 G', ⟨⟨_, _, rfl⟩, S.ext e1, ExtN.refl _⟩, ?_, ?_, ?_⟩
  · rintro i σ' G' hi ⟨_, _, e⟩
    exact sq_of (e _ _ h1 lst_tbl)
  · rintro i x σ' G' hi ⟨⟨c9', c13', rfl⟩, S', eN⟩
    obtain ⟨ox, hox, hx⟩ := hov.get hi
    obtain ⟨n1, n2, n3⟩ := hno ox (List.mem_of_getElem? hox)
    have hx' := hx.extN eN
    unfold gName
    dsimp only
    refine lam_bad (x := "BadPlace") (s := "place") (v := x) (.inr ⟨rfl, rfl⟩) S'.tabs (fun H2 E Q' e2 hbad => ?_) fun ta G2 e2 T2 h2 => ?_
    · have S2 := S'.but (G' := G') (fun _ _ _ _ h => h) S'.spr
      refine ⟨r, rfl, x, rfl, r, x, rfl, .inr ⟨z, dz.lw ((kw.gr S').extN e2) kw.st, .inl ⟨.no (hx'.extN e2) (by omega) n1, hbad⟩⟩⟩
    have S2 := S'.lam e2 T2
    refine ⟨by show 1 ≤ sizeLine; decide, fun lf hlf => ?_⟩
    have x3 : Ex G2 (upd G2 lf (.lst [.ref ta])) := Ex.new hlf
    have S3 := S2.ext x3
    have hx3 := (hx'.extN e2).ext x3
    refine ⟨.ref lf, rfl, .inl ⟨rfl, _, sq_of upd_same⟩, ?_⟩
    refine lam_bad (x := "BadPlace") (s := "place") (v := x) (.inr ⟨rfl, rfl⟩) S3.tabs (fun H4 E Q' e4 hbad => ?_) fun tu G4 e4 T4 h4 => ?_
    · refine ⟨r, rfl, x, rfl, r, x, .non, rfl, .inr ⟨z, dz.lw ((kw.gr S3).extN e4) kw.st, .inl ⟨.no (hx3.extN e4) (by omega) n1, hbad⟩⟩⟩
    have S4 := S3.lam e4 T4
    have hlf4 : G4 lf = some (.lst [.ref ta]) := e4 _ _ upd_same lst_tbl
    have hta4 : G4 ta = some (.tup [.str "place", x]) := e4 _ _ (x3 _ _ h2) tup_tbl
    refine ⟨lf, [.ref ta], .ref tu, rfl, rfl, hlf4, by show 1 < sizeLine; decide, ?_⟩
    have e25 : ExtN G2 (upd G4 lf (.lst ([.ref ta] ++ [.ref tu]))) := fun b' o' h t => by
      have e : b' ≠ lf := ne_of_none h hlf
      rw [upd_ne e]
      exact e4 _ _ (x3 _ _ h) t
    have S5 := S2.lam e25 (tabs_put T4 hlf4)
    have hx5 := (hx'.extN e2).extN e25
    have hta5 := e25 _ _ h2 tup_tbl
    have htu5 : (upd G4 lf (.lst ([.ref ta] ++ [.ref tu]))) tu = some (.tup [.str "place", x]) := by
      rw [upd_ne fun z => by rw [z, hlf4] at h4; cases h4]
      exact h4
    dsimp only
    refine s_same (m := 6) (o := .lst [.tup [.str "place", ox], .tup [.str "place", ox]]) ?_ ?_ ?_ (by decide) ?_ fun G7 e7 => ?_
    · exact evd_var (i := 9) rfl ⟨lf, _, rfl, upd_same, .cons ⟨ta, _, rfl, hta5, .cons rfl (.cons hx5 .nil)⟩ (.cons ⟨tu, _, rfl, htu5, .cons rfl (.cons hx5 .nil)⟩ .nil)⟩
    · exact evd_two (i := 13) rfl hx5
    · show max (max 0 (max ox.dq 0) + 1) (max (max 0 (max ox.dq 0) + 1) 0) + 1 < 6
      omega
    · show (1 + (ox.sz + 0) + 1) + ((1 + (ox.sz + 0) + 1) + 0) + 1 ≤ 40000
      omega
    · exact ⟨⟨_, _, rfl⟩, S5.ext e7, ((eN.trans e2).trans e25).trans (ExtN.of e7)⟩
  · rintro σ' G' ⟨⟨c9', c13', rfl⟩, S', _⟩
    exact k G' c9' c13' S'
end
end K23

set_option Elab.async false
set_option linter.all false
set_option maxRecDepth 100000
set_option maxHeartbeats 4000000
/-! The law's walk over one word: depth, variables, the end. -/
namespace K23
open PySem PySem.Spec PyProof.Rows L2 Evl LamX
def oVs (xs : List Str) : O := .lst (xs.map O.str)
theorem ovs_sVs {H : Hp} : ∀ xs : List Str, OVs H (sVs xs) (xs.map O.str)
  | [] => rfl
  | x :: xs => ⟨_, _, rfl, rfl, ovs_sVs xs⟩
theorem oVs_dq (xs : List Str) : (oVs xs).dq ≤ 1 := by
  show O.dqs (xs.map O.str) + 1 ≤ 1
  have : O.dqs (xs.map O.str) = 0 := by
    induction xs with
    | nil => rfl
    | cons a r ih => show max 0 (O.dqs (r.map O.str)) = 0; rw [ih]; rfl
  omega
theorem oVs_sz (xs : List Str) : (oVs xs).sz = xs.length + 1 := by
  show O.szs (xs.map O.str) + 1 = _
  have : O.szs (xs.map O.str) = xs.length := by
    induction xs with
    | nil => rfl
    | cons a r ih => show 1 + O.szs (r.map O.str) = r.length + 1; rw [ih]; omega
  omega
theorem varsL_one (z : W) : W.varsL [] [z] = z.vars := by
  show [] ++ z.vars.filter (fun s => !([] : List Str).contains s) = z.vars
  rw [List.nil_append]
  exact List.filter_eq_self.mpr fun _ _ => rfl
section
variable {K : PySem.W.Frag} {σ : L2.St} {H : Hp}
theorem evd_vars {E : L2.St → XK} {i : Nat} {v : V} {z : W} (h : σ[i]? = some (some v)) (hw : Lw H v z) : EvD (tCallS (spP1 K tVars) E (tCons (tVar i) tNil)) σ H (oVs z.vars) := fun H1 e Q q =>
  ev_var h H1 e _ fun H2 e2 => ⟨v, rfl, .inl ⟨z, hw.ext (e.trans e2), fun p G hp e3 h3 => q (.ref p) G (e2.trans e3) ⟨p, _, rfl, h3, ovs_sVs _⟩⟩⟩
theorem evd_ld {m i : Nat} {v : V} {z : W} (h : σ[i]? = some (some v)) (hw : WV H v z) (hd : z.dp < m) (hm : m ≤ 40) (hs : z.sz ≤ 1000) : EvD (tCall (spDe m) [] E0 (tCons (tVar i) tNil)) σ H (.int (z.de : Nat)) :=
  EvP.of (ev_call (ea_cons (ev_var h) ea_nil) (spv_de hw hd hm hs)) fun _ _ => rfl
theorem evd_dv {m i : Nat} {v : V} {z : W} (h : σ[i]? = some (some v)) (hw : WV H v z) (hd : z.dp < m) (hm : m ≤ 40) (hs : z.sz ≤ 900) : EvD (tCall (spDv m) [] E0 (tCons (tLst (tCons (tVar i) tNil)) tNil)) σ H (oVs z.vars) := fun H1 e Q q =>
  ⟨v, h, by show 1 ≤ sizeLine; decide, fun a ha => by
    have x1 : Ex H1 (upd H1 a (.lst [v])) := Ex.new ha
    refine ⟨a, [v], [z], rfl, upd_same, .cons ((WV.ext e hw).ext x1) .nil, fun z' hz' => ?_, hm, ?_, fun p G hp e2 h2 => ?_⟩
    · obtain rfl : z' = z := by simpa using hz'
      exact hd
    · show z.sz + 0 ≤ 1000
      omega
    · rw [varsL_one] at h2
      exact q (.ref p) G (x1.trans e2) ⟨p, _, rfl, h2, ovs_sVs _⟩⟩
end
section
variable {P : Program} {w : World} {K : PySem.W.Frag} {mg : Str → Option Value} {base : Heap} {f c : Addr} {A : Around} {outer : List Env} {s : Shared} {HX : Hp}
theorem wb11 (T : T23 P w K mg base) (hr : Room 40 (XW P w K mg base f c A outer s HX).A) : ∃ t, PS (XW P w K mg base f c A outer s HX) (stW 10) t ∧
    ∀ (D : Ends) (G : Hp) (c0 c1 c2 c3 c4 c5 c6 c7 c8 c9 c10 c11 c13 : Option V) (r : V) (z : W), Lw G r z →
      (∀ G' lf lv, Ex G G' → G lv = none → lv ≠ lf → G lf = none → G' lf = some (.lst [.int (z.de : Nat), .ref lv]) → G' lv = some (.lst (sVs z.vars)) → D.nx [c0, c1, c2, c3, c4, c5, c6, c7, c8, some (.ref lf), c10, c11, some r, c13] G') →
      t D [c0, c1, c2, c3, c4, c5, c6, c7, c8, c9, c10, c11, some r, c13] G := by
  obtain ⟨fA, dA, GA, bA, kA, mA⟩ := (ok_depth T).ex
  obtain ⟨fV, dV, GV, bV, kV, mV⟩ := (ok_variables_of T).ex
  refine ⟨_, ps_set (i := 9) sc_wr.nd rfl (Or.inl rfl) (pe_lst (pa_cons (pe_callS (sp := spP1 K tDepth) GA (hr.mono (by decide)) (by rfl) mA kA bA (fun σ => passAt L2.takes0 σ) (pa_cons (pv 12) pa_nil))
    (pa_cons (pe_callS (sp := spP1 K tVars) GV (hr.mono (by decide)) (by rfl) mV kV bV (fun σ => passAt L2.takes0 σ) (pa_cons (pv 12) pa_nil)) pa_nil))), ?_⟩
  intro D G c0 c1 c2 c3 c4 c5 c6 c7 c8 c9 c10 c11 c13 r z hw k
  refine ⟨r, rfl, r, rfl, .inl ⟨z, hw, fun G1 e1 => ?_⟩⟩
  refine ⟨r, rfl, r, rfl, .inl ⟨z, hw.ext e1, fun lv G2 hlv e2 h2 => ?_⟩⟩
  refine ⟨by show 2 ≤ sizeLine; decide, fun lf hlf => ?_⟩
  have x3 : Ex G2 (upd G2 lf (.lst [.int (z.de : Nat), .ref lv])) := Ex.new hlf
  exact k _ lf lv ((e1.trans e2).trans x3) (fresh_back e1 hlv) (ne_of_none h2 hlf) (fresh_back (e1.trans e2) hlf) upd_same (x3 _ _ h2)
theorem wb12 (T : T23 P w K mg base) (hr : Room 40 (XW P w K mg base f c A outer s HX).A) : ∃ t, PS (XW P w K mg base f c A outer s HX) (stW 11) t ∧
    ∀ (D : Ends) (G : Hp) (c0 c2 c3 c4 c5 c6 c7 c8 c10 c11 c12 c13 : Option V) (u : V) (z : W) (lf lv : Addr), Dz z → WV G u z → G lf = some (.lst [.int (z.de : Nat), .ref lv]) → G lv = some (.lst (sVs z.vars)) →
      (∀ G', Ex G G' → D.nx [c0, some u, c2, c3, c4, c5, c6, c7, c8, some (.ref lf), c10, c11, c12, c13] G') →
      t D [c0, some u, c2, c3, c4, c5, c6, c7, c8, some (.ref lf), c10, c11, c12, c13] G := by
  obtain ⟨fS, dS, GS, bS, kS, mS⟩ := (ok_same T 6).ex
  obtain ⟨fD, dD, GD, bD, kD, mD⟩ := (ok_law_depth T 12).ex
  obtain ⟨fV, dV, GV, bV, kV, mV⟩ := (ok_d_vars T 12).ex
  refine ⟨_, ps_if (pt_not (pt_val (pe_call GS (hr.mono (by decide)) (by rfl) mS kS bS .nil pass0 (pa_cons (pv 9) (pa_cons (pe_lst (pa_cons (pe_call GD (hr.mono (by decide)) (by rfl) mD kD bD .nil pass0 (pa_cons (pv 1) pa_nil))
    (pa_cons (pe_call GV (hr.mono (by decide)) (by rfl) mV kV bV .nil pass0 (pa_cons (pe_lst (pa_cons (pv 1) pa_nil)) pa_nil)) pa_nil))) pa_nil))))) (pss_one ps_never) pss_nil, ?_⟩
  intro D G c0 c2 c3 c4 c5 c6 c7 c8 c10 c11 c12 c13 u z lf lv dz hu hlf hlv k
  have hzs := W.sz_nd z
  have hnd := dz.nd
  have hvl := W.vars_len z
  refine s_same (m := 6) (o := .lst [.int (z.de : Nat), oVs z.vars]) ?_ (evd_lst2 ?_ ?_) ?_ (by decide) ?_ k
  · exact evd_var (i := 9) rfl ⟨lf, _, rfl, hlf, .cons rfl (.cons ⟨lv, _, rfl, hlv, ovs_sVs _⟩ .nil)⟩
  · exact evd_ld (i := 1) rfl hu dz.dp (by decide) (by omega)
  · exact evd_dv (i := 1) rfl hu dz.dp (by decide) (by omega)
  · have := oVs_dq z.vars
    show max 0 (max (oVs z.vars).dq 0) + 1 < 6
    omega
  · show 1 + ((oVs z.vars).sz + 0) + 1 ≤ 40000
    rw [oVs_sz]
    omega
theorem wb13 (T : T23 P w K mg base) : ∃ t, PS (XW P w K mg base f c A outer s HX) (stW 12) t ∧
    ∀ (D : Ends) (G0 G : Hp) (c0 c1 c2 c3 c4 c5 c6 c7 c8 c10 c11 c12 c13 : Option V) (z : W) (lf lv : Addr), Dz z → Ex G0 G → G0 lv = none → G lf = some (.lst [.int (z.de : Nat), .ref lv]) → G lv = some (.lst (sVs z.vars)) →
      (∀ G', Ex G0 G' → D.nx [c0, c1, c2, c3, c4, c5, c6, c7, c8, some (.ref lf), c10, c11, c12, c13] G') →
      t D [c0, c1, c2, c3, c4, c5, c6, c7, c8, some (.ref lf), c10, c11, c12, c13] G := by
  refine ⟨_, ps_expr (pe_bm PySem.F.plainAttrs_list PySem.F.slot_list_append PySem.F.type_list_append mt_append (pe_ix ix_list (pv 9) pe_int (fun _ _ => rfl)) (pa_cons pe_str pa_nil)), ?_⟩
  intro D G0 G c0 c1 c2 c3 c4 c5 c6 c7 c8 c10 c11 c12 c13 z lf lv dz e0 hn hlf hlv k
  have hzs := W.sz_nd z
  have hnd := dz.nd
  have hvl := W.vars_len z
  exact s_app hlv (ev_op (x := .ref lf) (y := .int 1) (ev_var rfl) ev_c (rv_ixL (sq_of hlf) (atI_nat (j := 1) rfl))) ev_c (by rw [sVs_len]; omega) fun G' e => k _ (Ex.mut (e0.trans e) hn)
theorem wb14 (T : T23 P w K mg base) (hr : Room 40 (XW P w K mg base f c A outer s HX).A) (hg : (XW P w K mg base f c A outer s HX).A.guards = some []) : ∃ t, PS (XW P w K mg base f c A outer s HX) (stW 13) t ∧
    ∀ (D : Ends) (G : Hp) (c0 c2 c3 c5 c6 c7 c8 c9 c10 c11 c13 : Option V) (u r : V) (z : W) (o : O), Dz z → WV G u z → OV G r o → o.strip = z.o → (∀ G', Ex G G' → D.rt (.bl true) G') →
      t D [c0, some u, c2, c3, some (.str o.py.shown), c5, c6, c7, c8, c9, c10, c11, some r, c13] G := by
  obtain ⟨fS, dS, GS, bS, kS, mS⟩ := (ok_same T 6).ex
  obtain ⟨fV, dV, GV, bV, kV, mV⟩ := (ok_d_vars T 12).ex
  obtain ⟨fA, dA, GA, bA, kA, mA⟩ := (ok_variables_of T).ex
  have hu := hr.un
  refine ⟨_, ps_ret (pe_and (pe_call GS (hr.mono (by decide)) (by rfl) mS kS bS .nil pass0 (pa_cons (pe_callS (sp := spP1 K tVars) GA (hr.mono (by decide)) (by rfl) mA kA bA (fun σ => passAt L2.takes0 σ) (pa_cons (pv 12) pa_nil))
      (pa_cons (pe_call GV (hr.mono (by decide)) (by rfl) mV kV bV .nil pass0 (pa_cons (pe_lst (pa_cons (pv 1) pa_nil)) pa_nil)) pa_nil)))
    (pe_one (pe_cmpR op_eq (pe_callB (call_repr hg (by omega)) (by rfl) T.repr PyProof.Rows.boot_repr (pa_cons (pv 12) pa_nil)) (pv 4) (nomark _)))), ?_⟩
  intro D G c0 c2 c3 c5 c6 c7 c8 c9 c10 c11 c13 u r z o dz hu hov hst k
  have hzs := W.sz_nd z
  have hnd := dz.nd
  have hvl := W.vars_len z
  refine s_ret (ev_andV (a := true) (b := true) (ev_same (m := 6) (o := oVs z.vars) (evd_vars (i := 12) rfl (dz.lw hov hst)) (evd_dv (i := 1) rfl hu dz.dp (by decide) (by omega)) (by have := oVs_dq z.vars; omega) (by decide) (by rw [oVs_sz]; omega)) fun _ => ?_) k
  exact ev_is (ev_op (ev_repr (ev_var (i := 12) rfl) hov hst dz) (ev_var (i := 4) rfl) (rv_eq rfl)) (congrArg V.bl (decide_eq_true rfl))
end
end K23

set_option Elab.async false
set_option linter.all false
set_option maxRecDepth 100000
set_option maxHeartbeats 4000000
/-! The law's walk over one word. -/
namespace K23
open PySem PySem.Spec PyProof.Rows L2 Evl LamX
def spWr (K : PySem.W.Frag) : Sp := fun vs H Q _ => ∃ (p q : Addr) (n : Int) (u v : V) (z y : W), vs = [.ref p, u, v] ∧ Spr H p q n ∧ n ≤ 60000 ∧ WV H u z ∧ WV H v y ∧ Dz z ∧ Dw 2 y ∧ Tabs (tabT K) H ∧
  ∀ (G : Hp) (n' : Int), Spr G p q n' → n' ≤ n + 15 * (z.nd : Nat) → Tabs (tabT K) G → Q (.bl true) G
section
variable {P : Program} {w : World} {K : PySem.W.Frag} {mg : Str → Option Value} {base : Heap}
theorem ok_word_right (T : T23 P w K mg base) (t2 : Tab2 K mg base) {fd : FuncData} (F : FnP K "_law_word_right" s__law_word_right (He.ga K "_law_word_right") fd) :
    FnG P w K mg base 41 (He.ga K "_law_word_right") fd ["_law_stream", "_law_word", "_law_part"] (spWr K) := by
  refine FnG.of F sc_wr (fun vs H Q E h => ?_) (fun c ⟨oc, od, osl, lk, ec⟩ A outer s H vs Q hg hr h => ?_)
  · obtain ⟨p, q, n, u, v, z, y, rfl, _⟩ := h
    rfl
  · obtain ⟨p, q, n, u, v, z, y, rfl, S, hn, hu, hv, dz, dy, hT, kf⟩ := h
    have hc : He.codeOf K ("_law_word_right", none) = c := He.codeOf_eq (p := ("_law_word_right", none)) lk ec
    obtain ⟨t1, p1, k1⟩ := wb1 (c := c) (outer := outer) (s := s) (HX := H) T hr
    obtain ⟨t2', p2, k2⟩ := wb2 (c := c) (outer := outer) (s := s) (HX := H) T hr hg
    obtain ⟨t3, p3, k3⟩ := wb3 (c := c) (outer := outer) (s := s) (HX := H) T hr
    obtain ⟨t4, p4, k4⟩ := wb4 (f := He.ga K "_law_word_right") (c := c) (A := A) (outer := outer) (s := s) (HX := H) T
    obtain ⟨t5, p5, k5⟩ := wb5 (f := He.ga K "_law_word_right") (c := c) (A := A) (outer := outer) (s := s) (HX := H) T
    obtain ⟨t6, p6, k6⟩ := wb6 (c := c) (outer := outer) (s := s) (HX := H) T hr
    obtain ⟨t7, p7, k7⟩ := wb7 (c := c) (outer := outer) (s := s) (HX := H) T hr
    obtain ⟨t8, p8, k8⟩ := wb8 (f := He.ga K "_law_word_right") (c := c) (A := A) (outer := outer) (s := s) (HX := H) T
    obtain ⟨t9, p9, k9⟩ := wb9 (f := He.ga K "_law_word_right") (c := c) (A := A) (outer := outer) (s := s) (HX := H) T
    obtain ⟨t10, p10, k10⟩ := wb10 (outer := outer) (s := s) (HX := H) T t2 hc hr
    obtain ⟨t11, p11, k11⟩ := wb11 (c := c) (outer := outer) (s := s) (HX := H) T hr
    obtain ⟨t12, p12, k12⟩ := wb12 (c := c) (outer := outer) (s := s) (HX := H) T hr
    obtain ⟨t13, p13, k13⟩ := wb13 (f := He.ga K "_law_word_right") (c := c) (A := A) (outer := outer) (s := s) (HX := H) T
    obtain ⟨t14, p14, k14⟩ := wb14 (c := c) (outer := outer) (s := s) (HX := H) T hr hg
    refine ⟨tSeq t1 (tSeq t2' (tSeq t3 (tSeq t4 (tSeq t5 (tSeq t6 (tSeq t7 (tSeq t8 (tSeq t9 (tSeq t10 (tSeq t11 (tSeq t12 (tSeq t13 t14)))))))))))),
      PSs.nox (pss_cons p1 (pss_cons p2 (pss_cons p3 (pss_cons p4 (pss_cons p5 (pss_cons p6 (pss_cons p7 (pss_cons p8 (pss_cons p9 (pss_cons p10 (pss_cons p11 (pss_cons p12 (pss_cons p13 (pss_one p14)))))))))))))), ?_⟩
    have hnd := dz.nd
    refine k1 _ H p q n u v z y S (by omega) hT hu hv dz dy fun Hb pp r ps o n1 SWb hn1 kw => ?_
    have hpl : ps.length = z.nd := by rw [kw.pa.length, W.parts_nd]
    refine k2 _ Hb _ _ _ _ _ _ _ _ _ _ _ _ _ r z o (kw.gr SWb) kw.st dz fun G2 p2 xs e2 np2 h2 hA => ?_
    have S2 := SWb.ext e2
    refine k3 _ G2 _ _ _ _ _ _ _ _ _ _ _ _ pp p2 xs ps z _ _ dz h2 hA (kw.gp S2) (kw.gpa S2) fun G3 e3 => ?_
    have hxl : xs.length ≤ 1000 := by
      have := hA.length
      unfold plc at this
      rw [List.length_map, W.parts_nd] at this
      omega
    refine k4 _ Hb G3 _ _ _ _ _ _ _ _ _ _ _ _ _ p2 xs (plc z) (e2.trans e3) np2 (e3 _ _ h2) (hA.mono fun a b h => h.mut (fun c o _ h => e3 _ _ h) fun _ q => q) (fun q hq => ?_) hxl fun G4 c6 e4 h4 => ?_
    · obtain ⟨qq, hqq, rfl⟩ := List.mem_map.mp hq
      have := W.parts_deep z qq hqq
      have := dz.dp
      omega
    refine k5 _ Hb G4 _ _ _ _ _ _ _ _ _ _ _ _ _ p2 xs e4 np2 h4 hxl fun G5 e5 => ?_
    have S5 := SWb.ext e5
    refine k6 _ G5 _ _ _ _ _ _ _ _ _ _ _ _ u pp ps z _ dz (kw.gu S5) (kw.gp S5) (kw.gpa S5) fun G6 e6 => ?_
    have S6 := S5.ext e6
    refine k7 _ H Hb G6 _ _ _ _ _ _ _ _ _ p q pp u v r ps z y o n1 kw S6 (by omega) fun G7 c6' c7' c8' c9' n7 S7 hn7 => ?_
    refine k8 _ G7 _ _ _ _ _ _ _ _ _ _ _ _ _ pp ps z _ dz (kw.gp S7) (kw.gpa S7) fun G8 a8 xs8 e8 h8 ho8 => ?_
    have S8 := S7.ext e8
    refine k9 _ G8 _ _ _ _ _ _ _ _ _ _ _ _ _ a8 xs8 z dz h8 ho8 fun G9 b9 ys9 e9 h9 ho9 => ?_
    have S9 := S8.ext e9
    refine k10 _ H Hb G9 _ _ _ _ _ _ _ _ p q pp b9 u v r ps ys9 z y o n7 kw S9 h9 ho9 fun G10 c9'' c13'' S10 => ?_
    refine k11 _ G10 _ _ _ _ _ _ _ _ _ _ _ _ _ r z (kw.lw S10) fun G11 lf lv e11 nlv hne nlf hlf hlv => ?_
    have S11 := S10.ext e11
    refine k12 _ G11 _ _ _ _ _ _ _ _ _ _ _ _ u z lf lv dz (kw.gu S11) hlf hlv fun G12 e12 => ?_
    refine k13 _ G10 G12 _ _ _ _ _ _ _ _ _ _ _ _ _ z lf lv dz (e11.trans e12) nlv (e12 _ _ hlf) (e12 _ _ hlv) fun G13 e13 => ?_
    have S13 := S10.ext e13
    refine k14 _ G13 _ _ _ _ _ _ _ _ _ _ _ u r z o dz (kw.gu S13) (kw.gr S13) kw.st fun G14 e14 => ?_
    have S14 := S13.ext e14
    exact kf G14 n7 S14.spr (by omega) S14.tabs
end
end K23

set_option Elab.async false
set_option linter.all false
set_option maxRecDepth 100000
set_option maxHeartbeats 4000000
/-! The law: the drawn words. -/
namespace K23
open PySem PySem.Spec PyProof.Rows L2 Evl LamX
abbrev nLw : List Str := ["_law_script", "_law_stream", "_law_turn", "_law_variables", "_law_word", "_law_held", "_law_found", "_law_odd", "_law_ask"]
theorem sc_lw : FnScope nLw ["_law_script"] (defScope s_law) := ⟨rfl, rfl, rfl, by decide +kernel, rfl, by decide +kernel, by decide +kernel⟩
abbrev XL (P : Program) (w : World) (K : PySem.W.Frag) (mg : Str → Option Value) (base : Heap) (f c : Addr) (A : Around) (outer : List Env) (s : Shared) (H : Hp) : Cx := (cxOf CX0 P w K mg base nLw "law" (defScope s_law) f (.ref c) A outer s H E0).nox
def stL (i : Nat) : Stmt := (defBody s_law).getD i (.Pass ⟨0, 0, 0, 0⟩)
/-- a word that the law asks of -/
structure Aw (z : W) : Prop where
  dz : Dz z
  nd : z.nd ≤ 130
  fit : z.o.fit = true
  dp : z.dp ≤ 6
theorem Dw.aw {z : W} (h : Dw 4 z) : Aw z := ⟨h.dz (by decide), by have := h.nd; rw [nN4] at this; omega, h.fit, by have := h.dp; omega⟩
theorem cut_toV (xs : List V) (k : Nat) : cutV xs none (some (k : Nat)) = xs.take k := by
  unfold cutV
  rw [HT.sIx_none]
  have := HT.sIx_nat xs.length xs.length k
  rw [this]
  simp
theorem sv_take (k : Nat) : ([V.str "X", V.str "Y", V.str "Z12", V.str "A"] : List V).take k = sVs (SV.take k) := by
  unfold sVs
  rw [List.map_take]
  rfl
section
variable {P : Program} {w : World} {K : PySem.W.Frag} {mg : Str → Option Value} {base : Heap} {f c : Addr} {A : Around} {outer : List Env} {s : Shared} {HX : Hp}
theorem lb1 (T : T23 P w K mg base) (t2 : Tab2 K mg base) (hr : Room 45 (XL P w K mg base f c A outer s HX).A) (hg : (XL P w K mg base f c A outer s HX).A.guards = some []) : ∃ t, PS (XL P w K mg base f c A outer s HX) (stL 1) t ∧
    ∀ (D : Ends) (G : Hp) (c0 c2 c3 c4 c5 c6 c7 c8 : Option V) (p q : Addr), Spr G p q 0 → Tabs (tabT K) G →
      (∀ G' c2' c3' c4', Tabs (tabT K) G' → D.nx [c0, some (.ref p), c2', c3', c4', c5, c6, c7, c8] G') →
      t D [c0, some (.ref p), c2, c3, c4, c5, c6, c7, c8] G := by
  obtain ⟨fD, dD, GD, bD, kD, mD⟩ := (ok_dr T).ex
  obtain ⟨f4, d4, G4, b4, k4, m4⟩ := (ok_d_word T 4).ex
  obtain ⟨f2, d2, G2, b2, k2, m2⟩ := (ok_d_word T 2).ex
  obtain ⟨fA, dA, GA, bA, kA, mA⟩ := (ok_d_atom T).ex
  obtain ⟨⟨fdR, FR⟩, mR⟩ := T.df 41 "_law_word_right" s__law_word_right rfl
  have GR := ok_word_right T t2 FR
  have bR := FR.bindsN (ps := ["_law_stream", "_law_word", "_law_part"]) fun kV doc pm an cdv ct us hl => match us, hl with | [_, _, _], _ => rfl
  refine ⟨_, ps_for PassesOwn.never rfl (pi_range1 (by rfl) T.range (pa_cons pe_int pa_nil)) (pg_name (i := 2) sc_lw.nd rfl (Or.inl rfl))
    (pss_cons (ps_set (i := 3) sc_lw.nd rfl (Or.inl rfl) (pe_slice sl_list (pe_lst (pa_cons pe_str (pa_cons pe_str (pa_cons pe_str (pa_cons pe_str pa_nil))))) po_none (po_some (pe_call GD (hr.mono (by decide)) (by rfl) mD kD bD .nil pass0 (pa_cons (pv 1) (pa_cons pe_int pa_nil))))))
    (pss_cons (ps_set (i := 4) sc_lw.nd rfl (Or.inl rfl) (pe_call G4 (hr.mono (by decide)) (by rfl) m4 k4 b4 .nil pass0 (pa_cons (pv 1) (pa_cons pe_int (pa_cons (pv 3) pa_nil)))))
    (pss_cons (ps_if (pt_cmpR op_eq (pe_op op_mod (pv 2) pe_int) pe_int (nomark _)) (pss_one (ps_set (i := 4) sc_lw.nd rfl (Or.inl rfl) (pe_call GA (hr.mono (by decide)) (by rfl) mA kA bA .nil pass0 (pa_cons (pv 1) (pa_cons pe_int (pa_cons (pv 3) pa_nil)))))) pss_nil)
    (pss_cons (ps_if (pt_cmpR op_eq (pv 2) pe_int (nomark _)) (pss_one (ps_set (i := 4) sc_lw.nd rfl (Or.inl rfl) (pe_tup (pa_cons pe_str (pa_cons (pv 4) (pa_cons (pe_call G2 (hr.mono (by decide)) (by rfl) m2 k2 b2 .nil pass0 (pa_cons (pv 1) (pa_cons pe_int (pa_cons (pv 3) pa_nil)))) pa_nil)))))) pss_nil)
    (pss_one (ps_if (pt_not (pt_val (pe_callG GR hg (hr.mono (by decide)) (by rfl) mR FR.kp bR (pa_cons (pv 1) (pa_cons (pv 4) (pa_cons (pe_call G2 (hr.mono (by decide)) (by rfl) m2 k2 b2 .nil pass0 (pa_cons (pv 1) (pa_cons pe_int (pa_cons (pv 3) pa_nil)))) pa_nil)))))) (pss_one ps_never) pss_nil)))))), ?_⟩
  intro D G c0 c2 c3 c4 c5 c6 c7 c8 p q S hT k
  have hkk4 : kk 4 = 242 := rfl
  have hkk2 : kk 2 = 26 := rfl
  obtain ⟨L0, L1, hp0, hq0⟩ := S.lst
  refine s_forR1 (n := 9) (ea_cons ev_c ea_nil) (by decide) (fun i σ' G' => (∃ c2' c3' c4', σ' = [c0, some (.ref p), c2', c3', c4', c5, c6, c7, c8]) ∧ ∃ n', Spr G' p q n' ∧ n' ≤ 3500 * (i : Nat) ∧ Tabs (tabT K) G') ?_ ?_ ?_
  · intro G1 e1
    exact ⟨⟨_, _, _, rfl⟩, 0, S.ext e1, by omega, hT.ext e1⟩
  · rintro i σ' G' hi ⟨⟨c2', c3', c4', rfl⟩, n', S', hn', T'⟩
    refine ⟨by show 4 ≤ sizeLine; decide, fun l hl => ?_⟩
    have x1 : Ex G' (upd G' l (.lst [V.str "X", V.str "Y", V.str "Z12", V.str "A"])) := Ex.new hl
    obtain ⟨l1, l2⟩ := S'.nep hl
    have S1 := S'.ext x1
    refine ⟨.ref p, rfl, p, q, n', 5, rfl, S1, by omega, by decide, by decide, fun rr G2 r0 r1 S2 B2 => ?_⟩
    have T2 := tabs_but (T'.ext x1) B2 S1
    obtain ⟨j, rfl⟩ : ∃ j : Nat, rr = (j : Int) := ⟨rr.toNat, by omega⟩
    refine ⟨(j : Int), rfl, l, _, rfl, sq_of (B2 _ _ l1 l2 upd_same), fun va hva => ?_⟩
    rw [cut_toV, sv_take]
    have x3 : Ex G2 (upd G2 va (.lst (sVs (SV.take j)))) := Ex.new hva
    obtain ⟨v1, v2⟩ := S2.nep hva
    have S3 := S2.ext x3
    have T3 := T2.ext x3
    have hvl : (SV.take j).length ≤ 4 := by rw [List.length_take]; show min j 4 ≤ 4; omega
    have hvs : ∀ s ∈ SV.take j, s ∈ SV := fun s hs => List.mem_of_mem_take hs
    -- the asking
    have last : ∀ (u : V) (z : W) (n2 : Int) (J : Hp), Spr J p q n2 → n2 ≤ n' + 700 → Tabs (tabT K) J → WV J u z → Dz z → z.nd ≤ 150 → J va = some (.lst (sVs (SV.take j))) →
        tIfS (tNot (tB (tCall (spWr K) [] E0 (tCons (tVar 1) (tCons (tVar 4) (tCons (tCall (spDw 2) [] E0 (tCons (tVar 1) (tCons (tC (.int 2)) (tCons (tVar 3) tNil)))) tNil)))))) tNever tNext
          { nx := fun σ' G' => (∃ c2' c3' c4', σ' = [c0, some (.ref p), c2', c3', c4', c5, c6, c7, c8]) ∧ ∃ n', Spr G' p q n' ∧ n' ≤ 3500 * ((i + 1 : Nat) : Nat) ∧ Tabs (tabT K) G', rt := D.rt, bk := D.nx, ct := fun σ' G' => (∃ c2' c3' c4', σ' = [c0, some (.ref p), c2', c3', c4', c5, c6, c7, c8]) ∧ ∃ n', Spr G' p q n' ∧ n' ≤ 3500 * ((i + 1 : Nat) : Nat) ∧ Tabs (tabT K) G' }
          [c0, some (.ref p), some (.int (i : Nat)), some (.ref va), some u, c5, c6, c7, c8] J := by
      intro u z n2 J SJ hn2 TJ hu dz hz hva
      refine ⟨.ref p, rfl, u, rfl, .ref p, rfl, .ref va, rfl, p, q, va, n2, SV.take j, rfl, SJ, by omega, hva, v1, v2, hvl, hvs, fun y J2 n3 zy S4 hn3 B4 hy dy => ?_⟩
      have T4 := tabs_but TJ B4 SJ
      refine ⟨p, q, n3, u, y, z, zy, rfl, S4, by omega, hu.tx (SJ.tx B4), hy, dz, dy, T4, fun J3 n4 S5 hn4 T5 => ?_⟩
      refine ⟨_, rfl, ?_⟩
      exact ⟨⟨_, _, _, rfl⟩, n4, S5, by omega, T5⟩
    -- with "=" before
    have mid : ∀ (u : V) (z : W) (n2 : Int) (J : Hp), Spr J p q n2 → n2 ≤ n' + 660 → Tabs (tabT K) J → WV J u z → Aw z → J va = some (.lst (sVs (SV.take j))) →
        tSeq (tIfS (tTest (tOp rEq (tVar 2) (tC (.int 8)))) (tAsg (tTup (tCons (tC (.str "=")) (tCons (tVar 4) (tCons (tCall (spDw 2) [] E0 (tCons (tVar 1) (tCons (tC (.int 2)) (tCons (tVar 3) tNil)))) tNil)))) (gName 4)) tNext)
          (tIfS (tNot (tB (tCall (spWr K) [] E0 (tCons (tVar 1) (tCons (tVar 4) (tCons (tCall (spDw 2) [] E0 (tCons (tVar 1) (tCons (tC (.int 2)) (tCons (tVar 3) tNil)))) tNil)))))) tNever tNext)
          { nx := fun σ' G' => (∃ c2' c3' c4', σ' = [c0, some (.ref p), c2', c3', c4', c5, c6, c7, c8]) ∧ ∃ n', Spr G' p q n' ∧ n' ≤ 3500 * ((i + 1 : Nat) : Nat) ∧ Tabs (tabT K) G', rt := D.rt, bk := D.nx, ct := fun σ' G' => (∃ c2' c3' c4', σ' = [c0, some (.ref p), c2', c3', c4', c5, c6, c7, c8]) ∧ ∃ n', Spr G' p q n' ∧ n' ≤ 3500 * ((i + 1 : Nat) : Nat) ∧ Tabs (tabT K) G' }
          [c0, some (.ref p), some (.int (i : Nat)), some (.ref va), some u, c5, c6, c7, c8] J := by
      intro u z n2 J SJ hn2 TJ hu az hva
      refine q_when (et_test (ev_op (ev_var (i := 2) rfl) ev_c (rv_eq rfl))) (fun hb J1 e1 => ?_) fun hb J1 e1 => ?_
      · refine ⟨u, rfl, .ref p, rfl, .ref va, rfl, p, q, va, n2, SV.take j, rfl, SJ.ext e1, by omega, e1 _ _ hva, v1, v2, hvl, hvs, fun y J2 n3 zy S4 hn3 B4 hy dy => ?_⟩
        refine ⟨by show 3 ≤ sizeLine; decide, fun t ht => ?_⟩
        have x5 : Ex J2 (upd J2 t (.tup [.str "=", u, y])) := Ex.new ht
        obtain ⟨hd, hnd⟩ := Dz.eq az.dz az.fit az.nd az.dp dy
        have T4 := tabs_but (TJ.ext e1) B4 (SJ.ext e1)
        exact last (.ref t) (.n "=" [z, zy]) n3 _ (S4.ext x5) (by omega) (T4.ext x5) (WV.of upd_same (.cons (((hu.ext e1).tx ((SJ.ext e1).tx B4)).ext x5) (.cons (hy.ext x5) .nil))) hd hnd (x5 _ _ (B4 _ _ v1 v2 (e1 _ _ hva)))
      · exact last u z n2 J1 (SJ.ext e1) (by omega) (TJ.ext e1) (hu.ext e1) az.dz (by have := az.nd; omega) (e1 _ _ hva)
    refine ⟨.ref p, rfl, .ref va, rfl, p, q, va, n' + 1, SV.take j, rfl, S3, by omega, upd_same, v1, v2, hvl, hvs, fun u J n2 z SJ hn2 BJ hu dw => ?_⟩
    have TJ := tabs_but T3 BJ S3
    have hvaJ : J va = some (.lst (sVs (SV.take j))) := BJ _ _ v1 v2 upd_same
    refine q_when (et_test (ev_op (x := .int ((i : Int) % 3)) (ev_op (ev_var (i := 2) rfl) ev_c (rv_I (by decide))) ev_c (rv_eq rfl))) (fun hb J1 e1 => ?_) fun hb J1 e1 => ?_
    · refine ⟨.ref p, rfl, .ref va, rfl, p, q, va, n2, SV.take j, rfl, SJ.ext e1, by omega, e1 _ _ hvaJ, v1, v2, hvl, hvs, fun u2 J2 n3 z2 S4 hn3 B4 hu2 dz2 hz2 => ?_⟩
      exact mid u2 z2 n3 J2 S4 (by omega) (tabs_but (TJ.ext e1) B4 (SJ.ext e1)) hu2 ⟨dz2, hz2.1, hz2.2.1, hz2.2.2⟩ (B4 _ _ v1 v2 (e1 _ _ hvaJ))
    · exact mid u z n2 J1 (SJ.ext e1) (by omega) (TJ.ext e1) (hu.ext e1) dw.aw (e1 _ _ hvaJ)
  · rintro σ' G' ⟨⟨c2', c3', c4', rfl⟩, n', S', hn', T'⟩
    exact k G' c2' c3' c4' T'
end
end K23

set_option Elab.async false
set_option linter.all false
set_option maxRecDepth 100000
set_option maxHeartbeats 4000000
/-! The law: what is no word. -/
namespace K23
open PySem PySem.Spec PyProof.Rows L2 Evl LamX
/-- a call of the def that a name holds, its errors told -/
def tCallLS (i : Nat) (f : Addr) (sp : Sp) (E : L2.St → XK) (t : TA) : TE := fun σ H Q => σ[i]? = some (some (.ref f)) ∧ t σ H fun vs H1 => sp vs H1 Q (E σ)
section
variable {X : Cx} {CX : CXT} {k i : Nat} {f : Addr} {fd : FuncData} {ps : List Str} {sp : Sp} {E : L2.St → XK} {x : Str} {p pos : Pos} {e : Expr} {es : List Expr} {t : TA}
theorem pe_callLS (F : FnOk X.prog X.w X.K X.mg X.base CX k f fd ps sp) (hr : Room k X.A) (hN : X.N[i]? = some x) (hv : Vis X.env.scope x) (hk : PySem.W.keepIn X.K (.ref f) = true) (hb : Binds X.K fd ps []) (hx : ∀ σ, PassesAt CX X σ (E σ)) (ha : PA X (e :: es) t)
    (hdb : (x == ("__debug__" : Str)) = false := by decide) (hcd : (x == ("__classdict__" : Str)) = false := by decide)
    (he : starEach (e :: es) X.env = (false, eval e X.env) :: starEach es X.env := by rfl) (hpl : (backTo pos (starEach es X.env)).any (·.1) = false := by rfl) : PE X (.Call (.Name x p) (e :: es) [] pos) (tCallLS i f sp E t) := by
  refine ⟨fun pins s σ H Q I h => ?_⟩
  obtain ⟨hs, ht⟩ := h
  refine wpAny_Call_Name_kw (thn ((pe_var (pos := p) hN hv hdb hcd).run pins s σ H (fun v H1 => v = .ref f ∧ H1 = H) I ⟨.ref f, hs, rfl, rfl⟩) fun u s1 ⟨v, H1, I1, r1, q1⟩ => ?_)
  obtain ⟨rfl, rfl⟩ := q1
  cases r1
  refine PySem.W.callWith_K (h₀ := X.base) I.ok.mod.kin hk (thn (ha.run pos pins s1 σ _ _ I1 ht) fun us s2 ⟨vs, H2, I2, r, q⟩ => ⟨I2.kIn, ?_⟩) he hpl
  exact run_fnS F hr hb (hx σ) I2 r q
theorem pe_or2 {e : Expr} {t1 t2 : TE} (h1 : PE X e t1) (h2 : PE X e t2) : PE X e (fun σ H Q => t1 σ H Q ∨ t2 σ H Q) := ⟨fun pins s σ H Q I h => by
  rcases h with h | h
  · exact h1.run pins s σ H Q I h
  · exact h2.run pins s σ H Q I h⟩
end
abbrev WEe (E : XK) : L2.St → XK := fun σ => WE (fun cls d _ H => E cls d H) σ
/-- the odd thing asked by what a name holds -/
def tAskO (K : PySem.W.Frag) (fP fD fV : Addr) : XK → TE := fun E σ H Q => tCallLS 8 fP (spP1 K tPlaces) (WEe E) (tCons (tVar 7) tNil) σ H Q ∨ (tCallLS 8 fD (spP1 K tDepth) (WEe E) (tCons (tVar 7) tNil) σ H Q ∨ tCallLS 8 fV (spP1 K tVars) (WEe E) (tCons (tVar 7) tNil) σ H Q)
abbrev tAskB (K : PySem.W.Frag) : XK → TE := fun E => tCallS (spWa K) (WEe E) (tCons (tVar 7) (tCons (tC .non) tNil))
abbrev tAskC (K : PySem.W.Frag) : XK → TE := fun E => tCallS (spWu K) (WEe E) (tCons (tVar 7) (tCons (tC .non) (tCons (tC .non) tNil)))
abbrev tAskE (K : PySem.W.Frag) : XK → TE := fun E => tCallS (spWu K) (WEe E) (tCons (tC (.str "X")) (tCons (tLst tNil) (tCons (tVar 7) tNil)))
/-- the pairs ("word", x) -/
def Prs (G : Hp) (x : V) (acc : List V) (n : Nat) : Prop := acc.length = n ∧ ∀ a ∈ acc, ∃ t, a = .ref t ∧ G t = some (.tup [.str "word", x])
theorem Prs.extN {G G' : Hp} {x : V} {acc : List V} {n : Nat} (h : Prs G x acc n) (e : ExtN G G') : Prs G' x acc n := ⟨h.1, fun a ha => by
  obtain ⟨t, h1, h2⟩ := h.2 a ha
  exact ⟨t, h1, e _ _ h2 tup_tbl⟩⟩
theorem Prs.tx {G G' : Hp} {x : V} {acc : List V} {n : Nat} (h : Prs G x acc n) (e : Tx G G') : Prs G' x acc n := ⟨h.1, fun a ha => by
  obtain ⟨t, h1, h2⟩ := h.2 a ha
  exact ⟨t, h1, e _ _ h2⟩⟩
theorem Prs.snoc {G : Hp} {x : V} {acc : List V} {n : Nat} {t : Addr} (h : Prs G x acc n) (e : G t = some (.tup [.str "word", x])) : Prs G x (acc ++ [.ref t]) (n + 1) := ⟨by simp [h.1], fun a ha => by
  rcases List.mem_append.mp ha with ha | ha
  · exact h.2 a ha
  · exact ⟨t, by simpa using ha, e⟩⟩
theorem Prs.ov {G : Hp} {x : V} {o : O} (hx : OV G x o) : ∀ {n : Nat} {acc : List V}, Prs G x acc n → OVs G acc (List.replicate n (.tup [.str "word", o]))
  | 0, acc, h => by
    obtain rfl := List.length_eq_zero_iff.mp h.1
    rfl
  | n + 1, [], h => nomatch h.1
  | n + 1, a :: r, h => by
    obtain ⟨t, rfl, ht⟩ := h.2 a (List.mem_cons_self ..)
    exact .cons ⟨t, _, rfl, ht, .cons rfl (.cons hx .nil)⟩ (Prs.ov hx ⟨by have := h.1; simp at this; exact this, fun b hb => h.2 b (List.mem_cons_of_mem _ hb)⟩)
theorem flat_rep (n : Nat) (x : V) : (List.replicate n [x]).flatten = List.replicate n x := by
  induction n with
  | zero => rfl
  | succ n ih => rw [List.replicate_succ, List.flatten_cons, ih]; rfl
theorem rep_dq (n : Nat) (o : O) : (O.lst (List.replicate n (.tup [.str "word", o]))).dq ≤ o.dq + 2 := by
  show O.dqs (List.replicate n _) + 1 ≤ _
  have : O.dqs (List.replicate n (.tup [.str "word", o])) ≤ o.dq + 1 := by
    induction n with
    | zero => exact Nat.zero_le _
    | succ n ih =>
      show max (max 0 (max o.dq 0) + 1) (O.dqs (List.replicate n _)) ≤ _
      omega
  omega
theorem rep_sz (n : Nat) (o : O) : (O.lst (List.replicate n (.tup [.str "word", o]))).sz = n * (o.sz + 2) + 1 := by
  show O.szs (List.replicate n _) + 1 = _
  have : O.szs (List.replicate n (.tup [.str "word", o])) = n * (o.sz + 2) := by
    induction n with
    | zero => simp [O.szs]
    | succ n ih =>
      show (1 + (o.sz + 0) + 1) + O.szs (List.replicate n _) = (n + 1) * (o.sz + 2)
      rw [ih, Nat.add_mul]
      omega
  omega
section
variable {K : PySem.W.Frag} {σ : L2.St} {H : Hp} {o : O}
/-- [("..", x)] * n -/
theorem evd_rep {i n : Nat} {v : V} (h : σ[i]? = some (some v)) (hv : OV H v o) (hn : n ≤ 100) : EvD (tOp rRep (tLst (tCons (tTup (tCons (tC (.str "word")) (tCons (tVar i) tNil))) tNil)) (tC (.int (n : Nat)))) σ H (.lst (List.replicate n (.tup [.str "word", o]))) := fun H1 e Q q =>
  ⟨v, h, by show 2 ≤ sizeLine; decide, fun t ht => ⟨by show 1 ≤ sizeLine; decide, fun l hl => ⟨l, (n : Nat), [.ref t], rfl, rfl, upd_same, by omega, by omega, sz_of (by simp; omega), fun p hp => by
    have x1 : Ex H1 (upd H1 t (.tup [.str "word", v])) := Ex.new ht
    have x2 := (Ex.new (H := upd H1 t (.tup [.str "word", v])) (o := .lst [.ref t]) hl)
    have x3 := (Ex.new (H := upd (upd H1 t (.tup [.str "word", v])) l (.lst [.ref t])) (o := .lst (List.replicate ((n : Nat) : Int).toNat [V.ref t]).flatten) hp)
    have x23 := x2.trans x3
    have e1 : (List.replicate ((n : Nat) : Int).toNat [V.ref t]).flatten = List.replicate n (V.ref t) := flat_rep n _
    have hp2 : Prs (upd (upd (upd H1 t (.tup [.str "word", v])) l (.lst [.ref t])) p (.lst (List.replicate ((n : Nat) : Int).toNat [V.ref t]).flatten)) v (List.replicate n (V.ref t)) n := ⟨by simp, fun a ha => ⟨t, List.eq_of_mem_replicate ha, x23 _ _ upd_same⟩⟩
    refine q (.ref p) _ (x1.trans x23) ⟨p, _, rfl, upd_same, ?_⟩
    rw [e1]
    rw [e1] at hp2
    exact Prs.ov (((hv.ext e).ext x1).ext (by rw [e1] at x23; exact x23)) hp2⟩⟩⟩
end
end K23

set_option Elab.async false
set_option linter.all false
set_option maxRecDepth 100000
set_option maxHeartbeats 4000000
/-! The law: what is no word, asked. -/
namespace K23
open PySem PySem.Spec PyProof.Rows L2 Evl LamX
def heldO (n : Nat) : List O := .str "X" :: List.replicate n (.str "late")
def heldV (n : Nat) : List V := .str "X" :: List.replicate n (.str "late")
theorem held_ov {G : Hp} (n : Nat) : OVs G (heldV n) (heldO n) := .cons rfl (by
  induction n with
  | zero => rfl
  | succ n ih => exact .cons rfl ih)
theorem held_snoc (n : Nat) : heldV n ++ [.str "late"] = heldV (n + 1) := by
  unfold heldV
  rw [List.cons_append, ← List.replicate_succ']
theorem held_odd : oddB (.lst (heldO 22)) = true := by decide +kernel
theorem odds_small : odds.all (fun o => decide (o.dq ≤ 3) && decide (o.sz ≤ 100)) = true := by decide +kernel
theorem heldO_dq (n : Nat) : (O.lst (heldO n)).dq ≤ 3 := by
  show max 0 (O.dqs (List.replicate n (.str "late"))) + 1 ≤ 3
  have : O.dqs (List.replicate n (.str "late")) = 0 := by
    induction n with
    | zero => rfl
    | succ n ih => show max 0 (O.dqs (List.replicate n _)) = 0; rw [ih]; rfl
  omega
theorem heldO_sz (n : Nat) : (O.lst (heldO n)).sz = n + 2 := by
  show 1 + O.szs (List.replicate n (.str "late")) + 1 = _
  have : O.szs (List.replicate n (.str "late")) = n := by
    induction n with
    | zero => rfl
    | succ n ih => show 1 + O.szs (List.replicate n _) = n + 1; rw [ih]; omega
  omega
/-- found.append(_law_d_met(lambda: ..)) -/
theorem s_applam {K : PySem.W.Frag} {σ : L2.St} {J : Hp} {D : Ends} {tk : XK → TE} {x : V} {acc : List V} {n : Nat} {Dl : Addr} (h6 : σ[6]? = some (some (.ref Dl))) (hD : J Dl = some (.lst acc)) (hP : Prs J x acc n) (hn : n ≤ 50) (hT : Tabs (tabT K) J)
    (ht : ∀ (H1 : Hp) (E : XK) (Q' : VK), ExtN J H1 → Bad K "BadWord" x H1 E → tk E σ H1 Q')
    (k : ∀ (J' : Hp) (acc' : List V), Go (fun b => b = Dl) J J' → Tabs (tabT K) J' → J' Dl = some (.lst acc') → Prs J' x acc' (n + 1) → D.nx σ J') : tDrop (tBM K "list" rAppend (tVar 6) (tCons (tMet K tk) tNil)) D σ J := by
  refine ⟨.ref Dl, h6, .inl ⟨rfl, _, sq_of hD⟩, ?_⟩
  refine lam_bad (x := "BadWord") (s := "word") (v := x) (.inl ⟨rfl, rfl⟩) hT ht fun ta G2 e2 T2 h2 => ?_
  have hD2 : G2 Dl = some (.lst acc) := e2 _ _ hD lst_tbl
  have hl := hP.1
  refine ⟨Dl, acc, .ref ta, rfl, rfl, hD2, sz_lt (by omega), ?_⟩
  have tx : Tx G2 (upd G2 Dl (.lst (acc ++ [.ref ta]))) := Tx.lst hD2
  exact k _ _ ((Go.ofN e2).trans (Go.upd rfl)) (tabs_put T2 hD2) upd_same ((hP.extN e2).snoc h2 |>.tx tx)
theorem go_extN {G J J' : Hp} {Dl : Addr} (e : ExtN G J) (g : Go (fun b => b = Dl) J J') (n : G Dl = none) : ExtN G J' := fun b o h t => g b o (ne_of_none h n) t (e b o h t)
section
variable {P : Program} {w : World} {K : PySem.W.Frag} {mg : Str → Option Value} {base : Heap} {f c : Addr} {A : Around} {outer : List Env} {s : Shared} {HX : Hp}
theorem lb2 (T : T23 P w K mg base) : ∃ t, PS (XL P w K mg base f c A outer s HX) (stL 2) t ∧
    ∀ (D : Ends) (G : Hp) (c0 c1 c2 c3 c4 c5 c6 c7 c8 : Option V),
      (∀ h G', Ex G G' → G' h = some (.lst (heldV 0)) → D.nx [c0, c1, c2, c3, c4, some (.ref h), c6, c7, c8] G') →
      t D [c0, c1, c2, c3, c4, c5, c6, c7, c8] G := by
  refine ⟨_, ps_set (i := 5) sc_lw.nd rfl (Or.inl rfl) (pe_lst (pa_cons pe_str pa_nil)), ?_⟩
  intro D G c0 c1 c2 c3 c4 c5 c6 c7 c8 k
  exact ⟨by show 1 ≤ sizeLine; decide, fun h hh => k h _ (Ex.new hh) upd_same⟩
theorem lb3 (T : T23 P w K mg base) (t2 : Tab2 K mg base) (hc : He.codeOf K ("law", none) = c) (hr : Room 45 (XL P w K mg base f c A outer s HX).A) : ∃ t, PS (XL P w K mg base f c A outer s HX) (stL 3) t ∧
    ∀ (D : Ends) (G : Hp) (c0 c1 c2 c3 c4 c6 c7 c8 : Option V) (h : Addr), Tabs (tabT K) G → G h = some (.lst (heldV 0)) →
      (∀ G' c6' c7', D.nx [c0, c1, c2, c3, c4, some (.ref h), c6', c7', c8] G') →
      t D [c0, c1, c2, c3, c4, some (.ref h), c6, c7, c8] G := by
  obtain ⟨fS, dS, GS, bS, kS, mS⟩ := (ok_same T 10).ex
  obtain ⟨fO, dO, GO, bO, kO, mO⟩ := (ok_odd T).ex
  obtain ⟨fA, dA, GA, bA, kA, mA⟩ := (ok_word_at T).ex
  obtain ⟨fU, dU, GU, bU, kU, mU⟩ := (ok_word_put T).ex
  obtain ⟨fP, dP, GP, bP, kP, mP⟩ := (ok_places T).ex
  obtain ⟨fD, dD, GD, bD, kD, mD⟩ := (ok_depth T).ex
  obtain ⟨fV, dV, GV, bV, kV, mV⟩ := (ok_variables_of T).ex
  have tb := t2.tb ("law", none) (List.mem_of_getElem? (i := 0) rfl)
  have ecd : (He.cT K ("law", none)).1 = c := hc
  rw [ecd] at tb
  have hm : ((He.cT K ("law", none)).2, ("law.<locals>.<lambda>" : Str)) ∈ tabT K := List.mem_of_getElem? (i := 0) (by rfl)
  refine ⟨_, ps_for PassesOwn.never rfl (pi_list (pe_op op_cat (pe_call0 GO (hr.mono (by decide)) (by rfl) mO kO bO .nil pass0) (pe_lst (pa_cons (pv 5) pa_nil)))) (pg_name (i := 7) sc_lw.nd rfl (Or.inr rfl))
    (pss_cons (ps_setLc (i := 6) (own := [("_law_ask", 8)]) (g := gName 8) (tt := tYes) (te := tMet K (tAskO K fP fD fV)) rfl sc_lw.nd rfl rfl (sw_true rfl rfl rfl rfl)
      (pi_tup (pe_tup (pa_cons (pe_glob (v := .ref fP) (by rfl) mP rfl) (pa_cons (pe_glob (v := .ref fD) (by rfl) mD rfl) (pa_cons (pe_glob (v := .ref fV) (by rfl) mV rfl) pa_nil))))) (blkOk_by (N := nLw) (sc := defScope s_law) (by decide +kernel))
      (fun _ _ _ _ _ => pg_name (i := 8) sc_lw.nd rfl (Or.inr rfl)) (fun _ _ _ _ _ => pts_nil)
      (fun s1 H1 C cl fp => pe_met (k := 35) (t := tAskO K fP fD fV) T t2 (by rfl) tb rfl hm (hr.mono (by decide)) (lamS_by (sc := { kind := .function, names := [(".0", .local), ("_law_ask", .cell), ("_law_d_met", .globalImplicit), ("_law_odd", .cell)], isGenerator := false, isCoroutine := false }) (by decide +kernel)) rfl (fun _ _ _ _ _ => rfl)
        (fun A outer s H E f c' hr2 => pe_or2 (pe_callLS GP (hr2.mono (by decide)) rfl (.inr (.inr rfl)) kP bP (fun σ => passAt (takes_of rfl rfl rfl rfl) σ) (pa_cons (pv 7) pa_nil))
          (pe_or2 (pe_callLS GD (hr2.mono (by decide)) rfl (.inr (.inr rfl)) kD bD (fun σ => passAt (takes_of rfl rfl rfl rfl) σ) (pa_cons (pv 7) pa_nil)) (pe_callLS GV (hr2.mono (by decide)) rfl (.inr (.inr rfl)) kV bV (fun σ => passAt (takes_of rfl rfl rfl rfl) σ) (pa_cons (pv 7) pa_nil))))))
    (pss_cons (ps_expr (pe_bm PySem.F.plainAttrs_list PySem.F.slot_list_append PySem.F.type_list_append mt_append (pv 6) (pa_cons (pe_met (k := 35) (t := tAskB K) T t2 (by rfl) tb rfl hm (hr.mono (by decide)) (lamS_by (sc := defScope s_law) (by decide +kernel)) rfl (fun _ _ _ _ _ => rfl)
        (fun A outer s H E f c' hr2 => pe_callS (sp := spWa K) GA (hr2.mono (by decide)) (by rfl) mA kA bA (fun σ => passAt (takes_of rfl rfl rfl rfl) σ) (pa_cons (pv 7) (pa_cons pe_non pa_nil)))) pa_nil)))
    (pss_cons (ps_expr (pe_bm PySem.F.plainAttrs_list PySem.F.slot_list_append PySem.F.type_list_append mt_append (pv 6) (pa_cons (pe_met (k := 35) (t := tAskC K) T t2 (by rfl) tb rfl hm (hr.mono (by decide)) (lamS_by (sc := defScope s_law) (by decide +kernel)) rfl (fun _ _ _ _ _ => rfl)
        (fun A outer s H E f c' hr2 => pe_callS (sp := spWu K) GU (hr2.mono (by decide)) (by rfl) mU kU bU (fun σ => passAt (takes_of rfl rfl rfl rfl) σ) (pa_cons (pv 7) (pa_cons pe_non (pa_cons pe_non pa_nil))))) pa_nil)))
    (pss_cons (ps_expr (pe_bm PySem.F.plainAttrs_list PySem.F.slot_list_append PySem.F.type_list_append mt_append (pv 6) (pa_cons (pe_met (k := 35) (t := tAskE K) T t2 (by rfl) tb rfl hm (hr.mono (by decide)) (lamS_by (sc := defScope s_law) (by decide +kernel)) rfl (fun _ _ _ _ _ => rfl)
        (fun A outer s H E f c' hr2 => pe_callS (sp := spWu K) GU (hr2.mono (by decide)) (by rfl) mU kU bU (fun σ => passAt (takes_of rfl rfl rfl rfl) σ) (pa_cons pe_str (pa_cons (pe_lst pa_nil) (pa_cons (pv 7) pa_nil))))) pa_nil)))
    (pss_cons (ps_expr (pe_bm PySem.F.plainAttrs_list PySem.F.slot_list_append PySem.F.type_list_append mt_append (pv 5) (pa_cons pe_str pa_nil)))
    (pss_one (ps_if (pt_not (pt_val (pe_call GS (hr.mono (by decide)) (by rfl) mS kS bS .nil pass0 (pa_cons (pv 6) (pa_cons (pe_op op_rep (pe_lst (pa_cons (pe_tup (pa_cons pe_str (pa_cons (pv 7) pa_nil))) pa_nil)) pe_int) pa_nil))))) (pss_one ps_never) pss_nil))))))), ?_⟩
  intro D G c0 c1 c2 c3 c4 c6 c7 c8 h hT hh k
  refine ⟨rfl, fun lp xs G1 np e1 h1 hov => ?_⟩
  refine ⟨.ref h, rfl, by show 1 ≤ sizeLine; decide, fun l1 hl1 => ?_⟩
  have hxl : xs.length = 22 := by rw [hov.length]; rfl
  have x2 : Ex G1 (upd G1 l1 (.lst [.ref h])) := Ex.new hl1
  refine ⟨lp, l1, xs, [.ref h], rfl, rfl, x2 _ _ h1, upd_same, sz_of (by simp; omega), fun l hl => ?_⟩
  have x3 : Ex (upd G1 l1 (.lst [.ref h])) (upd (upd G1 l1 (.lst [.ref h])) l (.lst (xs ++ [.ref h]))) := Ex.new hl
  have x23 := x2.trans x3
  have e3 := e1.trans x23
  generalize hGs : upd (upd G1 l1 (.lst [.ref h])) l (.lst (xs ++ [.ref h])) = Gs at x3 x23 e3
  have hlG : Gs l = some (.lst (xs ++ [.ref h])) := by rw [← hGs]; exact upd_same
  have hhs := e3 _ _ hh
  have hlh : l ≠ h := fun z => by
    rw [z, (e1.trans x2) _ _ hh] at hl
    cases hl
  have hodd : OVs (Hx (fun b => b = h) Gs) xs odds := (hov.ext (Go.of x23).ex).ext (hx_mono fun b hb => by rw [hb]; exact ⟨_, hh⟩)
  have hTs := hT.ext e3
  have hodds := List.all_eq_true.mp odds_odd
  have hsmall := List.all_eq_true.mp odds_small
  refine ⟨l, rfl, ⟨_, sq_of hlG⟩, for_list (xs := xs ++ [.ref h]) (fun i σ' G' => (∃ c6' c7', σ' = [c0, c1, c2, c3, c4, some (.ref h), c6', c7', c8]) ∧ Tabs (tabT K) G' ∧ Go (fun b => b = h) Gs G' ∧ G' h = some (.lst (heldV i))) ⟨⟨_, _, rfl⟩, hTs, Go.refl, hhs⟩ ?_ ?_ ?_⟩
  · rintro i σ' G' hi ⟨_, _, g, _⟩
    exact sq_of (g _ _ hlh lst_tbl hlG)
  · rintro i x σ' G' hi ⟨⟨c6', c7', rfl⟩, T', g, hh'⟩
    have hil := (List.getElem?_eq_some_iff.mp hi).1
    have hi22 : i ≤ 22 := by simp at hil; omega
    have hx : ∃ o o2, OV G' x o ∧ oddB o = true ∧ o2.dq ≤ 3 ∧ o2.sz ≤ 100 ∧ ∀ G2, Go (fun b => b = h) G' G2 → G2 h = some (.lst (heldV (i + 1))) → OV G2 x o2 := by
      by_cases hc : i < xs.length
      · rw [List.getElem?_append_left hc] at hi
        obtain ⟨o, ho, hxo⟩ := (hodd.ext g.ex).get hi
        have hm := List.mem_of_getElem? ho
        have h1 := hsmall o hm
        rw [Bool.and_eq_true] at h1
        exact ⟨o, o, hxo.ext hx_ex, hodds o hm, of_decide_eq_true h1.1, of_decide_eq_true h1.2, fun G2 g2 _ => (hxo.ext g2.ex).ext hx_ex⟩
      · have hi2 : i = 22 := by omega
        subst hi2
        rw [List.getElem?_append_right (by omega), hxl] at hi
        obtain rfl : V.ref h = x := by simpa using hi
        exact ⟨.lst (heldO 22), .lst (heldO 23), ⟨h, _, rfl, hh', held_ov 22⟩, held_odd, heldO_dq 23, by rw [heldO_sz]; decide, fun G2 _ h2 => ⟨h, _, rfl, h2, held_ov 23⟩⟩
    obtain ⟨o, o2, hxo, hob, hd2, hs2, hk2⟩ := hx
    have noW : ∀ J, ExtN G' J → NoW J x := fun J e => oddB_no hob (hxo.extN e)
    refine ⟨by show 3 ≤ sizeLine; decide, fun tt htt => ⟨tt, rfl, ⟨_, st_of upd_same⟩, fun Dl hD => ?_⟩⟩
    have xt : Ex G' (upd G' tt (.tup [.ref fP, .ref fD, .ref fV])) := Ex.new htt
    generalize hH2 : upd G' tt (.tup [.ref fP, .ref fD, .ref fV]) = H2 at xt hD
    have htt2 : H2 tt = some (.tup [.ref fP, .ref fD, .ref fV]) := by rw [← hH2]; exact upd_same
    refine lc_tup (xs := [.ref fP, .ref fD, .ref fV]) (fun j J => ExtN H2 J ∧ Tabs (tabT K) J ∧ ∃ acc, J Dl = some (.lst acc) ∧ Prs J x acc j) ⟨ExtN.of (Ex.new hD), (T'.ext xt).ext (Ex.new hD), [], upd_same, rfl, fun a ha => nomatch ha⟩ (fun j J _ c => st_of (c.1 _ _ htt2 tup_tbl)) (fun j y J hj c => ?_) (fun J c => ?_)
    · obtain ⟨eJ, TJ, acc, hacc, hP⟩ := c
      have hjl := (List.getElem?_eq_some_iff.mp hj).1
      refine ⟨rfl, ?_⟩
      unfold tYes
      dsimp only
      rw [if_pos rfl]
      refine lam_bad (x := "BadWord") (s := "word") (v := x) (.inl ⟨rfl, rfl⟩) TJ (fun H3 E Q' e3' hbad => ?_) fun ta J2 e2 T2 h2 => ?_
      · have hno := noW H3 (((ExtN.of xt).trans eJ).trans e3')
        have hb : spP1 K tPlaces [x] H3 Q' (WEe E [c0, c1, c2, c3, c4, some (.ref h), c6', some x, some y]) := ⟨x, rfl, .inr ⟨hno, hbad⟩⟩
        match j, hj with
        | 0, hj =>
          obtain rfl : V.ref fP = y := by simpa using hj
          exact .inl ⟨rfl, x, rfl, x, rfl, .inr ⟨hno, hbad⟩⟩
        | 1, hj =>
          obtain rfl : V.ref fD = y := by simpa using hj
          exact .inr (.inl ⟨rfl, x, rfl, x, rfl, .inr ⟨hno, hbad⟩⟩)
        | 2, hj =>
          obtain rfl : V.ref fV = y := by simpa using hj
          exact .inr (.inr ⟨rfl, x, rfl, x, rfl, .inr ⟨hno, hbad⟩⟩)
        | j + 3, hj => simp at hj
      · have hD2 : J2 Dl = some (.lst acc) := e2 _ _ hacc lst_tbl
        have hl := hP.1
        have hj3 : j < 3 := hjl
        exact ⟨acc, hD2, sz_lt (by omega), go_extN (eJ.trans e2) (Go.upd rfl) hD, tabs_put T2 hD2, _, upd_same, ((hP.extN e2).snoc h2).tx (Tx.lst hD2)⟩
    · obtain ⟨eJ, TJ, acc, hacc, hP⟩ := c
      have eJ' := (ExtN.of xt).trans eJ
      have hDG : G' Dl = none := fresh_back xt hD
      have lwX : ∀ J, Lw J (.str "X") (.v "X") := fun J => ⟨⟨.str "X", ⟨rfl, by decide +kernel, by decide, rfl⟩, by decide +kernel, rfl⟩, by decide⟩
      refine s_applam (x := x) (n := 3) rfl hacc hP (by decide) TJ (fun H3 E Q' e3' hbad => ⟨x, rfl, x, .non, rfl, .inl ⟨noW H3 (eJ'.trans e3'), hbad⟩⟩) fun J2 acc2 g2 T2 hacc2 hP2 => ?_
      have eJ2 := go_extN eJ' g2 hDG
      refine s_applam (x := x) (n := 4) rfl hacc2 hP2 (by decide) T2 (fun H3 E Q' e3' hbad => ⟨x, rfl, x, .non, .non, rfl, .inl ⟨noW H3 (eJ2.trans e3'), hbad⟩⟩) fun J3 acc3 g3 T3 hacc3 hP3 => ?_
      have eJ3 := go_extN eJ2 g3 hDG
      refine s_applam (x := x) (n := 5) rfl hacc3 hP3 (by decide) T3 (fun H3 E Q' e3' hbad => ?_) fun J4 acc4 g4 T4 hacc4 hP4 => ?_
      · refine ⟨Nat.zero_le _, fun le hle => ⟨x, rfl, .str "X", .ref le, x, rfl, .inr ⟨.v "X", lwX _, .inr ⟨[], .yes (b := true) rfl upd_same (by decide) rfl, .inl ⟨rfl, (noW H3 (eJ3.trans e3')).ext (Ex.new hle), hbad.mono (Ex.new hle)⟩⟩⟩⟩⟩
      have eJ4 := go_extN eJ3 g4 hDG
      have hh4 : J4 h = some (.lst (heldV i)) := eJ4 _ _ hh' lst_tbl
      have hDh : Dl ≠ h := fun z => by rw [z, hh'] at hDG; cases hDG
      refine s_app hh4 (ev_var rfl) ev_c (by show (heldV i).length < 100000; unfold heldV; simp; omega) fun J5 e5 => ?_
      rw [held_snoc]
      have g6 : Go (fun b => b = h) G' (upd J5 h (.lst (heldV (i + 1)))) := ((Go.ofN eJ4).trans (Go.of e5)).trans (Go.upd rfl)
      have hx6 := hk2 _ g6 upd_same
      have hD6 : (upd J5 h (.lst (heldV (i + 1)))) Dl = some (.lst acc4) := by
        rw [upd_ne hDh]
        exact e5 _ _ hacc4
      have tx6 : Tx J4 (upd J5 h (.lst (heldV (i + 1)))) := (Tx.of e5).trans (Tx.lst (e5 _ _ hh4))
      have T6 := tabs_put (L' := heldV (i + 1)) (T4.ext e5) (e5 _ _ hh4)
      dsimp only
      refine s_same (m := 10) (o := .lst (List.replicate 6 (.tup [.str "word", o2]))) ?_ ?_ ?_ (by decide) ?_ fun J7 e7 => ?_
      · exact evd_var (i := 6) rfl ⟨Dl, _, rfl, hD6, Prs.ov hx6 (hP4.tx tx6)⟩
      · exact evd_rep (n := 6) (i := 7) rfl hx6 (by decide)
      · have := rep_dq 6 o2
        omega
      · rw [rep_sz]
        omega
      · exact ⟨⟨_, _, rfl⟩, T6.ext e7, (g.trans g6).trans (Go.of e7), e7 _ _ upd_same⟩
  · rintro σ' G' ⟨⟨c6', c7', rfl⟩, _⟩
    exact k G' c6' c7'
end
end K23

set_option Elab.async false
set_option linter.all false
set_option maxRecDepth 100000
set_option maxHeartbeats 4000000
/-! The law. -/
namespace K23
open PySem PySem.Spec PyProof.Rows L2 Evl LamX
theorem dz_fX : Dz (.n "f" [.v "X"]) := ⟨by decide +kernel, by decide +kernel, by decide, by decide⟩
theorem dz_fY : Dz (.n "f" [.v "Y"]) := ⟨by decide +kernel, by decide +kernel, by decide, by decide⟩
theorem vars_fX : (W.n "f" [.v "X"]).vars = (["X"] : List Str) := by decide +kernel
theorem vars_fY : (W.n "f" [.v "Y"]).vars = (["Y"] : List Str) := by decide +kernel
theorem lw_fX {G : Hp} {h : Addr} (e : G h = some (.lst [.str "f", .str "X"])) : Lw G (.ref h) (.n "f" [.v "X"]) := dz_fX.lw (o := .lst [.str "f", .str "X"]) ⟨h, _, rfl, e, .cons rfl (.cons rfl .nil)⟩ rfl
theorem lw_fY {G : Hp} {h : Addr} (e : G h = some (.lst [.str "f", .str "Y"])) : Lw G (.ref h) (.n "f" [.v "Y"]) := dz_fY.lw (o := .lst [.str "f", .str "Y"]) ⟨h, _, rfl, e, .cons rfl (.cons rfl .nil)⟩ rfl
section
variable {P : Program} {w : World} {K : PySem.W.Frag} {mg : Str → Option Value} {base : Heap} {f c : Addr} {A : Around} {outer : List Env} {s : Shared} {HX : Hp}
theorem lb0 (T : T23 P w K mg base) (hr : Room 45 (XL P w K mg base f c A outer s HX).A) : ∃ t, PS (XL P w K mg base f c A outer s HX) (stL 0) t ∧
    ∀ (D : Ends) (G : Hp) (c1 c2 c3 c4 c5 c6 c7 c8 : Option V) (a : Addr) (ns : List Int), SqL K G a (ns.map V.int) → Tabs (tabT K) G →
      (∀ G' p q, Spr G' p q 0 → Tabs (tabT K) G' → D.nx [some (.ref a), some (.ref p), c2, c3, c4, c5, c6, c7, c8] G') →
      t D [some (.ref a), c1, c2, c3, c4, c5, c6, c7, c8] G := by
  obtain ⟨fS, dS, GS, bS, kS, mS⟩ := (ok_start T).ex
  refine ⟨_, ps_set (i := 1) sc_lw.nd rfl (Or.inl rfl) (pe_call GS (hr.mono (by decide)) (by rfl) mS kS bS .nil pass0 (pa_cons (pv 0) pa_nil)), ?_⟩
  intro D G c1 c2 c3 c4 c5 c6 c7 c8 a ns hS hT k
  exact ⟨.ref a, rfl, a, ns, rfl, hS, fun p q G' np nq e S => k G' p q S (hT.ext e)⟩
theorem lbE (T : T23 P w K mg base) (hr : Room 45 (XL P w K mg base f c A outer s HX).A) : ∃ t, PSs (XL P w K mg base f c A outer s HX) [stL 4, stL 5, stL 6, stL 7, stL 8, stL 9] t ∧
    ∀ (D : Ends) (G : Hp) (c0 c1 c2 c3 c4 c5 c6 c7 c8 : Option V), (∀ G', D.rt (.bl true) G') → t D [c0, c1, c2, c3, c4, c5, c6, c7, c8] G := by
  obtain ⟨fS, dS, GS, bS, kS, mS⟩ := (ok_same T 6).ex
  obtain ⟨fV, dV, GV, bV, kV, mV⟩ := (ok_variables_of T).ex
  refine ⟨_, pss_cons (ps_set (i := 5) sc_lw.nd rfl (Or.inl rfl) (pe_lst (pa_cons pe_str (pa_cons pe_str pa_nil))))
    (pss_cons (ps_set (i := 6) sc_lw.nd rfl (Or.inl rfl) (pe_lst (pa_cons (pe_callS (sp := spP1 K tVars) GV (hr.mono (by decide)) (by rfl) mV kV bV (fun σ => passAt L2.takes0 σ) (pa_cons (pv 5) pa_nil)) pa_nil)))
    (pss_cons (ps_asg pe_str (pg_sub (pv 5) pe_int set_list))
    (pss_cons (ps_expr (pe_bm PySem.F.plainAttrs_list PySem.F.slot_list_append PySem.F.type_list_append mt_append (pv 6) (pa_cons (pe_callS (sp := spP1 K tVars) GV (hr.mono (by decide)) (by rfl) mV kV bV (fun σ => passAt L2.takes0 σ) (pa_cons (pv 5) pa_nil)) pa_nil)))
    (pss_cons (ps_asg pe_str (pg_sub (pv 5) pe_int set_list))
    (pss_one (ps_ret (pe_call GS (hr.mono (by decide)) (by rfl) mS kS bS .nil pass0 (pa_cons (pe_op op_cat (pv 6) (pe_lst (pa_cons (pe_callS (sp := spP1 K tVars) GV (hr.mono (by decide)) (by rfl) mV kV bV (fun σ => passAt L2.takes0 σ) (pa_cons (pv 5) pa_nil)) pa_nil)))
      (pa_cons (pe_lst (pa_cons (pe_lst (pa_cons pe_str pa_nil)) (pa_cons (pe_lst (pa_cons pe_str pa_nil)) (pa_cons (pe_lst (pa_cons pe_str pa_nil)) pa_nil)))) pa_nil))))))))), ?_⟩
  intro D G c0 c1 c2 c3 c4 c5 c6 c7 c8 k
  refine ⟨by show 2 ≤ sizeLine; decide, fun h nh => ?_⟩
  have hh : (upd G h (.lst [.str "f", .str "X"])) h = some (.lst [.str "f", .str "X"]) := upd_same
  generalize upd G h (.lst [.str "f", .str "X"]) = G1 at hh
  refine ⟨.ref h, rfl, .ref h, rfl, .inl ⟨_, lw_fX hh, fun a1 G2 na1 e2 h2 => ?_⟩⟩
  rw [vars_fX] at h2
  refine ⟨by show 1 ≤ sizeLine; decide, fun lf nlf => ?_⟩
  have x3 : Ex G2 (upd G2 lf (.lst [.ref a1])) := Ex.new nlf
  have hlf : (upd G2 lf (.lst [.ref a1])) lf = some (.lst [.ref a1]) := upd_same
  have hh2 := e2 _ _ hh
  have n1 : h ≠ a1 := ne_of_none hh na1
  have n2 : h ≠ lf := ne_of_none hh2 nlf
  have n3 : a1 ≠ lf := ne_of_none h2 nlf
  have h23 := x3 _ _ h2
  have hh3 := x3 _ _ hh2
  generalize upd G2 lf (.lst [.ref a1]) = G3 at hlf h23 hh3
  refine ⟨.ref h, rfl, h, _, 1, 1, rfl, rfl, hh3, ixN_nat (j := 1) (by decide), ?_⟩
  have hh4 : (upd G3 h (.lst ([V.str "f", V.str "X"].set 1 (.str "Y")))) h = some (.lst [.str "f", .str "Y"]) := upd_same
  have hlf4 : (upd G3 h (.lst ([V.str "f", V.str "X"].set 1 (.str "Y")))) lf = some (.lst [.ref a1]) := by rw [upd_ne (Ne.symm n2)]; exact hlf
  have h24 : (upd G3 h (.lst ([V.str "f", V.str "X"].set 1 (.str "Y")))) a1 = some (.lst (sVs ["X"])) := by rw [upd_ne (Ne.symm n1)]; exact h23
  generalize upd G3 h (.lst ([V.str "f", V.str "X"].set 1 (.str "Y"))) = G4 at hh4 hlf4 h24
  refine ⟨.ref lf, rfl, .inl ⟨rfl, _, sq_of hlf4⟩, .ref h, rfl, .ref h, rfl, .inl ⟨_, lw_fY hh4, fun a2 G5 na2 e5 h5 => ?_⟩⟩
  rw [vars_fY] at h5
  refine ⟨lf, [.ref a1], .ref a2, rfl, rfl, e5 _ _ hlf4, by show 1 < sizeLine; decide, ?_⟩
  have n4 : lf ≠ a2 := ne_of_none hlf4 na2
  have n5 : h ≠ a2 := ne_of_none hh4 na2
  have hlf6 : (upd G5 lf (.lst ([V.ref a1] ++ [V.ref a2]))) lf = some (.lst [.ref a1, .ref a2]) := upd_same
  have hh6 : (upd G5 lf (.lst ([V.ref a1] ++ [V.ref a2]))) h = some (.lst [.str "f", .str "Y"]) := by rw [upd_ne n2]; exact e5 _ _ hh4
  have h26 : (upd G5 lf (.lst ([V.ref a1] ++ [V.ref a2]))) a1 = some (.lst (sVs ["X"])) := by rw [upd_ne n3]; exact e5 _ _ h24
  have h56 : (upd G5 lf (.lst ([V.ref a1] ++ [V.ref a2]))) a2 = some (.lst (sVs ["Y"])) := by rw [upd_ne (Ne.symm n4)]; exact h5
  generalize upd G5 lf (.lst ([V.ref a1] ++ [V.ref a2])) = G6 at hlf6 hh6 h26 h56
  refine ⟨.ref h, rfl, h, _, 1, 1, rfl, rfl, hh6, ixN_nat (j := 1) (by decide), ?_⟩
  have hh7 : (upd G6 h (.lst ([V.str "f", V.str "Y"].set 1 (.str "X")))) h = some (.lst [.str "f", .str "X"]) := upd_same
  have hlf7 : (upd G6 h (.lst ([V.str "f", V.str "Y"].set 1 (.str "X")))) lf = some (.lst [.ref a1, .ref a2]) := by rw [upd_ne (Ne.symm n2)]; exact hlf6
  have h27 : (upd G6 h (.lst ([V.str "f", V.str "Y"].set 1 (.str "X")))) a1 = some (.lst (sVs ["X"])) := by rw [upd_ne (Ne.symm n1)]; exact h26
  have h57 : (upd G6 h (.lst ([V.str "f", V.str "Y"].set 1 (.str "X")))) a2 = some (.lst (sVs ["Y"])) := by rw [upd_ne (Ne.symm n5)]; exact h56
  generalize upd G6 h (.lst ([V.str "f", V.str "Y"].set 1 (.str "X"))) = G7 at hh7 hlf7 h27 h57
  have due : EvD (tLst (tCons (tLst (tCons (tC (.str "X")) tNil)) (tCons (tLst (tCons (tC (.str "Y")) tNil)) (tCons (tLst (tCons (tC (.str "X")) tNil)) tNil)))) [c0, c1, c2, c3, c4, some (.ref h), some (.ref lf), c7, c8] G7 (.lst [oVs ["X"], oVs ["Y"], oVs ["X"]]) := fun H1 e Q q => by
    have := elx_lst (H0 := H1) (H := H1) (σ := [c0, c1, c2, c3, c4, some (.ref h), some (.ref lf), c7, c8]) (ta := tCons (tLst (tCons (tC (.str "X")) tNil)) (tCons (tLst (tCons (tC (.str "Y")) tNil)) (tCons (tLst (tCons (tC (.str "X")) tNil)) tNil))) (os := [oVs ["X"], oVs ["Y"], oVs ["X"]]) (by
      unfold oVs
      exact (eax_cons (eox_lst (Ex.refl H1) (eax_cons eox_str eax_nil) (by decide)) (eax_cons (eox_lst (Ex.refl H1) (eax_cons eox_str eax_nil) (by decide)) (eax_cons (eox_lst (Ex.refl H1) (eax_cons eox_str eax_nil) (by decide)) eax_nil)))) (by decide)
    exact this H1 (Ex.refl _) _ fun p xs H2 np e2 h2 hov => q (.ref p) H2 e2 ⟨p, xs, rfl, h2, hov.ext hx_ex⟩
  have found : EvD (tOp rCat (tVar 6) (tLst (tCons (tCallS (spP1 K tVars) (fun σ => WE (fun _ _ _ _ => False) σ) (tCons (tVar 5) tNil)) tNil))) [c0, c1, c2, c3, c4, some (.ref h), some (.ref lf), c7, c8] G7 (.lst [oVs ["X"], oVs ["Y"], oVs ["X"]]) := fun H1 e Q q => by
    have h0 : EvXs (tLst (tCons (tCallS (spP1 K tVars) (fun σ => WE (fun _ _ _ _ => False) σ) (tCons (tVar 5) tNil)) tNil)) [c0, c1, c2, c3, c4, some (.ref h), some (.ref lf), c7, c8] G7 [oVs ["X"]] := fun H2 e2 Q2 q2 =>
      ⟨.ref h, rfl, .ref h, rfl, .inl ⟨_, lw_fX (e2 _ _ hh7), fun a3 G8 na3 e8 h8 => ⟨by show 1 ≤ sizeLine; decide, fun l hl => by
        rw [vars_fX] at h8
        have x9 : Ex G8 (upd G8 l (.lst [.ref a3])) := Ex.new hl
        exact q2 l _ _ (fresh_back e8 hl) (e8.trans x9) upd_same (.cons ⟨a3, _, rfl, x9 _ _ h8, ovs_sVs _⟩ .nil)⟩⟩⟩
    have hv : OVs G7 [.ref a1, .ref a2] [oVs ["X"], oVs ["Y"]] := .cons ⟨a1, _, rfl, h27, ovs_sVs _⟩ (.cons ⟨a2, _, rfl, h57, ovs_sVs _⟩ .nil)
    exact evx_catV (i := 6) rfl hlf7 hv h0 (by decide) H1 e _ fun p xs H2 np e2 h2 hov => q (.ref p) H2 e2 ⟨p, xs, rfl, h2, hov⟩
  exact s_ret (ev_same (m := 6) found due (by decide) (by decide) (by decide)) fun G8 _ => k G8
end
def spLaw (K : PySem.W.Frag) : Sp := fun vs H Q _ => ∃ (a : Addr) (ns : List Int), vs = [.ref a] ∧ SqL K H a (ns.map V.int) ∧ Tabs (tabT K) H ∧ ∀ G, Q (.bl true) G
section
variable {P : Program} {w : World} {K : PySem.W.Frag} {mg : Str → Option Value} {base : Heap}
theorem ok_law (T : T23 P w K mg base) (t2 : Tab2 K mg base) {fd : FuncData} (F : FnP K "law" s_law (He.ga K "law") fd) : FnG P w K mg base 46 (He.ga K "law") fd ["_law_script"] (spLaw K) := by
  refine FnG.of F sc_lw (fun vs H Q E h => ?_) (fun c ⟨oc, od, osl, lk, ec⟩ A outer s H vs Q hg hr h => ?_)
  · obtain ⟨a, ns, rfl, _⟩ := h
    rfl
  · obtain ⟨a, ns, rfl, hS, hT, kf⟩ := h
    have hc : He.codeOf K ("law", none) = c := He.codeOf_eq (p := ("law", none)) lk ec
    obtain ⟨u0, p0, k0⟩ := lb0 (c := c) (outer := outer) (s := s) (HX := H) T hr
    obtain ⟨u1, p1, k1⟩ := lb1 (c := c) (outer := outer) (s := s) (HX := H) T t2 hr hg
    obtain ⟨u2, p2, k2⟩ := lb2 (f := He.ga K "law") (c := c) (A := A) (outer := outer) (s := s) (HX := H) T
    obtain ⟨u3, p3, k3⟩ := lb3 (outer := outer) (s := s) (HX := H) T t2 hc hr
    obtain ⟨uE, pE, kE⟩ := lbE (c := c) (outer := outer) (s := s) (HX := H) T hr
    refine ⟨tSeq u0 (tSeq u1 (tSeq u2 (tSeq u3 uE))), PSs.nox (pss_cons p0 (pss_cons p1 (pss_cons p2 (pss_cons p3 pE)))), ?_⟩
    refine k0 _ H _ _ _ _ _ _ _ _ a ns hS hT fun G1 p q S1 T1 => ?_
    refine k1 _ G1 _ _ _ _ _ _ _ _ p q S1 T1 fun G2 c2 c3 c4 T2 => ?_
    refine k2 _ G2 _ _ _ _ _ _ _ _ _ fun h G3 e3 h3 => ?_
    refine k3 _ G3 _ _ _ _ _ _ _ _ h (T2.ext e3) h3 fun G4 c6 c7 => ?_
    exact kE _ G4 _ _ _ _ _ _ _ _ _ kf
end
end K23

set_option Elab.async false
set_option linter.all false
set_option maxRecDepth 100000
set_option maxHeartbeats 4000000
/-! The law's call from the head's heap, where no guard stands; facts of the error classes. -/
namespace K23
open PySem PySem.Spec PyProof.Rows L2 LamX
/-- what is tracked at first: the tables of T, the script at a -/
def H00 (K : PySem.W.Frag) (a : Addr) (T : List Addr) (u : HO) : Hp := fun b => if b ∈ T then some (.tbl #[]) else if b = a ∧ K.lookup a = none then some u else none
section
variable {K : PySem.W.Frag} {a : Addr} {T : List Addr} {u : HO}
theorem h00_tab {b : Addr} (h : b ∈ T) : H00 K a T u b = some (.tbl #[]) := if_pos h
theorem h00_a (n : a ∉ T) (k : K.lookup a = none) : H00 K a T u a = some u := (if_neg n).trans (if_pos ⟨rfl, k⟩)
theorem h00_some {b : Addr} {o : HO} (h : H00 K a T u b = some o) : (b ∈ T ∧ o = .tbl #[]) ∨ (b = a ∧ K.lookup a = none ∧ o = u) := by
  unfold H00 at h
  by_cases c : b ∈ T
  · rw [if_pos c] at h
    exact .inl ⟨c, (Option.some.inj h).symm⟩
  · rw [if_neg c] at h
    by_cases c2 : b = a ∧ K.lookup a = none
    · rw [if_pos c2] at h
      exact .inr ⟨c2.1, c2.2, (Option.some.inj h).symm⟩
    · rw [if_neg c2] at h
      cases h
theorem h00_none {b : Addr} (h1 : b ∉ T) (h2 : b = a → K.lookup a ≠ none) : H00 K a T u b = none := by
  unfold H00
  rw [if_neg h1]
  exact if_neg fun z => h2 z.1 z.2
end
abbrev tabObj : Obj := { cls := .none, data := .fields #[] }
theorem law_callG {P : Program} {w : World} {K : PySem.W.Frag} {mg mb : Str → Option Value} {k : Nat} {fa a : Addr} {cs : List (Addr × Addr)} {fd : FuncData} {x : Str} {sp : Sp} {s : Shared} {vs : List Value} {ns : List Int}
    (KX : K.In s.heap) (hns : s.heap.Ns mainGlobals mg) (hb : s.heap.Ns builtinsNs mb) (hbb : ∀ x : Str, x ≠ "__name__" → mb x = bootBuiltins x) (hlim : s.heap.NoLimit) (hg : s.gens = #[])
    (hT : ∀ p ∈ cs, s.heap.get? p.2 = some tabObj) (nT : ∀ p ∈ cs, K.lookup p.2 = none) (C : ∀ p ∈ cs, PySem.W.CodeHd s.heap p.1 p.2)
    (hbm : ∃ (bm : Addr) (ob : Obj), mg "__builtins__" = some (.ref bm) ∧ bm ≠ builtinsNs ∧ s.heap.get? bm = some ob ∧ ob.cls = .type "module" ∧ ob.dict = some builtinsNs ∧ ob.data = .plain)
    (ha : s.heap.get? a = some { cls := .type "list", data := .seq vs.toArray }) (hi : IntsAre vs ns) (hl : ns.length ≤ sizeLine) (hr : Room k callerA)
    (F : ∀ base : Heap, K.In base → base.Ns mainGlobals mg → (∀ p ∈ cs, TabB base mg p.1 p.2) → FnG P w K mg base k fa fd [x] sp) (hbind : ∀ (s : Shared) (u : Value), BindsTo s fd ⟨[u], []⟩ [(x, u)])
    (hsp : ∀ H : Hp, (∀ p ∈ cs, H p.2 = some (.tbl #[])) → SqL K H a (ns.map V.int) → sp [.ref a] H (fun v _ => v = .bl true) E0) :
    codeAny (model P w) callerA (.call (.ref fa) ⟨[.ref a], []⟩) (fun r s' => r = .ok (.ret (.bool true)) ∧ OldK s.heap s'.heap ∧ s'.os = s.os ∧ AllBare s'.gens) s := by
  have rv := vals_ints hi
  let T := cs.map (·.2)
  let u : HO := .frz { cls := .type "list", data := .seq vs.toArray } (.lst (ns.map V.int))
  let H := H00 K a T u
  have tabAt : ∀ b ∈ T, s.heap.get? b = some tabObj := fun b hb => by
    obtain ⟨p, hp, e⟩ := List.mem_map.mp hb
    rw [← e]
    exact hT p hp
  have aT : a ∉ T := fun z => by
    have q := (tabAt a z).symm.trans ha
    cases q
  -- what is neither a list nor a table is not tracked
  have free : ∀ {b : Addr} {o : Obj}, s.heap.get? b = some o → (∀ its n, o.data ≠ .seq its n) → o.data ≠ .fields #[] → H b = none := fun {b o} e n1 n2 => h00_none (fun z => by
    rw [tabAt b z] at e
    exact n2 (by rw [← Option.some.inj e])) fun z => by
    rw [z, ha] at e
    exact (n1 _ _ (by rw [← Option.some.inj e])).elim
  have hok : HOk P w H s.heap := fun b o e => by
    rcases h00_some e with ⟨z, rfl⟩ | ⟨rfl, _, rfl⟩
    · exact tabAt b z
    · exact ⟨ha, by rw [List.length_map]; exact hl, vs, _, rv, ha⟩
  have hS : SqL K H a (ns.map V.int) := by
    cases q : K.lookup a with
    | none => exact .inl (.inr ⟨_, h00_a aT q⟩)
    | some o =>
      have e := (KX a o q).symm.trans ha
      rw [Option.some.inj e] at q
      exact .inr ⟨_, vs.toArray, _, q, rfl, rfl, rfl, by rw [List.size_toArray, hi.length]; exact hl, by simpa using rv⟩
  have up : ∀ {b : Addr} {o : Obj}, s.heap.get? b = some o → H b = none → (hidT s.heap H).get? b = some o := fun e n => hidT_get e n
  have ups : ∀ {b : Addr} {m : Str → Option Value}, s.heap.Ns b m → (hidT s.heap H).Ns b m := fun {b m} ⟨o, es, ep, e, d, r⟩ =>
    ⟨o, es, ep, up e (free e (fun _ _ z => by rw [d] at z; cases z) fun z => by rw [d] at z; cases z), d, r⟩
  have kin : K.In (hidT s.heap H) := fun b o e => up (KX b o e) (h00_none (fun z => by
    obtain ⟨p, hp, ep⟩ := List.mem_map.mp z
    rw [← ep, nT p hp] at e
    cases e) fun z => by
    rw [← z, e]
    exact Option.some_ne_none _)
  have md : L2.Mod K mg (hidT s.heap H) := ⟨kin, ups hns, ⟨mb, ups hb, hbb⟩, let ⟨mc, h1, h2⟩ := hlim; ⟨mc, ups h1, h2⟩⟩
  have TB : ∀ p ∈ cs, TabB (hidT s.heap H) mg p.1 p.2 := fun p hp => by
    refine ⟨?_, ?_, fun z => ?_⟩
    · obtain ⟨o, us, file, tf, flags, tg, inF, text, tt, e1, r1, r2, r3, r⟩ := C p hp
      refine ⟨o, us, file, tf, flags, tg, inF, text, tt, up e1 (free e1 (fun _ _ z => by rw [r2] at z; cases z) fun z => ?_), r1, r2, r3, r⟩
      rw [r2] at z
      cases z
      cases r3
    · obtain ⟨bm, ob, b1, b2, b3, b4, b5, b6⟩ := hbm
      refine ⟨bm, ob, b1, b2, fun q => ?_, fun q => ?_, up b3 (free b3 (fun _ _ z => by rw [b6] at z; cases z) fun z => by rw [b6] at z; cases z), b4, b5, b6⟩
      · obtain ⟨o, es, ep, e, d, _⟩ := hns
        rw [q, e] at b3
        cases b3
        rw [d] at b6
        cases b6
      · rw [q, hT p hp] at b3
        cases b3
        cases b6
    · obtain ⟨o, es, ep, e, d, _⟩ := hns
      rw [z, hT p hp] at e
      cases e
      cases d
  have e0 : Env0 P w K mg (hidT s.heap H) callerA [] s H := ⟨rfl, md, fun b o e => of_hidT e, Nat.le_of_eq (hidT_size _ _), trivial, (fun b hb => nomatch (show b ∈ ([] : List Addr) from hb)), hok, .of_eq hg⟩
  refine codeAny_mono ((F _ kin (ups hns) TB).run callerA [] s H ⟨[.ref a], []⟩ [.ref a] [.ref a] _ rfl hr e0 (hbind s (.ref a)) (.cons rfl .nil) (hsp H (fun p hp => h00_tab (List.mem_map.mpr ⟨p, hp, rfl⟩)) hS)) fun r s' h => ?_
  match r, h with
  | .error _, h => exact (show False from h).elim
  | .ok (.ret v), ⟨x, H', os, bare, un, hok', rx, q⟩ =>
    obtain rfl : x = .bl true := q
    obtain rfl : v = Value.bool true := rx
    have more : ∀ p ∈ cs, ∃ m : Array Value, s'.heap.get? p.2 = some { cls := .none, data := .fields m } := fun p hp => by
      obtain ⟨m, z⟩ := un.tbls p.2 #[] (h00_tab (List.mem_map.mpr ⟨p, hp, rfl⟩))
      exact ⟨_, hok' p.2 _ z⟩
    have stay : ∀ b o, b ∉ T → s.heap.get? b = some o → s'.heap.get? b = some o := fun b o nb e => by
      cases q : H b with
      | none => exact un.keep b o e q (fun z => nomatch (show b ∈ ([] : List Addr) from z)) (by simp)
      | some y =>
        rcases h00_some q with ⟨z, _⟩ | ⟨z, _, z2⟩
        · exact (nb z).elim
        · rw [z2] at q
          obtain ⟨f1, _⟩ := hok b _ q
          obtain ⟨f2, _⟩ := hok' b _ (un.frzs b _ _ q)
          rw [← Option.some.inj (f1.symm.trans e)]
          exact f2
    refine ⟨rfl, ⟨fun b o e => ?_, fun b o e => ?_⟩, os, bare⟩
    · by_cases hb : b ∈ T
      · obtain ⟨p, hp, rfl⟩ := List.mem_map.mp hb
        obtain ⟨m, hm⟩ := more p hp
        obtain rfl := Option.some.inj ((hT p hp).symm.trans e)
        exact .inr (.inl ⟨((C p hp).tab (hT p hp)).isCodeTable, rfl, #[], m, rfl, by rw [Array.empty_append]; exact hm⟩)
      · exact .inl (stay b o hb e)
    · by_cases hb : b ∈ T
      · obtain ⟨p, hp, rfl⟩ := List.mem_map.mp hb
        obtain ⟨m, hm⟩ := more p hp
        exact ⟨_, hm⟩
      · exact ⟨o, stay b o hb e⟩
structure ClF (K : PySem.W.Frag) (bm : List Value) (C : Addr) (fs : List Str) : Prop where
  cls : ∃ nm qn N bs sn sub ab col dd k0 k1 k2 k3 k5, K.lookup C = some (excClassObj nm qn C N bs bm true sn sub ab col dd k0 k1 k2 k3 k5 "ValueError.__new__")
  sa : PySem.W.findIn K (.ref C) "__setattr__" = some (some (.builtin "object.__setattr__"))
  ga : PySem.W.findIn K (.ref C) "__getattribute__" = some (some (.builtin "BaseException.__getattribute__"))
  gg : PySem.W.findIn K (.ref C) "__getattr__" = some none
  gc : PySem.W.findIn K (.ref C) "__class__" = some (some (.builtin "object.__class__"))
  kp : PySem.W.keepIn K (.ref C) = true
  no : ∀ f ∈ fs, PySem.W.findIn K (.ref C) f = some none
theorem cl_ok {K : PySem.W.Frag} {bm : List Value} {C : Addr} {fs : List Str} (h : clB K bm C fs = true) : ClF K bm C fs := by
  unfold clB at h
  obtain ⟨h1, h⟩ := Bool.and_eq_true_iff.mp h
  obtain ⟨h2, h⟩ := Bool.and_eq_true_iff.mp h
  obtain ⟨h3, h⟩ := Bool.and_eq_true_iff.mp h
  obtain ⟨h4, h⟩ := Bool.and_eq_true_iff.mp h
  obtain ⟨h5, h⟩ := Bool.and_eq_true_iff.mp h
  obtain ⟨h6, h7⟩ := Bool.and_eq_true_iff.mp h
  exact ⟨shape_ok h1, He.eqO_ok h2, He.eqO_ok h3, He.eqO_ok h4, He.eqO_ok h5, h6, fun f hf => He.eqO_ok (List.all_eq_true.mp h7 f hf)⟩
section
variable {K : PySem.W.Frag} {bm : List Value} {C : Addr} {fs : List Str}
theorem ClF.clsIn (T : ClF K bm C fs) : ∃ cd, PySem.W.clsIn K C = some cd ∧ cd.mro = .ref C :: bm ∧ cd.hasDict = true := by
  obtain ⟨nm, qn, N, bs, sn, sub, ab, col, dd, k0, k1, k2, k3, k5, hC⟩ := T.cls
  exact ⟨{ name := nm, bases := bs, mro := .ref C :: bm, ns := N, qualname := qn, hasDict := true, slotNames := sn, subclasses := sub, abstract := ab, collection := col, hasDel := false }, by unfold PySem.W.clsIn; rw [hC], rfl, rfl⟩
theorem ClF.mro (T : ClF K bm C fs) (b : Value) : PySem.W.mroIn K C b = some ((Value.ref C :: bm).contains b) := by
  obtain ⟨cd, h1, h2, h3⟩ := T.clsIn
  unfold PySem.W.mroIn
  rw [h1, Option.bind_some, h2]
  rfl
theorem ClF.ty (T : ClF K bm C fs) : PySem.W.typeIn K (.ref C) = some (.type "type") := by
  obtain ⟨nm, qn, N, bs, sn, sub, ab, col, dd, k0, k1, k2, k3, k5, hC⟩ := T.cls
  show (K.lookup C).map (·.cls) = some (.type "type")
  rw [hC]
  rfl
theorem ClF.dict (T : ClF K bm C fs) : PySem.W.hasDictIn K C = true := by
  obtain ⟨cd, h1, h2, h3⟩ := T.clsIn
  unfold PySem.W.hasDictIn
  rw [h1]
  exact h3
theorem ClF.sub (T : ClF K bm C fs) (b : Value) : PySem.W.subIn K (.ref C) b = some ((Value.ref C :: bm).contains b) := T.mro b
theorem ClF.oex (T : ClF K bm C fs) (hbm : PySem.HandSPX.refsVE bm = true) : OexC K C := by
  obtain ⟨nm, qn, N, bs, sn, sub, ab, col, dd, k0, k1, k2, k3, k5, hC⟩ := T.cls
  refine ⟨⟨nm, qn, N, bs, bm, sn, sub, ab, col, dd, k0, k1, k2, k3, k5, hC, hbm⟩, T.sa, ?_, T.ty, T.kp⟩
  rw [T.sub, List.contains_cons, PySem.HandSPX.refsVE_contains _ _ hbm]
  rfl
theorem get_cls : PySem.W.specialIn K (.builtin "object.__class__") "__get__" = some (some (.builtin "getset_descriptor.__get__")) := by
  kernel_rfl
theorem takes_cls : PySem.W.takesIn K (.builtin "object.__class__") = some true := by
  kernel_rfl
theorem ClF.xf (T : ClF K bm C fs) (hbm : PySem.HandSPX.refsVE bm = true) : XfC K C := by
  refine ⟨T.ga, T.gg, ?_, T.dict⟩
  rw [T.sub, List.contains_cons, PySem.HandSPX.refsVE_contains _ _ hbm]
  rfl
end
end K23

set_option Elab.async false
set_option linter.all false
set_option maxRecDepth 100000
set_option maxHeartbeats 4000000
/-! The head's facts; the end. -/
namespace K23
open PySem PySem.Spec PyProof.Rows L2 LamX
section
variable {P : Program} {w : World} {K : PySem.W.Frag} {h h0 base : Heap} {mg : Str → Option Value}
theorem fa_glo {x : Str} (hx : x ∈ dnms) : He.Fa.glo x ∈ fa := List.mem_append.mpr (.inl (List.mem_map.mpr ⟨x, hx, rfl⟩))
theorem fa_cls {x : Str} (hx : x ∈ cnms) : He.Fa.glo x ∈ fa := List.mem_append.mpr (.inr (List.mem_append.mpr (.inl (List.mem_map.mpr ⟨x, hx, rfl⟩))))
theorem fa_free {x : Str} (hx : x ∈ fBl) : He.Fa.free x ∈ fa := List.mem_append.mpr (.inr (List.mem_append.mpr (.inr (List.mem_append.mpr (.inl (List.mem_map.mpr ⟨x, hx, rfl⟩))))))
theorem fa_o {f : He.Fa} (i : Nat) (hf : faO[i]? = some f := by rfl) : f ∈ fa := List.mem_append.mpr (.inr (List.mem_append.mpr (.inr (List.mem_append.mpr (.inr (List.mem_of_getElem? hf))))))
theorem fn_at {i : Nat} {d : He.DefD} (hi : fnA[i]? = some d) : fn[i]? = some d := by
  unfold fn
  rw [List.getElem?_append_left (List.getElem?_eq_some_iff.mp hi).1]
  exact hi
theorem exA_ok (e : exA K = true) : exC K "BadWord" = true ∧ exC K "BadPlace" = true ∧ PySem.W.exmOne K (.ref (He.ga K "BadPlace")) (.ref (He.ga K "BadWord")) = some false ∧ (∀ x ∈ hds, PySem.W.nsIn K (He.ga K "KEPT") x = some none) ∧ (∃ v, PySem.W.nsIn K (He.ga K "KEPT") "not" = some (some v)) ∧ (He.cT K ("law", none)).2 ≠ (He.cT K ("_law_word_right", none)).2 := by
  unfold exA at e
  obtain ⟨e1, e2⟩ := Bool.and_eq_true_iff.mp e
  obtain ⟨e3, e4⟩ := Bool.and_eq_true_iff.mp e1
  obtain ⟨a1, a2⟩ := Bool.and_eq_true_iff.mp e3
  obtain ⟨b1, b2⟩ := Bool.and_eq_true_iff.mp e4
  refine ⟨a1, a2, of_decide_eq_true b1, fun x hx => He.eqO_ok (List.all_eq_true.mp b2 x hx), ?_⟩
  split at e2
  · rename_i v hv
    refine ⟨⟨v, hv⟩, fun z => ?_⟩
    rw [z] at e2
    simp at e2
  · cases e2
theorem errC_of (X : K.In base) (G : base.Ns mainGlobals mg) (c : SaysA w h0 K) {x : Str} {i : Nat} (hx : x ∈ cnms) (e : exC K x = true) {p1 p2 p3 p4 : Pos} {params : Arguments} {scope : Scope} {qual : Str}
    (hd : fn[i]? = some ⟨(x, some "__init__"), "__init__", qual, params, [.Assign [.Attribute (.Name "self" p1) "thing" p2] (.Name "thing" p3) p4], scope, [], []⟩) (hs : FnScope ["self", "thing"] ["self", "thing"] scope)
    (hb : ∀ (kV doc pm : Value) (an : Option Addr) (cdv ct : Value) (us : List Value), us.length = 2 → bindArgs (PySem.W.fnOf "__init__" qual params [.Assign [.Attribute (.Name "self" p1) "thing" p2] (.Name "thing" p3) p4] scope .none kV doc pm an cdv ct) ⟨us, []⟩ = pure ((["self", "thing"] : List Str).zip us)) : ErrC P w K mg base x := by
  unfold exC at e
  obtain ⟨e1, e2⟩ := Bool.and_eq_true_iff.mp e
  obtain ⟨e3, e4⟩ := Bool.and_eq_true_iff.mp e2
  obtain ⟨e5, e6⟩ := Bool.and_eq_true_iff.mp e4
  obtain ⟨e7, e8⟩ := Bool.and_eq_true_iff.mp e6
  have T := cl_ok e1
  obtain ⟨fd, F⟩ := c.t.d.def_ i hd
  exact ⟨T.oex (bm_ve _), T.xf (bm_ve _), T.no _ (by simp), He.glo_ok X G (c.t.d.facts (fa_cls hx)), of_decide_eq_true e7, _, fd, p1, p2, p3, p4, params, scope, qual, He.eqO_ok e3, of_decide_eq_true e5, F, hs, F.bindsN hb⟩
theorem t23_of (X : K.In base) (G : base.Ns mainGlobals mg) (c : SaysA w h0 K) : T23 P w K mg base := by
  obtain ⟨x1, x2, x3, x4, x5, x6⟩ := exA_ok c.ex
  exact {
    fr := fun x hx => He.free_ok X G (c.t.d.facts (fa_free hx))
    df := fun i x st hi => by
      obtain ⟨fd, F⟩ := c.t.d.def_ i (fn_at hi)
      have hm : (dN x st).name ∈ dnms := List.mem_map.mpr ⟨_, List.mem_of_getElem? hi, rfl⟩
      exact ⟨⟨fd, F⟩, He.glo_ok X G (c.t.d.facts (fa_glo hm))⟩
    kd := c.t.tab 0 rfl
    kn := x4
    knot := x5
    kept := He.glo_ok X G (c.t.d.facts (fa_o 0))
    letters := He.str_ok X G (c.t.d.facts (fa_o 1))
    capitals := He.str_ok X G (c.t.d.facts (fa_o 2))
    longest := He.int_ok X G (c.t.d.facts (fa_o 3))
    most := He.int_ok X G (c.t.d.facts (fa_o 4))
    bw := errC_of (i := 43) X G c (by decide) x1 (p1 := _) (p2 := _) (p3 := _) (p4 := _) (params := _) (scope := _) (qual := _) rfl ⟨rfl, rfl, rfl, by decide +kernel, rfl, by decide +kernel, by decide +kernel⟩ (fun kV doc pm an cdv ct us hl => match us, hl with | [_, _], _ => rfl)
    bp := errC_of (i := 44) X G c (by decide) x2 (p1 := _) (p2 := _) (p3 := _) (p4 := _) (params := _) (scope := _) (qual := _) rfl ⟨rfl, rfl, rfl, by decide +kernel, rfl, by decide +kernel, by decide +kernel⟩ (fun kV doc pm an cdv ct us hl => match us, hl with | [_, _], _ => rfl)
    xpw := x3
    cl := fun x hx => He.glo_ok X G (c.t.d.facts (fa_cls hx)) }
end
theorem tri_nil : TriplesOk (#[] : Array Value).toList := by trivial
abbrev lw : PySem.W.OpenLaw := PySem.Challenge.rw_eithershown_k23_whole_places
abbrev dK := HandSHeadRun.topDef R.prog 68
theorem walkK : PySem.W.WalkO (PySem.W.view R.prog [68]) loose (PySem.W.XL (PySem.W.view R.prog [68]) []) hookA.says lw.row.toRowW dK [] (fun f vs => PySem.call f vs) := by
  refine Att.attach_callB (n := 63) rfl rfl fun w s₀ s₁ mg mb fa o pm cd doc a vs ns G Y ho hd hcd hmg hobj hints hlen hbits hg => ?_
  obtain ⟨K, KX, c⟩ := Y
  obtain ⟨fd, F⟩ := c.t.d.def_ 42 (d := dN "law" s_law) rfl
  have e : fa = He.ga K "law" := by
    have q := (He.glo_ok KX G.T.g (c.t.d.facts (fa_glo (x := "law") (List.mem_map.mpr ⟨dN "law" s_law, List.mem_of_getElem? (i := 42) rfl, rfl⟩)))).symm.trans hmg
    exact (Value.ref.inj (Option.some.inj q)).symm
  subst e
  have tl : ∀ p ∈ tf.map (He.cT K), ∃ q ∈ tf, He.cT K q = p := fun p hp => List.mem_map.mp hp
  have ap : (tf.map fun p => (He.cT K p).2).Nodup := by
    obtain ⟨_, _, _, _, _, x6⟩ := exA_ok c.ex
    show [(He.cT K ("law", none)).2, (He.cT K ("_law_word_right", none)).2].Nodup
    simp only [List.nodup_cons, List.mem_cons, List.not_mem_nil, or_false, not_false_eq_true, List.nodup_nil, and_true]
    exact x6
  refine law_callG (cs := tf.map (He.cT K)) (k := 46) (x := "_law_script") (sp := spLaw K) (fd := fd) KX G.T.g G.T.b G.T.builtins G.T.nolimit hg (fun p hp => ?_) (fun p hp => ?_) (fun p hp => ?_) G.T.bmain hobj hints (Nat.le_trans hlen (by rw [sizeLine_eq]; decide)) ?_
    (fun base KB GB TB => ok_law (t23_of KB GB c) ⟨fun p hp => TB _ (List.mem_map.mpr ⟨p, hp, rfl⟩), ap⟩ F) (fun s u => F.bindsA (ps := ["_law_script"]) (fun kV doc pm an cdv ct us hl => match us, hl with | [_], _ => rfl) s [u] rfl) (fun H hT hS => ⟨a, ns, rfl, hS, ?_, fun _ => rfl⟩)
  · obtain ⟨q, hq, rfl⟩ := tl p hp
    exact c.empty q hq
  · obtain ⟨q, hq, rfl⟩ := tl p hp
    exact c.out q hq
  · obtain ⟨q, hq, rfl⟩ := tl p hp
    exact PySem.W.codeHd_of_K KX (c.hd q hq)
  · exact ⟨rfl, by decide +kernel, by decide +kernel⟩
  · intro z hz
    obtain ⟨q, hq, rfl⟩ := List.mem_map.mp hz
    exact ⟨#[], hT _ (List.mem_map.mpr ⟨q, hq, rfl⟩), tri_nil, fun pos cv e => nomatch e⟩
end K23
open PySem PySem.W PySem.Calls PyProof.Rows
theorem PySem.Challenge.cw_eithershown_k23_whole_places_holds : PySem.Challenge.rw_eithershown_k23_whole_places.Holds := by
  w_on; o_law
  refine HandSHeadRun.head_any (r := OpenLaw.row PySem.Challenge.rw_eithershown_k23_whole_places) (q := PySem.W.view K23.R.prog [68]) (H := K23.hookA) (ob := fun s => K23.obA (K23.gT s)) (M := 9000) (loose := K23.loose) (d := K23.dK) (kwd := []) (fun s => K23.obA_eq (HandSHeadRun.getT_eq s)) (by kernel_rfl) (fun s => by kernel_rfl) K23.run (by rfl) (by rfl) (by rfl) (by rfl) (by first | assumption | decide +kernel) (by decide +kernel) ⟨rfl, rfl, rfl, rfl, rfl, by decide +kernel⟩ ?hw K23.walkK
  case hw => w_witness2

