import PyProof.Rows.All
import Wide.All
import OpenK.AllK
import Wide.FinOn
import KE.KStateDown
import Lean
import HandS.ForMost
import HandS.ForExc
import HandS.Words
import HandS.WordsExc
import HandS.Defaults
import HandS.ExcInit
import HandS.ExcIs
import HandS.ExcField
import HandS.Lambda
import HandS.Head0
import HandS.Head1
import HandS.Head2
import HandS.HeadEnd
import HandS.HeadHook1
import HandS.HeadHook2
import HandS.HeadHook3
import HandS.HeadHook4
import HandS.EndTab
import PySem.Challenge.RW_eithershown_k24_whole_puts_and_matching
import HandS.Evl
import HandS.IsInst
import HandS.More
import HandS.StrMore
import PyProof.AutoSeq1
import HandS.CallLocal
import HandS.Walk
import HandS.DictComp
import HandS.Zip
import KE.GoesMore
import HandS.ExcOwn
import HandS.Wide
import HandS.TryMany
import HandS.ListItems
import HandS.Iter
import PyProof.DictUpdate
import HandS.Deep
import HandS.SetKeys
import HandS.DictTup
import PyProof.ReprRoads
import HandS.HeadWalk
set_option Elab.async false
set_option linter.all false
set_option maxRecDepth 100000
set_option maxHeartbeats 0
/-! The text by places, the head's looks. -/
namespace K24
open PySem PySem.Spec PyProof.Rows L2
def top (i : Nat) : Stmt := PySem.Challenge.pw_eithershown_k24_whole_puts_and_matching.main.body.getD i (.Pass ⟨0, 0, 0, 0⟩)
abbrev FnP (K : PySem.W.Frag) (x : Str) (st : Stmt) (f : Addr) (fd : FuncData) : Prop := FunD K x x (defArgs st) (defBody st) (defScope st) [] [] f fd
abbrev s_is_integer : Stmt := top 22
abbrev s_is_number : Stmt := top 23
abbrev s_is_list : Stmt := top 24
abbrev s_is_spelled : Stmt := top 25
abbrev s_is_name : Stmt := top 26
abbrev s_is_variable : Stmt := top 27
abbrev s_has_lists : Stmt := top 28
abbrev s_frozen : Stmt := top 29
abbrev s_exchanged : Stmt := top 31
abbrev s_frozen_substitution : Stmt := top 32
abbrev s_part_at : Stmt := top 33
abbrev s_with_part : Stmt := top 34
abbrev s_has_places : Stmt := top 36
abbrev s_words_fit : Stmt := top 37
abbrev s_word_fits : Stmt := top 38
abbrev s_is_equality : Stmt := top 39
abbrev s_atom_fits : Stmt := top 40
abbrev s_is_any_word : Stmt := top 41
abbrev s_is_any_atom : Stmt := top 42
abbrev s_is_any_substitution : Stmt := top 43
abbrev s_checked_word : Stmt := top 45
abbrev s_check_place : Stmt := top 46
abbrev s_word_put : Stmt := top 47
abbrev s_checked_substitution : Stmt := top 49
abbrev s_put : Stmt := top 50
abbrev s_behind : Stmt := top 51
abbrev s_why_unmatched : Stmt := top 52
abbrev s_match : Stmt := top 53
abbrev s_match_fault : Stmt := top 54
abbrev s__law_d_word : Stmt := top 56
abbrev s__law_d_atom : Stmt := top 57
abbrev s__law_d_put : Stmt := top 58
abbrev s__law_d_parts : Stmt := top 59
abbrev s__law_d_variables : Stmt := top 60
abbrev s__law_d_odd_words : Stmt := top 61
abbrev s__law_d_loose : Stmt := top 62
abbrev s__law_d_met : Stmt := top 63
abbrev s__law_start : Stmt := top 64
abbrev s__law_draw : Stmt := top 65
abbrev s__law_pick : Stmt := top 66
abbrev s__law_mixed : Stmt := top 67
abbrev s__law_same : Stmt := top 68
abbrev s__law_each_once : Stmt := top 69
abbrev s__law_turned : Stmt := top 70
abbrev s__law_substitution : Stmt := top 71
abbrev s__law_fault : Stmt := top 72
abbrev s__law_put_right : Stmt := top 73
abbrev s__law_match_right : Stmt := top 74
abbrev s__law_refused_right : Stmt := top 75
abbrev s_law : Stmt := top 76
def dN (x : Str) (st : Stmt) : He.DefD := ⟨(x, none), x, x, defArgs st, defBody st, defScope st, [], []⟩
def fnA0 : List (He.DefD) := [dN "is_integer" s_is_integer, dN "is_number" s_is_number, dN "is_list" s_is_list, dN "is_spelled" s_is_spelled, dN "is_name" s_is_name, dN "is_variable" s_is_variable, dN "has_lists" s_has_lists, dN "frozen" s_frozen, dN "exchanged" s_exchanged, dN "frozen_substitution" s_frozen_substitution, dN "part_at" s_part_at, dN "with_part" s_with_part, dN "has_places" s_has_places, dN "words_fit" s_words_fit, dN "word_fits" s_word_fits, dN "is_equality" s_is_equality, dN "atom_fits" s_atom_fits, dN "is_any_word" s_is_any_word, dN "is_any_atom" s_is_any_atom, dN "is_any_substitution" s_is_any_substitution]
def fnA1 : List (He.DefD) := [dN "checked_word" s_checked_word, dN "check_place" s_check_place, dN "word_put" s_word_put, dN "checked_substitution" s_checked_substitution, dN "put" s_put, dN "behind" s_behind, dN "why_unmatched" s_why_unmatched, dN "match" s_match, dN "match_fault" s_match_fault, dN "_law_d_word" s__law_d_word, dN "_law_d_atom" s__law_d_atom, dN "_law_d_put" s__law_d_put, dN "_law_d_parts" s__law_d_parts, dN "_law_d_variables" s__law_d_variables, dN "_law_d_odd_words" s__law_d_odd_words, dN "_law_d_loose" s__law_d_loose, dN "_law_d_met" s__law_d_met, dN "_law_start" s__law_start, dN "_law_draw" s__law_draw, dN "_law_pick" s__law_pick]
def fnA2 : List (He.DefD) := [dN "_law_mixed" s__law_mixed, dN "_law_same" s__law_same, dN "_law_each_once" s__law_each_once, dN "_law_turned" s__law_turned, dN "_law_substitution" s__law_substitution, dN "_law_fault" s__law_fault, dN "_law_put_right" s__law_put_right, dN "_law_match_right" s__law_match_right, dN "_law_refused_right" s__law_refused_right, dN "law" s_law]
def fnA : List (He.DefD) := fnA0 ++ fnA1 ++ fnA2
def loose0 : List (Str) := ["__name__", "ShowError", "BadArities", "BadClause", "BadClauses", "BadNumber", "BadOrder", "BadPairs", "BadPlace", "BadRows", "BadSubstitution", "BadTaken", "BadTruth", "BadWord", "NotGround", "NotOrdered", "LETTERS", "CAPITALS", "LONGEST", "MOST_PLACES", "KEPT", "is_integer", "is_number", "is_list", "is_spelled", "is_name", "is_variable", "has_lists", "frozen", "exchanged"]
def loose1 : List (Str) := ["frozen_substitution", "part_at", "with_part", "has_places", "words_fit", "word_fits", "is_equality", "atom_fits", "is_any_word", "is_any_atom", "is_any_substitution", "checked_word", "check_place", "word_put", "checked_substitution", "put", "behind", "why_unmatched", "match", "match_fault", "_law_d_word", "_law_d_atom", "_law_d_put", "_law_d_parts", "_law_d_variables", "_law_d_odd_words", "_law_d_loose", "_law_d_met", "_law_start", "_law_draw"]
def loose2 : List (Str) := ["_law_pick", "_law_mixed", "_law_same", "_law_each_once", "_law_turned", "_law_substitution", "_law_fault", "_law_put_right", "_law_match_right", "_law_refused_right"]
def loose : List (Str) := loose0 ++ loose1 ++ loose2
/-- walking names to what they stand for -/
def nv (g : Addr → Option Obj) (x : Str) : Addr := He.ga (He.frG g [mainGlobals]) x
def codeOf (g : Addr → Option Obj) (f : Addr) : List Addr := match g f with
  | some ⟨_, _, .func fd, _⟩ => He.refV fd.code
  | _ => []
def objsC (g : Addr → Option Obj) (x : Str) : List Addr := match g (nv g x) with
  | some ⟨_, _, .cls cd, _⟩ => nv g x :: cd.ns :: (match PySem.W.nsIn (He.frG g [cd.ns]) cd.ns "__init__" with
    | some (some (.ref f)) => f :: codeOf g f
    | _ => [])
  | _ => []
def objsF (g : Addr → Option Obj) (x : Str) : List Addr := nv g x :: codeOf g (nv g x)
def dnms : List Str := fnA.map (·.name)
abbrev sI (i : Nat) : Stmt := inClass (top i) 0
def dI (x : Str) (i : Nat) : He.DefD := ⟨(x, some "__init__"), "__init__", x ++ ".__init__", defArgs (sI i), defBody (sI i), defScope (sI i), [], []⟩
def fnI : List He.DefD := [dI "BadWord" 13, dI "BadPlace" 8, dI "BadSubstitution" 10]
def fn : List He.DefD := fnA ++ fnI
def cnms : List Str := ["BadArities", "BadClause", "BadClauses", "BadNumber", "BadOrder", "BadPairs", "BadPlace", "BadRows", "BadSubstitution", "BadTaken", "BadTruth", "BadWord", "NotGround", "NotOrdered"]
def asK (g : Addr → Option Obj) : List Addr := mainGlobals :: sysModules :: nv g "KEPT" :: (objsC g "ShowError" ++ cnms.flatMap (objsC g)) ++ dnms.flatMap (objsF g)
def fK (g : Addr → Option Obj) : PySem.W.Frag := He.frT g (asK g)
def fBl : List Str := ["all", "bool", "dict", "enumerate", "int", "isinstance", "len", "list", "min", "range", "repr", "sorted", "str", "tuple", "zip"]
def faG : List He.Fa := dnms.map He.Fa.glo
def faC : List He.Fa := cnms.map He.Fa.glo
def faF : List He.Fa := fBl.map He.Fa.free
def faO : List He.Fa := [.glo "KEPT", .str "LETTERS" "abcdefghijklmnopqrstuvwxyz", .str "CAPITALS" "ABCDEFGHIJKLMNOPQRSTUVWXYZ", .int "LONGEST" 8, .int "MOST_PLACES" 6]
def fa : List He.Fa := faG ++ (faC ++ (faF ++ faO))
def kept0 : List Str := ["all", "some", "not", "and", "or", "then", "iff", "false", "axiom", "goal", "function", "predicate", "things", "is", "by", "on", "of", "put", "for", "in", "at"]
def kept1 : List Str := ["into", "given", "instance", "resolve", "replace", "same", "alike", "either", "turned", "chained", "parts", "holds", "class", "fact", "cell", "clash", "size", "follows", "fails", "open", "watch", "hold"]
def kept : List Str := kept0 ++ kept1
def ts : List He.Tab := [(fun K => He.ga K "KEPT", kept)]
/-- the defs that make lambdas -/
def tf : List He.Defn := [("_law_refused_right", none)]
abbrev R : PySem.W.OpenRow := PySem.W.OpenLaw.row PySem.Challenge.rw_eithershown_k24_whole_puts_and_matching
/-- names that are heads of words -/
def hds : List Str := ["a", "b", "c", "f", "g", "h", "p", "q", "r", "s", "x", "late"]
def bmS (S : Addr) : List Value := .ref S :: PySem.HandSPX.veTail
def shapeB (K : PySem.W.Frag) (C : Addr) (bm : List Value) : Bool := match K.lookup C with
  | some ⟨.type "type", _, .cls cd, sl⟩ => (match sl.toList with
    | [_, _, _, _, some (.builtin n), _] => n == "ValueError.__new__" && (!cd.hasDel && (cd.hasDict && cd.mro == .ref C :: bm))
    | _ => false)
  | _ => false
/-- what is asked of each such class: C, its mro, the names that it must not have -/
def clB (K : PySem.W.Frag) (bm : List Value) (C : Addr) (fs : List Str) : Bool :=
  shapeB K C bm && (He.eqO (PySem.W.findIn K (.ref C) "__setattr__") (some (some (.builtin "object.__setattr__"))) &&
  (He.eqO (PySem.W.findIn K (.ref C) "__getattribute__") (some (some (.builtin "BaseException.__getattribute__"))) &&
  (He.eqO (PySem.W.findIn K (.ref C) "__getattr__") (some none) &&
  (He.eqO (PySem.W.findIn K (.ref C) "__class__") (some (some (.builtin "object.__class__"))) &&
  (PySem.W.keepIn K (.ref C) && fs.all fun f => He.eqO (PySem.W.findIn K (.ref C) f) (some none))))))
def exC (K : PySem.W.Frag) (x : Str) : Bool := clB K (bmS (He.ga K "ShowError")) (He.ga K x) ["thing"] && (He.eqO (PySem.W.findIn K (.ref (He.ga K x)) "__init__") (some (some (.ref (He.ma K (He.ga K x) "__init__")))) &&
  (decide (PySem.W.typeIn K (.ref (He.ma K (He.ga K x) "__init__")) = some (.type "function")) && (decide (PySem.W.exmOne K (.ref (He.ga K x)) (.ref (He.ga K x)) = some true) &&
  decide (PySem.W.subIn K (.ref (He.ga K x)) (.type "BaseException") = some true))))
def exA (K : PySem.W.Frag) : Bool := (exC K "BadWord" && (exC K "BadPlace" && exC K "BadSubstitution")) && ((decide (PySem.W.exmOne K (.ref (He.ga K "BadPlace")) (.ref (He.ga K "BadWord")) = some false) && (decide (PySem.W.exmOne K (.ref (He.ga K "BadSubstitution")) (.ref (He.ga K "BadWord")) = some false) && decide (PySem.W.exmOne K (.ref (He.ga K "BadSubstitution")) (.ref (He.ga K "BadPlace")) = some false))) && (hds.all fun x => He.eqO (PySem.W.nsIn K (He.ga K "KEPT") x) (some none))) && (match PySem.W.nsIn K (He.ga K "KEPT") "not" with
  | some (some _) => true
  | _ => false)
def obA (g : Addr → Option Obj) : He.AlT × Bool := (He.obsT fa fn ts (fK g), exA (fK g) && He.tabsB g tf (fK g))
def valA (w : World) : He.AlT × Bool := (He.valT fn ts w, true)
noncomputable abbrev gT (s : PySem.W.SharedT) : Addr → Option Obj := HandSHeadRun.getT s
structure SaysA (w : World) (h : Heap) (K : PySem.W.Frag) : Prop where
  t : He.SaysT fa fn ts w K
  ex : exA K = true
  hd : ∀ p ∈ tf, PySem.W.codeHdIn K (He.cT K p).1 (He.cT K p).2 = true
  out : ∀ p ∈ tf, K.lookup (He.cT K p).2 = none
  empty : ∀ p ∈ tf, h.get? (He.cT K p).2 = some { cls := .none, data := .fields #[] }
theorem says_of {w : World} {h : Heap} (e : obA h.get? = valA w) : SaysA w h (fK h.get?) := by
  have e2 := congrArg (fun z : He.AlT × Bool => z.2) e
  obtain ⟨h1, h2⟩ := Bool.and_eq_true_iff.mp e2
  have key : ∀ p ∈ tf, PySem.W.codeHdIn (fK h.get?) (He.cT (fK h.get?) p).1 (He.cT (fK h.get?) p).2 = true ∧ ∃ o, h.get? (He.cT (fK h.get?) p).2 = some o ∧ He.emptyTab o = true := fun p hp => by
    obtain ⟨a1, a2⟩ := Bool.and_eq_true_iff.mp (List.all_eq_true.mp h2 p hp)
    refine ⟨a1, ?_⟩
    cases q : h.get? (He.cT (fK h.get?) p).2 with
    | none =>
      rw [q] at a2
      cases a2
    | some o =>
      rw [q] at a2
      exact ⟨o, rfl, a2⟩
  exact ⟨congrArg (fun z : He.AlT × Bool => z.1) e, h1, fun p hp => (key p hp).1, fun p hp => by
    obtain ⟨_, o, q, z⟩ := key p hp
    exact He.frT_none q z, fun p hp => by
    obtain ⟨_, o, q, z⟩ := key p hp
    rw [q, He.emptyTab_eq z]⟩
def hookA : PySem.W.Hook where
  α := He.AlT × Bool
  obs := fun s => obA s.heap.get?
  val := fun w => valA w
  says := fun w h => ∃ K : PySem.W.Frag, K.In h ∧ SaysA w h K
  of := fun _ _ e => ⟨_, He.frT_in, says_of e⟩
  keeps := fun _ _ _ ⟨K, hK, c⟩ k => ⟨K, PySem.W.Frag.In.keeps hK k, ⟨c.t, c.ex, c.hd, c.out, fun p hp => k _ _ (c.empty p hp)⟩⟩
theorem obA_eq {g : Addr → Option Obj} {s : Shared} (h : ∀ a, g a = s.heap.get? a) : obA g = hookA.obs s := by
  have e : g = s.heap.get? := funext h
  rw [e] <;> rfl
end K24

set_option Elab.async false
set_option linter.all false
set_option maxRecDepth 100000
set_option maxHeartbeats 0
namespace K24
open PySem PySem.Spec PyProof.Rows L2
theorem run_f (w : World) : HandSHeadRun.RunEq R (PySem.W.view R.prog [76]) hookA (fun s => obA (gT s)) 9000 loose (w.withFollow "special-get-raises" false) := by
  intro os
  kernel_rfl
theorem run_t (w : World) : HandSHeadRun.RunEq R (PySem.W.view R.prog [76]) hookA (fun s => obA (gT s)) 9000 loose (w.withFollow "special-get-raises" true) := by
  intro os
  kernel_rfl
theorem run (w : World) : HandSHeadRun.RunEq R (PySem.W.view R.prog [76]) hookA (fun s => obA (gT s)) 9000 loose w :=
  PySem.W.byRow2 "special-get-raises" (P := fun w => HandSHeadRun.RunEq R (PySem.W.view R.prog [76]) hookA (fun s => obA (gT s)) 9000 loose w) run_f run_t w
end K24

set_option Elab.async false
set_option linter.all false
set_option maxRecDepth 100000
set_option maxHeartbeats 4000000
/-! What serves any def: isinstance, lists, walks. -/
namespace K24
open PySem PySem.Spec PyProof.Rows L2 Evl
section
variable {H G : Hp}
/-- all tuples stay -/
def Tx (H G : Hp) : Prop := ∀ a xs, H a = some (.tup xs) → G a = some (.tup xs)
theorem Tx.of (e : Ex H G) : Tx H G := fun a xs h => e a _ h
theorem Tx.refl (H : Hp) : Tx H H := fun _ _ h => h
theorem Tx.trans {J : Hp} (a : Tx H G) (b : Tx G J) : Tx H J := fun c xs h => b c xs (a c xs h)
theorem Tx.lst {p : Addr} {xs : List V} {o : HO} (h : H p = some (.lst xs)) : Tx H (upd H p o) := fun a ys e => by
  rw [upd_ne (ne_of e h (by intro z; cases z))]
  exact e
theorem Tx.dct {p : Addr} {xs : List (Key × V)} {o : HO} (h : H p = some (.dK xs)) : Tx H (upd H p o) := fun a ys e => by
  rw [upd_ne (ne_of e h (by intro z; cases z))]
  exact e
end
/-! ### isinstance(e, C), C a built-in; (list, tuple) -/
abbrev tIsi (K : PySem.W.Frag) (t : String) (te : TE) : TE := tCB (rIsi K) (tCons te (tCons (tC (.ty t)) tNil))
abbrev tIsi2 (K : PySem.W.Frag) (te : TE) : TE := tCB (rIsiT K) (tCons te (tCons (tTup (tCons (tC (.ty "list")) (tCons (tC (.ty "tuple")) tNil))) tNil))
section
variable {X : Cx} {e : Expr} {te : TE} {p q r q1 q2 pos : Pos}
theorem pe_isiB {n : Str} {t : String} (m1 : X.mg "isinstance" = none) (m2 : X.mg n = none) (hv : bootBuiltins n = some (.type t)) (he : PE X e te) (g1 : Gl X "isinstance" := by rfl) (g2 : Gl X n := by rfl) (hn : n ≠ "__name__" := by decide) (hd : (n == ("__debug__" : Str)) = false := by decide)
    (hs : starEach [e, .Name n q] X.env = (false, eval e X.env) :: starEach [.Name n q] X.env := by rfl) (hs2 : starEach [.Name n q] X.env = (false, eval (.Name n q) X.env) :: starEach [] X.env := by rfl) (hpl : (backTo pos (starEach [.Name n q] X.env)).any (·.1) = false := by rfl) :
    PE X (.Call (.Name "isinstance" p) [e, .Name n q] [] pos) (tIsi X.K t te) :=
  pe_callB call_isi g1 m1 PyProof.Rows.boot_isinstance (pa_cons he (pa_cons (pe_bltn (v := .ty t) g2 m2 hv rfl hn hd) pa_nil hs2) hs) (by decide) (by decide) hs hpl
theorem pe_isiLT (m1 : X.mg "isinstance" = none) (m2 : X.mg "list" = none) (m3 : X.mg "tuple" = none) (he : PE X e te) (g1 : Gl X "isinstance" := by rfl) (g2 : Gl X "list" := by rfl) (g3 : Gl X "tuple" := by rfl)
    (hs : starEach [e, .Tuple [.Name "list" q1, .Name "tuple" q2] x1 r] X.env = (false, eval e X.env) :: starEach [.Tuple [.Name "list" q1, .Name "tuple" q2] x1 r] X.env := by rfl)
    (hs2 : starEach [.Tuple [.Name "list" q1, .Name "tuple" q2] x1 r] X.env = (false, eval (.Tuple [.Name "list" q1, .Name "tuple" q2] x1 r) X.env) :: starEach [] X.env := by rfl)
    (hs3 : starEach [.Name "list" q1, .Name "tuple" q2] X.env = (false, eval (.Name "list" q1) X.env) :: starEach [.Name "tuple" q2] X.env := by rfl) (hs4 : starEach [.Name "tuple" q2] X.env = (false, eval (.Name "tuple" q2) X.env) :: starEach [] X.env := by rfl)
    (hpl : (backTo pos (starEach [.Tuple [.Name "list" q1, .Name "tuple" q2] x1 r] X.env)).any (·.1) = false := by rfl) :
    PE X (.Call (.Name "isinstance" p) [e, .Tuple [.Name "list" q1, .Name "tuple" q2] x1 r] [] pos) (tIsi2 X.K te) :=
  pe_callB call_isiT g1 m1 PyProof.Rows.boot_isinstance (pa_cons he (pa_cons (pe_tup (pa_cons (pe_bltn (v := .ty "list") g2 m2 PyProof.Rows.boot_list rfl (by decide) (by decide)) (pa_cons (pe_bltn (v := .ty "tuple") g3 m3 PyProof.Rows.boot_tuple rfl (by decide) (by decide)) pa_nil hs4) hs3)) pa_nil hs2) hs) (by decide) (by decide) hs hpl
end
theorem tyx_ext {K : PySem.W.Frag} {H G : Hp} {v : V} {t : Value} (e : Ex H G) (h : TyX K H v t) : TyX K G v t := by
  cases h with
  | base h =>
    refine .base ?_
    cases h with
    | non => exact .non
    | bl x => exact .bl x
    | int i => exact .int i
    | str x => exact .str x
    | flt x => exact .flt x
    | lst h => exact .lst (e _ _ h)
    | frz h => exact .frz (e _ _ h)
    | tup h => exact .tup (e _ _ h)
    | dK h => exact .dK (e _ _ h)
    | dT h => exact .dT (e _ _ h)
    | ins h a b c d f => exact .ins (e _ _ h) a b c d f
  | byt b => exact .byt b
  | set h => exact .set (e _ _ h)
  | kList a b => exact .kList a b
  | kTuple a b => exact .kTuple a b
  | kDict a b => exact .kDict a b
  | fTuple h => exact .fTuple (e _ _ h)
  | fDict h => exact .fDict (e _ _ h)
section
variable {K : PySem.W.Frag} {σ : L2.St} {H : Hp} {te : TE} {v : V}
theorem ev_isi {m n : String} {b : Bool} (h : Ev te σ H v) (ty : TyX K H v (.type m)) (e : kitB m n = some b) : Ev (tIsi K n te) σ H (.bl b) :=
  ev_cb (ea_cons h (ea_cons ev_c ea_nil)) fun H1 x Q q => ⟨v, .ty n, _, _, b, rfl, .ty n, tyx_ext x ty, kit_ty e, q H1 (Ex.refl H1)⟩
/-- is it a list or a tuple -/
def isLT (m : String) : Bool := m == "list" || m == "tuple"
theorem ev_isi2 {m : String} {b1 b2 : Bool} (h : Ev te σ H v) (ty : TyX K H v (.type m)) (e1 : kitB m "list" = some b1) (e2 : kitB m "tuple" = some b2) : Ev (tIsi2 K te) σ H (.bl (b1 || b2)) := fun H1 x Q q =>
  h H1 x _ fun H2 x2 => ⟨by show 2 ≤ sizeLine; decide, fun p hp => by
    have x3 : Ex H2 (upd H2 p (.tup [.ty "list", .ty "tuple"])) := Ex.new hp
    show rIsiT K [v, .ref p] _ Q
    refine ⟨v, p, [.ty "list", .ty "tuple"], _, [.type "list", .type "tuple"], b1 || b2, rfl, upd_same, .cons (.ty _) (.cons (.ty _) .nil), tyx_ext ((x.trans x2).trans x3) ty, ?_, q _ (x2.trans x3)⟩
    cases b1 with
    | true => exact kitAny_cons (kit_ty e1) (fun z => nomatch z) fun _ => rfl
    | false => exact kitAny_cons (kit_ty e1) (fun _ => by
        cases b2 with
        | true => exact kitAny_cons (kit_ty e2) (fun z => nomatch z) fun _ => rfl
        | false => exact kitAny_cons (kit_ty e2) (fun _ => kitAny_nil) fun z => nomatch z) fun z => nomatch z⟩
end
theorem extend_tup (l : Addr) (items : Array Value) (n : Nat) (b : Addr) (dd : Option Addr) (sl : Array (Option Value)) (items2 : Array Value) (n2 : Nat) (hs0 : ¬(!items.isEmpty && Builtin.List.listTooLong (items.size + items2.size)) = true) (hs1 : items.size ≤ sizeLine) (hs2 : items.size + items2.size ≤ sizeLine + 1) :
    Meets (Builtin.«list.extend» ⟨[.ref l, .ref b], []⟩) (fun _ R s => s.heap.get? l = some { cls := .type "list", dict := none, data := .seq items n, slots := #[] } ∧ s.heap.get? b = some { cls := .type "tuple", dict := dd, data := .seq items2 n2, slots := sl } ∧ R (.ok (.ret Value.none)) { s with heap := s.heap.update l (Obj.mapSeq fun x => x ++ items2), toks := s.toks }) :=
  .of_wp fun prog w A R s h => by
    obtain ⟨hp, g, d, tk, os⟩ := s
    obtain ⟨hl, hb, h⟩ := h
    have f1 := PySem.AutoSeq1.idx_int
    have f2 := PySem.AutoSeq1.sub_tuple_tuple
    have f3 := PySem.AutoSeq1.sub_list_list
    have f4 := PySem.AutoSeq1.sub_tuple_list
    have f5 := PySem.AutoSeq1.sub_list_tuple
    have hz' : (items ++ items2).size ≤ sizeLine + 1 := by rw [Array.size_append]; exact hs2
    wp_walk using (wpAny_updateSeq hl rfl (hz := hs1) (_hz' := hz')), PySem.AutoSeq1.wpAny_loadPart' hl, PySem.AutoSeq1.wpAny_loadPart' hb
    exact ⟨_, rfl, h⟩
def rExtT (K : PySem.W.Frag) : V → List V → Hp → VK → Prop := fun x vs H Q => ∃ l b xs zs, x = .ref l ∧ vs = [.ref b] ∧ H l = some (.lst xs) ∧ SqT K H b zs ∧ xs.length + zs.length ≤ sizeLine ∧ Q .non (upd H l (.lst (xs ++ zs)))
theorem mt_extT {X : Cx} : MtM X "list.extend" (rExtT X.K) := by
  intro pins s σ H x vs v us Q I rx rv h
  obtain ⟨l, b, xs, zs, rfl, rfl, hH, hB, hz, q⟩ := h
  cases rx
  obtain ⟨u, rfl, ru⟩ := rv.one
  cases ru
  obtain ⟨z, its, n, r, hl, e⟩ := I.lstM hH
  obtain ⟨its2, r2, ⟨o, e2, oc, n2, od⟩, hl2⟩ := I.tuple hB
  obtain ⟨oc', dd, dt, sl⟩ := o
  dsimp only at oc od
  subst oc od
  have h1 := r2.length
  have hsz : its.toArray.size + its2.toArray.size ≤ sizeLine := by rw [List.size_toArray, List.size_toArray]; omega
  have hlong : ¬ (!its.toArray.isEmpty && Builtin.List.listTooLong (its.toArray.size + its2.toArray.size)) = true := by
    rw [notLongL hsz, Bool.and_false]
    exact Bool.false_ne_true
  refine call_meets F.slot_list_extend ⟨_, e, rfl⟩ F.entry_list_extend (F.args_list_extend_2 _ _)
    (extend_tup l its.toArray n b dd sl its2.toArray n2 hlong (by rw [List.size_toArray]; omega) (by omega)) ⟨e, e2, ?_⟩
  refine ⟨.non, _, I.lset (its' := its ++ its2) hH e (by simp) (r.append r2) ?_, rfl, q⟩
  rw [List.length_append]
  omega
section
variable {K : PySem.W.Frag} {σ : L2.St} {H G : Hp} {te ta tb : TE} {v : V}
theorem et_truL {p : Addr} {xs : List V} (h : Ev te σ H (.ref p)) (hs : SqL K H p xs) : EvT (fun σ H Q => te σ H fun x H' => ∃ k, TruV K x H' k ∧ Q k H') σ H (!xs.isEmpty) :=
  fun H1 e Q q => h H1 e _ fun H2 e2 => ⟨_, .inl ⟨xs, ex_l (e.trans e2) hs, rfl⟩, q H2 e2⟩
abbrev tLen (K : PySem.W.Frag) (te : TE) : TE := tCB (fun xs H Q => ∃ x n, xs = [x] ∧ LenV K x H n ∧ Q (.int n) H) (tCons te tNil)
theorem ev_lenG {n : Nat} (h : Ev te σ H v) (l : ∀ G, Ex H G → LenV K v G n) : Ev (tLen K te) σ H (.int n) := fun H1 e Q q => h H1 e _ fun H2 e2 => ⟨v, n, rfl, l H2 (e.trans e2), q H2 e2⟩
theorem ev_lenT {p : Addr} {xs : List V} (h : Ev te σ H (.ref p)) (hs : SqT K H p xs) : Ev (tLen K te) σ H (.int (xs.length : Nat)) := ev_lenG h fun G e => .inr ⟨xs, ex_t e hs, rfl⟩
theorem ev_lenL {p : Addr} {xs : List V} (h : Ev te σ H (.ref p)) (hs : SqL K H p xs) : Ev (tLen K te) σ H (.int (xs.length : Nat)) := ev_lenG h fun G e => .inl ⟨xs, ex_l e hs, rfl⟩
theorem ev_lenS {x : Str} (h : Ev te σ H (.str x)) (l : x.length ≤ 1000) : Ev (tLen K te) σ H (.int (x.length : Nat)) := ev_lenG h fun G e => ⟨Nat.le_trans l (by decide), rfl⟩
end
section
variable {K : PySem.W.Frag} {σ : L2.St} {H G : Hp} {te ta tb : TE} {v : V} {D : Ends} {tz : TS}
theorem last_at {xs : List V} {y : V} : (xs ++ [y])[(xs ++ [y]).length - 1]? = some y := by simp
/-- y = xs.pop() -/
theorem q_pop {l : Addr} {xs : List V} {y : V} {j : Nat} (hl : H l = some (.lst (xs ++ [y]))) (ha : Ev ta σ H (.ref l)) (k : ∀ H1, Ex H H1 → tz D (σ.set j (some y)) (upd H1 l (.lst xs))) : tSeq (tAsg (tBM0 K "list" rPop ta) (gName j)) tz D σ H :=
  ha H (Ex.refl H) _ fun H1 e1 => ⟨.inl ⟨rfl, _, sq_of (e1 l _ hl)⟩, l, _, y, rfl, rfl, e1 l _ hl, last_at, by
    rw [List.dropLast_concat]
    exact k H1 e1⟩
/-- xs.extend(t), t a tuple -/
theorem s_extT {l b : Addr} {xs zs : List V} (hl : H l = some (.lst xs)) (ha : Ev ta σ H (.ref l)) (hb : Ev te σ H (.ref b)) (hz : SqT K H b zs) (hs : xs.length + zs.length ≤ 100000) (k : ∀ H1, Ex H H1 → D.nx σ (upd H1 l (.lst (xs ++ zs)))) :
    tDrop (tBM K "list" (rExtT K) ta (tCons te tNil)) D σ H := ha H (Ex.refl H) _ fun H1 e1 => ⟨.inl ⟨rfl, _, sq_of (e1 l _ hl)⟩, hb H1 e1 _ fun H2 e2 =>
  ⟨l, b, xs, zs, rfl, rfl, e2 l _ (e1 l _ hl), ex_t (e1.trans e2) hz, sz_of hs, k H2 (e1.trans e2)⟩⟩
theorem q_extT {l b : Addr} {xs zs : List V} (hl : H l = some (.lst xs)) (ha : Ev ta σ H (.ref l)) (hb : Ev te σ H (.ref b)) (hz : SqT K H b zs) (hs : xs.length + zs.length ≤ 100000) (k : ∀ H1, Ex H H1 → tz D σ (upd H1 l (.lst (xs ++ zs)))) :
    tSeq (tDrop (tBM K "list" (rExtT K) ta (tCons te tNil))) tz D σ H := s_extT (D := { D with nx := tz D }) hl ha hb hz hs k
/-- xs.extend(t), t a new list -/
theorem s_extL {l : Addr} {xs zs : List V} (hl : H l = some (.lst xs)) (ha : Ev ta σ H (.ref l)) (hb : EvL te σ H zs) (hs : xs.length + zs.length ≤ 100000) (k : ∀ H1, Ex H H1 → D.nx σ (upd H1 l (.lst (xs ++ zs)))) :
    tDrop (tBM K "list" rExtend ta (tCons te tNil)) D σ H := ha H (Ex.refl H) _ fun H1 e1 => ⟨.inl ⟨rfl, _, sq_of (e1 l _ hl)⟩, hb H1 e1 _ fun p H2 _ e2 hp =>
  ⟨l, p, xs, zs, rfl, rfl, e2 l _ (e1 l _ hl), hp, sz_of hs, k H2 (e1.trans e2)⟩⟩
theorem q_extL {l : Addr} {xs zs : List V} (hl : H l = some (.lst xs)) (ha : Ev ta σ H (.ref l)) (hb : EvL te σ H zs) (hs : xs.length + zs.length ≤ 100000) (k : ∀ H1, Ex H H1 → tz D σ (upd H1 l (.lst (xs ++ zs)))) :
    tSeq (tDrop (tBM K "list" rExtend ta (tCons te tNil))) tz D σ H := s_extL (D := { D with nx := tz D }) hl ha hb hs k
end
section
variable {K : PySem.W.Frag} {σ : L2.St} {H G : Hp} {te ta tb : TE} {v : V}
theorem ev_m0 {g : Str → Bool} {x : Str} (h : Ev te σ H (.str x)) : Ev (tM0 (fun x xs H Q => ∃ a, x = V.str a ∧ xs = [] ∧ True ∧ Q (.bl (g a)) H) te) σ H (.bl (g x)) := fun H1 e Q q =>
  h H1 e _ fun H2 e2 => ⟨⟨x, rfl⟩, x, rfl, rfl, trivial, q H2 e2⟩
theorem rv_insign {c : Nat} {z : Str} : RV (fun x y H Q => ∃ (c : Nat) (z : Str), x = .str ⟨#[c]⟩ ∧ y = .str z ∧ Q (.bl (decide (c ∈ z.cps.toList))) H) (.str ⟨#[c]⟩) (.str z) H (.bl (decide (c ∈ z.cps.toList))) := fun H1 _ _ q => ⟨c, z, rfl, rfl, q H1 (Ex.refl H1)⟩
theorem rv_notInKd {d : Addr} {x : Str} (h : PySem.W.nsIn K d x = some none) : RV (fun x y H Q => ∃ (z : Str) (r : Option Value), x = .str z ∧ y = .ref d ∧ PySem.W.nsIn K d z = some r ∧ Q (.bl (!r.isSome)) H) (.str x) (.ref d) H (.bl true) := fun H1 _ _ q => ⟨x, none, rfl, rfl, h, q H1 (Ex.refl H1)⟩
end
section
variable {K : PySem.W.Frag} {σ : L2.St} {H G : Hp} {te ta tb tl : TE} {v : V} {D : Ends} {tu tz : TS}
abbrev gPair (K : PySem.W.Frag) (j1 j2 : Nat) : TG := gTup K 2 (gCons (gName j1) (gCons (gName j2) gNil))
/-- for i, x in enumerate(xs) -/
theorem s_forEnum {a : Addr} {xs : List V} {j1 j2 : Nat} (h : Ev tl σ H (.ref a)) (hx : SqL K H a xs) (Pv : Nat → L2.St → Hp → Prop) (h0 : ∀ H1, Ex H H1 → Pv 0 σ H1) (hl : ∀ i σ' H', i ≤ xs.length → Pv i σ' H' → SqL K H' a xs)
    (hs : ∀ (i : Nat) x σ' H' H2, xs[i]? = some x → Pv i σ' H' → Ex H' H2 → tu { D with nx := Pv (i + 1), ct := Pv (i + 1), bk := D.nx } ((σ'.set j1 (some (.int i))).set j2 (some x)) H2) (hd : ∀ σ' H', Pv xs.length σ' H' → D.nx σ' H') : tFor (iEnum K (tCons tl tNil)) (gPair K j1 j2) tu D σ H :=
  h H (Ex.refl H) _ fun H1 e => ⟨a, xs, rfl, ex_l e hx, for_it walk_enum Pv (h0 H1 e) hl (fun i v σ' H' H2 hi p y => by
    obtain ⟨T, x, z, rfl, hT, rfl, e1, e2⟩ := y
    cases e1
    exact ⟨T, _, rfl, SqT.of upd_same, rfl, _, _, rfl, _, _, rfl, rfl, hs i z σ' H' _ e2 p (Ex.new hT)⟩) hd⟩
theorem q_forEnum {a : Addr} {xs : List V} {j1 j2 : Nat} (h : Ev tl σ H (.ref a)) (hx : SqL K H a xs) (Pv : Nat → L2.St → Hp → Prop) (h0 : ∀ H1, Ex H H1 → Pv 0 σ H1) (hl : ∀ i σ' H', i ≤ xs.length → Pv i σ' H' → SqL K H' a xs)
    (hs : ∀ (i : Nat) x σ' H' H2, xs[i]? = some x → Pv i σ' H' → Ex H' H2 → tu { D with nx := Pv (i + 1), ct := Pv (i + 1), bk := tz D } ((σ'.set j1 (some (.int i))).set j2 (some x)) H2) (hd : ∀ σ' H', Pv xs.length σ' H' → tz D σ' H') : tSeq (tFor (iEnum K (tCons tl tNil)) (gPair K j1 j2) tu) tz D σ H :=
  s_forEnum (D := { D with nx := tz D }) h hx Pv h0 hl hs hd
end
/-- a call of the def that a name holds -/
theorem ev_callL {σ : L2.St} {H : Hp} {i : Nat} {f : Addr} {sp : Sp} {dvs vs : List V} {E : XK} {ta : TA} {z : V} (hs : σ[i]? = some (some (.ref f))) (h : EvA ta σ H vs) (hp : SpV sp (vs ++ dvs) H z) : Ev (tCallL i f sp dvs E ta) σ H z := fun H1 e Q q =>
  ⟨hs, h H1 e _ fun H2 e2 => hp H2 (e.trans e2) Q (fun H3 e3 => q H3 (e2.trans e3)) E⟩
section
variable {K : PySem.W.Frag} {σ : L2.St} {H G : Hp} {te ta tb tl : TE} {v : V} {D : Ends} {tu tz : TS}
theorem cut1 {α : Type} (x : α) (xs : List α) : ((x :: xs).drop (HT.sIx (x :: xs).length 0 (some 1))).take (HT.sIx (x :: xs).length (x :: xs).length none - HT.sIx (x :: xs).length 0 (some 1)) = xs := by
  have e1 : HT.sIx (x :: xs).length 0 (some 1) = 1 := by simp [HT.sIx]
  have e2 : HT.sIx (x :: xs).length (x :: xs).length none = (x :: xs).length := by simp [HT.sIx]
  rw [e1, e2]
  simp
/-- t[1:] -/
theorem eu_tail {a : Addr} {x : V} {xs : List V} (h : Ev te σ H (.ref a)) (ha : SqT K H a (x :: xs)) : EvU (tSl (rSlT K) te (tPart (tC (.int 1))) tNoPart) σ H xs := fun H1 e Q q =>
  h H1 e _ fun H2 e2 => ⟨1, rfl, ⟨a, x :: xs, rfl, ex_t (e.trans e2) ha, fun z => by
    have e1 : HT.sIx (x :: xs).length 0 (some 1) = 1 := by simp [HT.sIx]
    rw [e1] at z
    exact absurd z.1 (by decide), fun p hp => by
    have e0 : cutV (x :: xs) (some 1) none = xs := cut1 x xs
    rw [e0]
    exact q p _ (fresh_back e2 hp) (e2.trans (Ex.new hp)) upd_same⟩⟩
/-- xs.extend(t), t a new tuple -/
theorem s_extU {l : Addr} {xs zs : List V} (hl : H l = some (.lst xs)) (ha : Ev ta σ H (.ref l)) (hb : EvU te σ H zs) (hs : xs.length + zs.length ≤ 100000) (k : ∀ H1, Ex H H1 → D.nx σ (upd H1 l (.lst (xs ++ zs)))) :
    tDrop (tBM K "list" (rExtT K) ta (tCons te tNil)) D σ H := ha H (Ex.refl H) _ fun H1 e1 => ⟨.inl ⟨rfl, _, sq_of (e1 l _ hl)⟩, hb H1 e1 _ fun p H2 _ e2 hp =>
  ⟨l, p, xs, zs, rfl, rfl, e2 l _ (e1 l _ hl), st_of hp, sz_of hs, k H2 (e1.trans e2)⟩⟩
/-- a call with a new list ahead -/
theorem ev_callNL {sp : Sp} {vs dvs xs : List V} {E : XK} {tr : TA} {z : V} (h : EvL te σ H xs) (hr : EvA tr σ H vs) (hp : ∀ p H1, Ex H H1 → H1 p = some (.lst xs) → SpV sp ((.ref p :: vs) ++ dvs) H1 z) : Ev (tCall sp dvs E (tCons te tr)) σ H z := fun H1 e Q q =>
  h H1 e _ fun p H2 _ e2 h2 => hr H2 (e.trans e2) _ fun H3 e3 => hp p H3 ((e.trans e2).trans e3) (e3 _ _ h2) H3 (Ex.refl _) Q (fun H4 e4 => q H4 ((e2.trans e3).trans e4)) E
theorem ev_isN {b : Bool} (h : Ev te σ H v) (e : decide (v = .non) = b) : Ev (tIsN te) σ H (.bl b) := fun H1 x Q q => h H1 x _ fun H2 x2 => by
  subst e
  exact q H2 x2
end
def A2 {α β : Type} (R : α → β → Prop) : List α → List β → Prop
  | [], [] => True
  | a :: as, b :: bs => R a b ∧ A2 R as bs
  | _, _ => False
section
variable {α β : Type} {R S : α → β → Prop}
theorem A2.mono (h : ∀ a b, R a b → S a b) : ∀ {as : List α} {bs : List β}, A2 R as bs → A2 S as bs
  | [], [], _ => trivial
  | _ :: _, _ :: _, k => ⟨h _ _ k.1, A2.mono h k.2⟩
  | [], _ :: _, k => k.elim
  | _ :: _, [], k => k.elim
theorem A2.append : ∀ {as cs : List α} {bs ds : List β}, A2 R as bs → A2 R cs ds → A2 R (as ++ cs) (bs ++ ds)
  | [], _, [], _, _, k => k
  | _ :: _, _, _ :: _, _, h, k => ⟨h.1, A2.append h.2 k⟩
  | [], _, _ :: _, _, h, _ => h.elim
  | _ :: _, _, [], _, h, _ => h.elim
theorem A2.length : ∀ {as : List α} {bs : List β}, A2 R as bs → as.length = bs.length
  | [], [], _ => rfl
  | _ :: _, _ :: _, k => congrArg (· + 1) (A2.length k.2)
  | [], _ :: _, k => k.elim
  | _ :: _, [], k => k.elim
theorem A2.get : ∀ {as : List α} {bs : List β} {i : Nat} {a : α}, A2 R as bs → as[i]? = some a → ∃ b, bs[i]? = some b ∧ R a b
  | [], [], i, a, _, e => by simp at e
  | x :: as, y :: bs, 0, a, h, e => by
    obtain rfl : x = a := by simpa using e
    exact ⟨y, rfl, h.1⟩
  | _ :: as, _ :: bs, i + 1, a, h, e => by
    obtain ⟨b, q, r⟩ := A2.get (i := i) (a := a) h.2 (by simpa using e)
    exact ⟨b, by simpa using q, r⟩
  | [], _ :: _, _, _, h, _ => h.elim
  | _ :: _, [], _, _, h, _ => h.elim
theorem A2.getb : ∀ {as : List α} {bs : List β} {i : Nat} {b : β}, A2 R as bs → bs[i]? = some b → ∃ a, as[i]? = some a ∧ R a b
  | [], [], i, a, _, e => by simp at e
  | x :: as, y :: bs, 0, b, h, e => by
    obtain rfl : y = b := by simpa using e
    exact ⟨x, rfl, h.1⟩
  | _ :: as, _ :: bs, i + 1, b, h, e => by
    obtain ⟨a, q, r⟩ := A2.getb (i := i) (b := b) h.2 (by simpa using e)
    exact ⟨a, by simpa using q, r⟩
  | [], _ :: _, _, _, h, _ => h.elim
  | _ :: _, [], _, _, h, _ => h.elim
theorem A2.of_map {γ : Type} {f : γ → α} : ∀ {cs : List γ} {bs : List β}, A2 R (cs.map f) bs → A2 (fun c b => R (f c) b) cs bs
  | [], [], _ => trivial
  | _ :: _, _ :: _, k => ⟨k.1, A2.of_map k.2⟩
  | [], _ :: _, k => k.elim
  | _ :: _, [], k => k.elim
end
/-! ### what evaluates to a thing of which P holds -/
def EvP (te : TE) (σ : L2.St) (H : Hp) (P : V → Hp → Prop) : Prop := ∀ H1, Ex H H1 → ∀ Q : VK, (∀ v H2, Ex H1 H2 → P v H2 → Q v H2) → te σ H1 Q
/-- a new list of which P holds -/
def EvLP (te : TE) (σ : L2.St) (H : Hp) (P : List V → Hp → Prop) : Prop := ∀ H1, Ex H H1 → ∀ Q : VK, (∀ p xs H2, H1 p = none → Ex H1 H2 → H2 p = some (.lst xs) → P xs H2 → Q (.ref p) H2) → te σ H1 Q
/-- what stays true -/
def Up (P : Hp → Prop) : Prop := ∀ H G, Ex H G → P H → P G
section
variable {K : PySem.W.Frag} {σ : L2.St} {H G : Hp} {te ta tb tl tk tx : TE} {tt : TT} {v : V} {D : Ends} {tu tz : TS} {J : It} {n : Nat} {vs : List Nat}
theorem EvP.of (h : Ev te σ H v) {P : V → Hp → Prop} (p : ∀ G, Ex H G → P v G) : EvP te σ H P := fun H1 e Q q => h H1 e _ fun H2 e2 => q v H2 e2 (p H2 (e.trans e2))
theorem EvP.mono (e : Ex H G) {P : V → Hp → Prop} (h : EvP te σ H P) : EvP te σ G P := fun H1 e1 Q q => h H1 (e.trans e1) Q q
theorem EvP.tup {ta : TA} {xs : List V} {P : V → Hp → Prop} (h : EvU (tTup ta) σ H xs) (p : ∀ a G, Ex H G → G a = some (.tup xs) → P (.ref a) G) : EvP (tTup ta) σ H P := fun H1 e Q q => h H1 e _ fun a H2 _ e2 ha => q _ _ e2 (p a H2 (e.trans e2) ha)
def Cwp (H0 : Hp) (f : Nat → Bool) (Pe : Nat → V → Hp → Prop) (Dl : Addr) (i : Nat) (H : Hp) : Prop := H0 Dl = none ∧ Ex H0 H ∧ ∃ acc, H Dl = some (.lst acc) ∧ acc.length ≤ i ∧ A2 (fun i y => Pe i y H) ((List.range i).filter f) acc
theorem cwp0 {H0 : Hp} {f : Nat → Bool} {Pe : Nat → V → Hp → Prop} {Dl : Addr} (h : H0 Dl = none) : Cwp H0 f Pe Dl 0 (upd H0 Dl (.lst [])) := ⟨h, Ex.new h, [], upd_same, Nat.le_refl _, trivial⟩
/-- what stays true if the thing at Dl, not known ahead, changes -/
def UpD (H0 : Hp) (Dl : Addr) (P : Hp → Prop) : Prop := ∀ H G xs, H Dl = some (.lst xs) → Ex H0 H → Ex H0 G → (∀ a o, a ≠ Dl → H a = some o → G a = some o) → P H → P G
theorem cwp_turn {H0 H1 H2 : Hp} {f : Nat → Bool} {Pe : Nat → V → Hp → Prop} {Dl : Addr} {i : Nat} {σ2 : L2.St} (up : ∀ i v, UpD H0 Dl (Pe i v)) (p : Cwp H0 f Pe Dl i H1) (e12 : Ex H1 H2) (hi : i < 50000) (ht : EvT tt σ2 H2 (f i)) (he : f i = true → ∀ H3, Ex H2 H3 → EvP te σ2 H3 (Pe i)) :
    tt σ2 H2 fun b H3 => if b = true then te σ2 H3 fun y H4 => ∃ acc, H4 Dl = some (.lst acc) ∧ acc.length < sizeLine ∧ Cwp H0 f Pe Dl (i + 1) (upd H4 Dl (.lst (acc ++ [y]))) else Cwp H0 f Pe Dl (i + 1) H3 := by
  obtain ⟨p1, p2, acc, p3, p4, p5⟩ := p
  have e2 : Ex H0 H2 := p2.trans e12
  refine ht H2 (Ex.refl _) _ fun H3 e3 => ?_
  have e03 := e2.trans e3
  cases hf : f i with
  | true =>
    show te σ2 H3 fun y H4 => ∃ acc, H4 Dl = some (.lst acc) ∧ acc.length < sizeLine ∧ Cwp H0 f Pe Dl (i + 1) (upd H4 Dl (.lst (acc ++ [y])))
    refine he hf H3 e3 H3 (Ex.refl _) _ fun y H4 e4 hy => ?_
    have hD : H4 Dl = some (.lst acc) := e4 _ _ (e3 _ _ (e12 _ _ p3))
    have e04 := e03.trans e4
    have e05 : Ex H0 (upd H4 Dl (.lst (acc ++ [y]))) := Ex.mut e04 p1
    have kp : ∀ a o, a ≠ Dl → H4 a = some o → (upd H4 Dl (.lst (acc ++ [y]))) a = some o := fun a o n h => by
      rw [upd_ne n]
      exact h
    refine ⟨acc, hD, sz_lt (by omega), p1, e05, _, upd_same, by simp; omega, ?_⟩
    rw [List.range_succ, List.filter_append, List.filter_cons, if_pos hf]
    refine A2.append (A2.mono (fun j z h => ?_) p5) ⟨up _ _ _ _ _ hD e04 e05 kp hy, trivial⟩
    exact up _ _ _ _ _ p3 p2 e05 (fun a o n h => kp a o n (e4 _ _ (e3 _ _ (e12 _ _ h)))) h
  | false =>
    show Cwp H0 f Pe Dl (i + 1) H3
    refine ⟨p1, e03, acc, e3 _ _ (e12 _ _ p3), by omega, ?_⟩
    rw [List.range_succ, List.filter_append, List.filter_cons, if_neg (by rw [hf]; decide)]
    show A2 _ (_ ++ []) _
    rw [List.append_nil]
    exact A2.mono (fun j z h => up _ _ _ _ _ p3 p2 e03 (fun a o _ q => e3 _ _ (e12 _ _ q)) h) p5
theorem walk_zipT {a b : Addr} {xs ys : List V} (hn : n = min xs.length ys.length) : Walk (RZ.ItzT K a b) n (fun H => SqT K H a xs ∧ SqT K H b ys) (YPair (fun i => xs[i]?) (fun i => ys[i]?)) := by
  subst hn
  refine ⟨fun i _ hi q => ?_, fun _ q => ⟨xs, ys, q.1, q.2, by omega⟩, fun i H v H' _ q y => ?_⟩
  · have h1 : i < xs.length := by omega
    have h2 : i < ys.length := by omega
    exact ⟨xs, ys, xs[i], ys[i], q.1, q.2, by simp [h1], by simp [h2]⟩
  · obtain ⟨T, x, z, h1, h2, h3, h4, h5⟩ := y
    exact ⟨T, x, z, h1, h2, h3, h4 xs q.1, h5 ys q.2⟩
/-- for x in t, t a new tuple -/
theorem s_forNT {xs : List V} {j : Nat} (h : EvU tl σ H xs) (Pv : Addr → Nat → L2.St → Hp → Prop) (h0 : ∀ p H1, H p = none → Ex H H1 → H1 p = some (.tup xs) → Pv p 0 σ H1) (hl : ∀ p i σ' H', i ≤ xs.length → Pv p i σ' H' → SqT K H' p xs)
    (hs : ∀ p i x σ' H', xs[i]? = some x → Pv p i σ' H' → tu { D with nx := Pv p (i + 1), ct := Pv p (i + 1), bk := D.nx } (σ'.set j (some x)) H') (hd : ∀ p σ' H', Pv p xs.length σ' H' → D.nx σ' H') : tFor (iTup K tl) (gName j) tu D σ H :=
  h H (Ex.refl H) _ fun p H1 hp e h1 => ⟨p, rfl, ⟨xs, st_of h1⟩, for_tup (Pv p) (h0 p H1 hp e h1) (hl p) (hs p) (hd p)⟩
theorem q_forNT {xs : List V} {j : Nat} (h : EvU tl σ H xs) (Pv : Addr → Nat → L2.St → Hp → Prop) (h0 : ∀ p H1, H p = none → Ex H H1 → H1 p = some (.tup xs) → Pv p 0 σ H1) (hl : ∀ p i σ' H', i ≤ xs.length → Pv p i σ' H' → SqT K H' p xs)
    (hs : ∀ p i x σ' H', xs[i]? = some x → Pv p i σ' H' → tu { D with nx := Pv p (i + 1), ct := Pv p (i + 1), bk := tz D } (σ'.set j (some x)) H') (hd : ∀ p σ' H', Pv p xs.length σ' H' → tz D σ' H') : tSeq (tFor (iTup K tl) (gName j) tu) tz D σ H :=
  s_forNT (D := { D with nx := tz D }) h Pv h0 hl hs hd
/-- for x, y in zip(s, t), new tuples -/
theorem q_forZipNT {xs ys : List V} {j1 j2 : Nat} {t1 t2 : TE} (h1 : EvU t1 σ H xs) (h2 : EvU t2 σ H ys) (Pv : Nat → L2.St → Hp → Prop) (h0 : ∀ H1, Ex H H1 → Pv 0 σ H1) (hE : ∀ i σ' H', Pv i σ' H' → Ex H H')
    (hp : ∀ i σ' H' G, Pv i σ' H' → Ex H' G → Pv i σ' G)
    (hs : ∀ i x y σ' H', xs[i]? = some x → ys[i]? = some y → Pv i σ' H' → ∀ N : L2.St → Hp → Prop, (∀ σ2 H2, Pv (i + 1) σ2 H2 → Ex H' H2 → N σ2 H2) → tu { D with nx := N, ct := N, bk := tz D } ((σ'.set j1 (some x)).set j2 (some y)) H') (hd : ∀ σ' H', Pv (min xs.length ys.length) σ' H' → tz D σ' H') :
    tSeq (tFor (RZ.iZipA K (tCons t1 (tCons t2 tNil))) (gPair K j1 j2) tu) tz D σ H :=
  h1 H (Ex.refl H) _ fun p H1 _ e1 hp1 => h2 H1 e1 _ fun q H2 _ e2 hq => ⟨p, q, xs, ys, rfl, .inr ⟨st_of (e2 _ _ hp1), st_of hq,
    for_it (walk_zipT (K := K) (a := p) (b := q) (xs := xs) (ys := ys) rfl) (fun i σ' H' => Pv i σ' H' ∧ H' p = some (.tup xs) ∧ H' q = some (.tup ys)) ⟨h0 H2 (e1.trans e2), e2 _ _ hp1, hq⟩ (fun i σ' H' _ z => ⟨st_of z.2.1, st_of z.2.2⟩)
      (fun i v σ' H' H'' hi z y => by
        obtain ⟨T, x, w, rfl, hT, rfl, ex, ey⟩ := y
        have eT : Ex H' (upd H' T (.tup [x, w])) := Ex.new hT
        exact ⟨T, _, rfl, SqT.of upd_same, rfl, _, _, rfl, _, _, rfl, rfl, hs i x w σ' _ ex ey (hp i σ' H' _ z.1 eT) _ fun σ2 H2 a e => ⟨a, e _ _ (eT _ _ z.2.1), e _ _ (eT _ _ z.2.2)⟩⟩) (fun σ' H' z => hd σ' H' z.1)⟩⟩
/-- a dict comprehension over a walk -/
theorem dc_it {J : It} {G : Hp → Prop} {Y : Nat → Hp → V → Hp → Prop} (w : Walk J n G Y) {g : TG} {H1 : Hp} {Dl : Addr} {Qd : Hp → Prop} (Pv : Nat → Hp → Prop) (h0 : Pv 0 (upd H1 Dl (.dK []))) (hG : ∀ i H, i ≤ n → Pv i H → G H)
    (hs : ∀ i x H H', i < n → Pv i H → Y i H x H' → g x (wipe σ vs) H' fun σ2 H2 => wipe σ2 vs = wipe σ vs ∧ tt σ2 H2 fun b H3 =>
      if b = true then tk σ2 H3 fun y H4 => tx σ2 H4 fun z H5 => ∃ kvs k, y = kV k ∧ H5 Dl = some (.dK kvs) ∧ kvs.length < sizeLine ∧ Pv (i + 1) (upd H5 Dl (.dK (putK kvs k z))) else Pv (i + 1) H3) (hd : ∀ H, Pv n H → Qd H) :
    ∃ W : Nat → Nat → Hp → Prop, (∃ m, W 0 m (upd H1 Dl (.dK []))) ∧ ∀ i m H, W i m H →
      (J.stop i H ∧ Qd H) ∨ (J.go i H ∧ ∃ Nx : Hp → Prop, (∀ H', Nx H' → ∃ m', m' < m ∧ W (i + 1) m' H') ∧ ∀ x H', J.yld i H x H' → g x (wipe σ vs) H' fun σ2 H2 => wipe σ2 vs = wipe σ vs ∧ tt σ2 H2 fun b H3 =>
        if b = true then tk σ2 H3 fun y H4 => tx σ2 H4 fun z H5 => ∃ kvs k, y = kV k ∧ H5 Dl = some (.dK kvs) ∧ kvs.length < sizeLine ∧ Nx (upd H5 Dl (.dK (putK kvs k z))) else Nx H3) := by
  refine ⟨fun i m H => m = n - i ∧ i ≤ n ∧ Pv i H, ⟨n, by simp, Nat.zero_le _, h0⟩, ?_⟩
  rintro i m H ⟨rfl, hi, p⟩
  have q := hG i H hi p
  by_cases hlt : i < n
  · exact .inr ⟨w.goes i H hlt q, Pv (i + 1), fun H' p' => ⟨n - (i + 1), by omega, rfl, hlt, p'⟩, fun x H' y => hs i x H H' hlt p (w.yields i H x H' hlt q y)⟩
  · have e : i = n := by omega
    subst e
    exact .inl ⟨w.stops H q, hd H p⟩
end
set_option maxHeartbeats 1000000 in
theorem meets_enum1 {v : Value} {o : Obj} {H : Heap → Prop} (B : Begins v o H) :
    Meets (Builtin.«enumerate.__new__» ⟨[.type "enumerate", v], []⟩) (fun _ R s => H s.heap ∧
      R (.ok (.ret (.ref (s.heap.push o).objs.size))) { s with heap := (s.heap.push o).push { cls := .type "enumerate", data := .fields #[.none, .bool false, .ref s.heap.objs.size, rawInt 0, .none, .none] } }) :=
  .of_wp fun prog w A R s h => by
    obtain ⟨hp, g, d, tk, os⟩ := s
    obtain ⟨h1, h⟩ := h
    have hsub := sub_enumerate
    have q1 : ∀ {A' : Around} {E : Value → Shared → Prop} {Q : Value → Shared → Prop}, Q (.ref hp.objs.size) ⟨hp.push o, g, d, tk, os⟩ → wpAny (model prog w) A' (pyIter v) Q E ⟨hp, g, d, tk, os⟩ :=
      fun q => B.iter prog w _ _ ⟨hp, g, d, tk, os⟩ _ h1 q
    wp_walk using q1
    refine wpAny_stack_any fun st => wpAny_pure ?_
    split
    · rename_i c _ _ _ _ _
      cases (c == Value.type "enumerate")
      · wp_walk using q1
        exact ⟨_, rfl, h⟩
      · wp_walk using q1
        exact ⟨_, rfl, h⟩
    · wp_walk using q1
      exact ⟨_, rfl, h⟩
theorem call_enum1 {prog : Program} {w : World} {A : Around} {E : Value → Shared → Prop} {s : Shared} {v : Value} {o : Obj} {H : Heap → Prop} {Q : Value → Shared → Prop} (B : Begins v o H) (h1 : H s.heap)
    (h : ∀ h', IsEnum h' (s.heap.objs.size + 1) s.heap.objs.size 0 .none → h'.get? s.heap.objs.size = some o → h'.objs.size = s.heap.objs.size + 2 →
      (∀ b o, s.heap.get? b = some o → h'.get? b = some o) → Q (.ref (s.heap.objs.size + 1)) { s with heap := h' }) :
    wpAny (model prog w) A (call (.type "enumerate") [v]) Q E s := by
  refine callType_new F.called_enumerate (by decide) (F.typeCall_enumerate_1 _) (F.newCall_enumerate_1 _) (fun obj => F.args_object_init_2 obj _) F.entry_enumerate_new
    (meets_enum1 B) ⟨h1, ?_⟩
  have hz : (s.heap.push o).objs.size = s.heap.objs.size + 1 := Heap.size_push ..
  show _ ∧ _
  rw [hz]
  have he : IsEnum ((s.heap.push o).push { cls := .type "enumerate", data := .fields #[.none, .bool false, .ref s.heap.objs.size, rawInt 0, .none, .none] }) (s.heap.objs.size + 1) s.heap.objs.size 0 .none := by
    have := Heap.get?_push_size (s.heap.push o) (o := { cls := .type "enumerate", data := .fields #[.none, .bool false, .ref s.heap.objs.size, rawInt 0, .none, .none] }) rfl
    rw [hz] at this; exact this
  refine ⟨⟨_, he, rfl⟩, h _ he (Heap.get?_push_of_some _ (Heap.get?_push_size _ B.free)) (by rw [Heap.size_push, hz]) fun b o x => Heap.get?_push_of_some _ (Heap.get?_push_of_some _ x)⟩
/-- the tuple at a as it stands at each turn, each item in a new pair -/
def IteT (K : PySem.W.Frag) (a : Addr) : It :=
  ⟨fun i H => ∃ (xs : List V) (x : V), SqT K H a xs ∧ xs[i]? = some x, fun i H v H' => ∃ T x, v = .ref T ∧ H T = none ∧ H' = upd H T (.tup [.int (i : Nat), x]) ∧ ∀ xs, SqT K H a xs → xs[i]? = some x, fun i H => ∃ xs : List V, SqT K H a xs ∧ xs.length ≤ i⟩
theorem draws_end {prog : Program} {w : World} {A : Around} {it a : Addr} {items : Array Value} {i : Nat} (hh : A.handled = none) (hne : a ≠ it) (hx : items[i]? = none) :
    Draws prog w A it [it, a] i (fun _ _ => False) (fun j h => j = i ∧ h.IsTupleIter it a i ∧ h.IsTuple a items) where
  live := fun _ _ st => let ⟨o, ho, _⟩ := st.2.1; ⟨o, ho⟩
  frame := fun _ _ _ st hk => ⟨st.1, st.2.1.at fun o e => hk it (by simp) o e, st.2.2.at fun o e => hk a (by simp) o e⟩
  item := fun j s Q E hj st _ => absurd st.1 (by omega)
  done := fun s Q E st hE => wpAny_nextOf_tuple_end hh st.2.1 st.2.2 hx hE
theorem turn_enumT {P : Program} {w : World} {K : PySem.W.Frag} {elts : List Expr} {kk : Nat} {tpos : Pos} (a e it : Addr) :
    Turn P w K (.Tuple elts kk tpos) (IteT K a) [e, it] e (fun i h => (∃ old, IsEnum h e it ((i : Nat) : Int) old) ∧ h.IsTupleIter it a i ∧ e ≠ it ∧ a ≠ it ∧ e ≠ a) where
  mem := by simp
  obj := fun i h st b hb => by
    obtain ⟨⟨old, he⟩, ⟨o, ho, hc, hd⟩, _⟩ := st
    have e' : b = e ∨ b = it := by simpa using hb
    rcases e' with z | z
    · rw [z]; exact ⟨_, he, fun v q => nomatch q⟩
    · rw [z]; exact ⟨o, ho, fun v q => by rw [hd] at q; cases q⟩
  keep := fun i h h' st k => let ⟨⟨old, he⟩, hi, hne⟩ := st; ⟨⟨old, k e (by simp) _ he⟩, hi.at fun o q => k it (by simp) o q, hne⟩
  item := by
    intro X hP hw hK hc i pins s σ H E I hf st hg
    subst hP hw hK
    obtain ⟨⟨old, he⟩, hit, hne, hai, hea⟩ := st
    obtain ⟨xs, x, hq, hx⟩ := hg
    obtain ⟨its, rv, p, hz⟩ := I.tuple hq
    obtain ⟨u, hu, ru⟩ := rv.get hx
    have hel : e < s.heap.objs.size := Heap.lt_size he
    have hil : it < s.heap.objs.size := by obtain ⟨_, q, _⟩ := hit; exact Heap.lt_size q
    have hlt : i < its.toArray.size := by
      have := (List.getElem?_eq_some_iff.mp hu).1
      simpa using this
    refine wpAny_pyNext_enum_itemD (Draws.tuple (A := X.A.in1) (I.ok.hd hc) it a hai its.toArray) he ⟨hit, p⟩ hlt hne (by simp [hne, hea]) fun y h' tk hy ho hst hT hsz hk => ?_
    have hyu : y = u := by
      have e1 : its.toArray[i]? = some u := by simpa using hu
      rw [e1] at hy
      exact (Option.some.inj hy).symm
    subst hyu
    refine ⟨_, rfl, wpAny_letOwnedTupleGo_enum (s := { s with heap := h', toks := tk + 1 }) ho fun h'' he' sb => ?_⟩
    have hT2 : h''.get? s.heap.objs.size = some { cls := .type "tuple", data := .seq #[.int i tk, y] } := (sb.2 _ (Nat.ne_of_gt hel)).trans hT
    have new : ObjOk X.prog X.w (upd H s.heap.objs.size (.tup [.int (i : Nat), x])) h'' s.heap.objs.size (.tup [.int (i : Nat), x]) :=
      ⟨by show 2 ≤ sizeLine; decide, [.int i tk, y], .cons ⟨_, rfl⟩ (.cons ru .nil), ⟨_, hT2, rfl, _, rfl⟩⟩
    have I1 : Inv X pins σ (upd H s.heap.objs.size (.tup [.int (i : Nat), x])) { s with heap := h'', toks := tk + 1 } :=
      I.turnedNew (ch := [e, it]) (fun b ob hb q => (sb.2 b (fun z => hb (by simp [z]))).trans (hk b ob (fun z => hb (by simp [z])) (fun z => hb (by simp [z])) q)) hf (Nat.le_refl _) new
    refine ⟨.ref s.heap.objs.size, _, I1, rfl, ⟨_, x, rfl, I.hok.fresh (Nat.le_refl _), rfl, fun ys hy => by rw [I.tuple_inj hy hq]; exact hx⟩, ⟨⟨y, ?_⟩, hst.1.at fun o q => (sb.2 it (Ne.symm hne)).trans q, hne, hai, hea⟩, fun b hb => ?_⟩
    · have e1 : ((i + 1 : Nat) : Int) = (i : Int) + 1 := by omega
      rw [e1]; exact he'
    · have hb' : b < s.heap.objs.size := by
        have e' : b = e ∨ b = it := by simpa using hb
        rcases e' with z | z
        · rw [z]; exact hel
        · rw [z]; exact hil
      rw [upd_ne (Nat.ne_of_lt hb')]
      exact (hf b hb).1
  done := by
    intro X hP hw hK hc i pins s σ H E I hf st hg
    subst hP hw hK
    obtain ⟨⟨old, he⟩, hit, hne, hai, hea⟩ := st
    obtain ⟨xs, hq, hx⟩ := hg
    obtain ⟨its, rv, p, hz⟩ := I.tuple hq
    obtain ⟨f0, f1, f2, f3, f4, f5⟩ := hf it (by simp)
    have hl := rv.length
    have hx0 : its.toArray[i]? = none := by simp; omega
    exact wpAny_pyNext_enum_endD (draws_end (A := X.A.in1) (I.ok.hd hc) hai hx0) he ⟨rfl, hit, p⟩ fun h' eb => ⟨rfl, I.turned (t' := s.toks) (fun b o hb q => eb b o hb q) f0 f1 f3 f4 f5⟩
  self := fun A i s Q E st h => let ⟨⟨_, he⟩, _⟩ := st; wpAny_pyIter_enum he h
def iEnumT (K : PySem.W.Frag) (ta : TA) : TI := fun σ H R => ta σ H fun vs H1 => ∃ a xs, vs = [.ref a] ∧ SqT K H1 a xs ∧ R (IteT K a) H1
theorem pi_enumT {X : Cx} {e : Expr} {ta : TA} {p pos tpos : Pos} {elts : List Expr} {kk : Nat} (hg : Gl X "enumerate") (hm : X.mg "enumerate" = none) (ha : PA X [e] ta) (hs : starEach [e] X.env = [(false, eval e X.env)] := by rfl) :
    PI X (.Tuple elts kk tpos) (.Call (.Name "enumerate" p) [e] [] pos) (iEnumT X.K ta) := by
  refine ⟨fun pins s σ H R I h => ?_⟩
  refine Call_ (ld_blt I hg hm boot_enumerate (PyProof.Rows.callWith_type1 (thn (ha.run pos pins s σ H _ I h) fun us s1 ⟨vs, H1, I1, r1, q1⟩ => ?_) hs rfl))
  obtain ⟨a, xs, ex, hq, q⟩ := q1
  subst ex
  cases r1 with
  | cons r rr =>
    cases rr
    cases r
    obtain ⟨its, rv, p', hz⟩ := I1.tuple hq
    have hal : a < s1.heap.objs.size := by obtain ⟨_, q, _⟩ := p'; exact Heap.lt_size q
    refine call_enum1 (begins_tuple a its.toArray) (show s1.heap.IsTuple a its.toArray from p') fun h' he hit hsz hk => wpAny_pyIter_enum he ?_
    have I2 : Inv X pins σ H1 { s1 with heap := h' } := I1.kept (t' := s1.toks) hk
    refine ⟨s1.heap.objs.size + 1, [s1.heap.objs.size + 1, s1.heap.objs.size], _, _, H1, rfl, I2, turn_enumT a (s1.heap.objs.size + 1) s1.heap.objs.size, ⟨⟨.none, he⟩, ⟨_, hit, rfl, rfl⟩, Nat.succ_ne_self _, Nat.ne_of_lt hal, Nat.ne_of_gt (Nat.lt_succ_of_lt hal)⟩, fun b hb => ?_, q⟩
    have e' : b = s1.heap.objs.size + 1 ∨ b = s1.heap.objs.size := by simpa using hb
    have hle : s1.heap.objs.size ≤ b := by
      rcases e' with z | z
      · rw [z]; exact Nat.le_add_right _ _
      · rw [z]; exact Nat.le_refl _
    exact I1.fpOk hle (I1.hok.fresh hle)
theorem walk_enumT {K : PySem.W.Frag} {a : Addr} {xs : List V} : Walk (IteT K a) xs.length (fun H => SqT K H a xs) (YPair (fun i => some (.int (i : Nat))) (fun i => xs[i]?)) := by
  refine ⟨fun i _ hi q => ⟨xs, xs[i], q, by simp [hi]⟩, fun _ q => ⟨xs, q, Nat.le_refl _⟩, fun i H v H' _ q y => ?_⟩
  obtain ⟨T, x, h1, h2, h3, h4⟩ := y
  exact ⟨T, .int (i : Nat), x, h1, h2, h3, rfl, h4 xs q⟩
/-- for i, x in enumerate(t), t a new tuple -/
theorem q_forEnumNT {K : PySem.W.Frag} {σ : L2.St} {H : Hp} {tl : TE} {D : Ends} {tu tz : TS} {xs : List V} {j1 j2 : Nat} (h : EvU tl σ H xs) (Pv : Nat → L2.St → Hp → Prop) (h0 : ∀ H1, Ex H H1 → Pv 0 σ H1)
    (hs : ∀ (i : Nat) x σ' H' H2, xs[i]? = some x → Pv i σ' H' → Ex H' H2 → ∀ N : L2.St → Hp → Prop, (∀ σ3 H3, Pv (i + 1) σ3 H3 → Tx H2 H3 → N σ3 H3) → tu { D with nx := N, ct := N, bk := tz D } ((σ'.set j1 (some (.int i))).set j2 (some x)) H2) (hd : ∀ σ' H', Pv xs.length σ' H' → tz D σ' H') : tSeq (tFor (iEnumT K (tCons tl tNil)) (gPair K j1 j2) tu) tz D σ H :=
  h H (Ex.refl H) _ fun p H1 _ e hp => ⟨p, xs, rfl, st_of hp, for_it walk_enumT (fun i σ' H' => Pv i σ' H' ∧ H' p = some (.tup xs)) ⟨h0 H1 e, hp⟩ (fun i σ' H' _ z => st_of z.2) (fun i v σ' H' H2 hi z y => by
    obtain ⟨T, x, w, rfl, hT, rfl, e1, e2⟩ := y
    cases e1
    have eT : Ex H' (upd H' T (.tup [.int (i : Nat), w])) := Ex.new hT
    exact ⟨T, _, rfl, st_of upd_same, rfl, _, _, rfl, _, _, rfl, rfl, hs i w σ' H' _ e2 z.1 eT _ fun σ3 H3 a t => ⟨a, t _ _ (eT _ _ z.2)⟩⟩) fun σ' H' z => hd σ' H' z.1⟩
section
variable {K : PySem.W.Frag} {σ : L2.St} {H : Hp} {te ta tb : TE} {v : V}
theorem rv_neB {a b : Bool} : Evl.RV rNe (.bl a) (.bl b) H (.bl (!decide (V.bl a = V.bl b))) := rv_ne rfl
theorem ev_isiN {m : String} {cs : List String} {b : Bool} (h : Ev te σ H v) (ty : TyX K H v (.type m)) (e : PySem.W.kitAny K (.type m) (cs.map Value.type) = some b) {ta : TA} (ht : EvU (tTup ta) σ H (cs.map V.ty)) : Ev (tCB (rIsiT K) (tCons te (tCons (tTup ta) tNil))) σ H (.bl b) := fun H1 x Q q =>
  h H1 x _ fun H2 x2 => ht H2 (x.trans x2) _ fun p H3 hp x3 h3 => by
    show rIsiT K [v, .ref p] H3 Q
    have pr : ∀ cs : List String, Paired ClsV (cs.map V.ty) (cs.map Value.type) := fun cs => by
      induction cs with
      | nil => exact .nil
      | cons c cs ih => exact .cons (.ty c) ih
    exact ⟨v, p, cs.map V.ty, _, cs.map Value.type, b, rfl, h3, pr cs, tyx_ext ((x.trans x2).trans x3) ty, e, q _ (x2.trans x3)⟩
end
end K24

set_option Elab.async false
set_option linter.all false
set_option maxRecDepth 100000
set_option maxHeartbeats 4000000
/-! Any object, as data; words. -/
namespace K24
open PySem PySem.Spec PyProof.Rows L2 Evl
inductive O where
  | non | bl (b : Bool) | int (i : Int) | str (s : Str) | dct | lst (xs : List O) | tup (xs : List O)
def O.seq : Bool → List O → O
  | true, xs => .lst xs
  | false, xs => .tup xs
mutual
def O.sz : O → Nat
  | .non => 1 | .bl _ => 1 | .int _ => 1 | .str _ => 1 | .dct => 1 | .lst xs => O.szs xs + 1 | .tup xs => O.szs xs + 1
def O.szs : List O → Nat
  | [] => 0
  | x :: xs => x.sz + O.szs xs
end
mutual
def O.dp : O → Nat
  | .non => 0 | .bl _ => 0 | .int _ => 0 | .str _ => 0 | .dct => 0 | .lst xs => O.dps xs + 1 | .tup xs => O.dps xs + 1
def O.dps : List O → Nat
  | [] => 0
  | x :: xs => max x.dp (O.dps xs)
end
mutual
def O.strip : O → O
  | .non => .non | .bl b => .bl b | .int i => .int i | .str s => .str s | .dct => .dct | .lst xs => .tup (O.strips xs) | .tup xs => .tup (O.strips xs)
def O.strips : List O → List O
  | [] => []
  | x :: xs => x.strip :: O.strips xs
end
mutual
def O.hasL : O → Bool
  | .non => false | .bl _ => false | .int _ => false | .str _ => false | .dct => false | .lst _ => true | .tup xs => O.hasLs xs
def O.hasLs : List O → Bool
  | [] => false
  | x :: xs => x.hasL || O.hasLs xs
end
mutual
def OV (H : Hp) : V → O → Prop
  | v, .non => v = .non
  | v, .bl b => v = .bl b
  | v, .int i => v = .int i
  | v, .str s => v = .str s
  | v, .dct => ∃ a, v = .ref a ∧ H a = some (.dK [])
  | v, .lst xs => ∃ a vs, v = .ref a ∧ H a = some (.lst vs) ∧ OVs H vs xs
  | v, .tup xs => ∃ a vs, v = .ref a ∧ H a = some (.tup vs) ∧ OVs H vs xs
def OVs (H : Hp) : List V → List O → Prop
  | vs, [] => vs = []
  | vs, o :: os => ∃ v us, vs = v :: us ∧ OV H v o ∧ OVs H us os
end
section
variable {H G : Hp}
mutual
theorem OV.ext (e : Ex H G) : ∀ {o : O} {v : V}, OV H v o → OV G v o
  | .non, _, h => h
  | .bl _, _, h => h
  | .int _, _, h => h
  | .str _, _, h => h
  | .dct, _, ⟨a, h1, h2⟩ => ⟨a, h1, e _ _ h2⟩
  | .lst _, _, ⟨a, vs, h1, h2, h3⟩ => ⟨a, vs, h1, e _ _ h2, OVs.ext e h3⟩
  | .tup _, _, ⟨a, vs, h1, h2, h3⟩ => ⟨a, vs, h1, e _ _ h2, OVs.ext e h3⟩
theorem OVs.ext (e : Ex H G) : ∀ {os : List O} {vs : List V}, OVs H vs os → OVs G vs os
  | [], _, h => h
  | _ :: _, _, ⟨v, us, h1, h2, h3⟩ => ⟨v, us, h1, OV.ext e h2, OVs.ext e h3⟩
end
theorem OVs.length : ∀ {os : List O} {vs : List V}, OVs H vs os → vs.length = os.length
  | [], _, h => by rw [show _ = [] from h]; rfl
  | _ :: _, _, ⟨v, us, h1, h2, h3⟩ => by rw [h1, List.length_cons, List.length_cons, OVs.length h3]
theorem OVs.nil : OVs H [] [] := rfl
theorem OVs.cons {v : V} {vs : List V} {o : O} {os : List O} (h : OV H v o) (k : OVs H vs os) : OVs H (v :: vs) (o :: os) := ⟨v, vs, rfl, h, k⟩
theorem OVs.append : ∀ {os ps : List O} {vs us : List V}, OVs H vs os → OVs H us ps → OVs H (vs ++ us) (os ++ ps)
  | [], _, _, _, h, k => by rw [show _ = [] from h]; exact k
  | _ :: _, _, _, _, ⟨v, us, h1, h2, h3⟩, k => by rw [h1]; exact ⟨v, _, rfl, h2, OVs.append h3 k⟩
theorem OVs.snoc : ∀ {os : List O} {o : O} {vs : List V}, OVs H vs (os ++ [o]) → ∃ us v, vs = us ++ [v] ∧ OVs H us os ∧ OV H v o
  | [], _, _, ⟨v, us, h1, h2, h3⟩ => ⟨[], v, by rw [h1, show us = [] from h3]; rfl, rfl, h2⟩
  | _ :: _, _, _, ⟨v, us, h1, h2, h3⟩ => by
    obtain ⟨ws, w, e, a, b⟩ := OVs.snoc h3
    exact ⟨v :: ws, w, by rw [h1, e]; rfl, ⟨v, ws, rfl, h2, a⟩, b⟩
theorem OVs.get : ∀ {os : List O} {vs : List V} {i : Nat} {v : V}, OVs H vs os → vs[i]? = some v → ∃ o, os[i]? = some o ∧ OV H v o
  | [], _, i, v, h, e => by rw [show _ = [] from h] at e; simp at e
  | o :: _, _, 0, v, ⟨u, us, h1, h2, h3⟩, e => by
    rw [h1] at e
    obtain rfl : u = v := by simpa using e
    exact ⟨o, rfl, h2⟩
  | _ :: _, _, i + 1, v, ⟨u, us, h1, h2, h3⟩, e => by
    rw [h1] at e
    obtain ⟨o, a, b⟩ := OVs.get (i := i) (v := v) h3 (by simpa using e)
    exact ⟨o, by simpa using a, b⟩
theorem OVs.geto : ∀ {os : List O} {vs : List V} {i : Nat} {o : O}, OVs H vs os → os[i]? = some o → ∃ v, vs[i]? = some v ∧ OV H v o
  | [], _, i, v, h, e => by simp at e
  | o :: _, _, 0, p, ⟨u, us, h1, h2, h3⟩, e => by
    obtain rfl : o = p := by simpa using e
    exact ⟨u, by rw [h1]; rfl, h2⟩
  | _ :: _, _, i + 1, v, ⟨u, us, h1, h2, h3⟩, e => by
    obtain ⟨w, a, b⟩ := OVs.geto (i := i) h3 (by simpa using e)
    exact ⟨w, by rw [h1]; simpa using a, b⟩
theorem O.szs_app : ∀ (xs ys : List O), O.szs (xs ++ ys) = O.szs xs + O.szs ys
  | [], ys => by simp [O.szs]
  | x :: xs, ys => by
    show x.sz + O.szs (xs ++ ys) = x.sz + O.szs xs + O.szs ys
    rw [O.szs_app xs ys]
    omega
theorem O.sz_pos : ∀ o : O, 1 ≤ o.sz
  | .non => Nat.le_refl _ | .bl _ => Nat.le_refl _ | .int _ => Nat.le_refl _ | .str _ => Nat.le_refl _ | .dct => Nat.le_refl _
  | .lst xs => Nat.le_add_left _ _ | .tup xs => Nat.le_add_left _ _
theorem O.len_szs : ∀ xs : List O, xs.length ≤ O.szs xs
  | [] => Nat.le_refl _
  | x :: xs => by
    have h := O.len_szs xs
    have h1 := x.sz_pos
    show xs.length + 1 ≤ x.sz + O.szs xs
    omega
/-- a list or a tuple -/
theorem OV.seq {v : V} {b : Bool} {xs : List O} (h : OV H v (O.seq b xs)) : ∃ a vs, v = .ref a ∧ H a = some (if b = true then .lst vs else .tup vs) ∧ OVs H vs xs := by
  cases b with
  | true => exact h
  | false => exact h
theorem O.seq_sz {b : Bool} {xs : List O} : (O.seq b xs).sz = O.szs xs + 1 := by cases b <;> rfl
end
/-! ### of what type -/
def O.ty : O → String
  | .non => "NoneType" | .bl _ => "bool" | .int _ => "int" | .str _ => "str" | .dct => "dict" | .lst _ => "list" | .tup _ => "tuple"
def O.isInt : O → Bool
  | .bl _ => true | .int _ => true | _ => false
def O.isBool : O → Bool
  | .bl _ => true | _ => false
def O.isStr : O → Bool
  | .str _ => true | _ => false
def O.isLst : O → Bool
  | .lst _ => true | _ => false
def O.isTup : O → Bool
  | .tup _ => true | _ => false
def O.isDct : O → Bool
  | .dct => true | _ => false
section
variable {K : PySem.W.Frag} {σ : L2.St} {H G : Hp} {te ta tb : TE} {v : V} {o : O}
theorem OV.tyx (h : OV H v o) : TyX K H v (.type o.ty) := by
  cases o with
  | non => rw [show v = .non from h]; exact .base .non
  | bl b => rw [show v = .bl b from h]; exact .base (.bl b)
  | int i => rw [show v = .int i from h]; exact .base (.int i)
  | str s => rw [show v = .str s from h]; exact .base (.str s)
  | dct => obtain ⟨a, rfl, h1⟩ := h; exact .base (.dK h1)
  | lst xs => obtain ⟨a, vs, rfl, h1, _⟩ := h; exact .base (.lst h1)
  | tup xs => obtain ⟨a, vs, rfl, h1, _⟩ := h; exact .base (.tup h1)
theorem kit_int (o : O) : kitB o.ty "int" = some o.isInt := by cases o <;> dsimp only [O.ty, O.isInt] <;> decide +kernel
theorem kit_bool (o : O) : kitB o.ty "bool" = some o.isBool := by cases o <;> dsimp only [O.ty, O.isBool] <;> decide +kernel
theorem kit_str (o : O) : kitB o.ty "str" = some o.isStr := by cases o <;> dsimp only [O.ty, O.isStr] <;> decide +kernel
theorem kit_lst (o : O) : kitB o.ty "list" = some o.isLst := by cases o <;> dsimp only [O.ty, O.isLst] <;> decide +kernel
theorem kit_tup (o : O) : kitB o.ty "tuple" = some o.isTup := by cases o <;> dsimp only [O.ty, O.isTup] <;> decide +kernel
theorem kit_dct (o : O) : kitB o.ty "dict" = some o.isDct := by cases o <;> dsimp only [O.ty, O.isDct] <;> decide +kernel
theorem ev_isInt (h : Ev te σ H v) (k : OV H v o) : Ev (tIsi K "int" te) σ H (.bl o.isInt) := ev_isi h k.tyx (kit_int o)
theorem ev_isBool (h : Ev te σ H v) (k : OV H v o) : Ev (tIsi K "bool" te) σ H (.bl o.isBool) := ev_isi h k.tyx (kit_bool o)
theorem ev_isStr (h : Ev te σ H v) (k : OV H v o) : Ev (tIsi K "str" te) σ H (.bl o.isStr) := ev_isi h k.tyx (kit_str o)
theorem ev_isLst (h : Ev te σ H v) (k : OV H v o) : Ev (tIsi K "list" te) σ H (.bl o.isLst) := ev_isi h k.tyx (kit_lst o)
theorem ev_isTup (h : Ev te σ H v) (k : OV H v o) : Ev (tIsi K "tuple" te) σ H (.bl o.isTup) := ev_isi h k.tyx (kit_tup o)
theorem ev_isDct (h : Ev te σ H v) (k : OV H v o) : Ev (tIsi K "dict" te) σ H (.bl o.isDct) := ev_isi h k.tyx (kit_dct o)
theorem ev_isSeq (h : Ev te σ H v) (k : OV H v o) : Ev (tIsi2 K te) σ H (.bl (o.isLst || o.isTup)) := ev_isi2 h k.tyx (kit_lst o) (kit_tup o)
theorem O.seq_of {o : O} (h : (o.isLst || o.isTup) = true) : ∃ b xs, o = O.seq b xs := by
  cases o with
  | lst xs => exact ⟨true, xs, rfl⟩
  | tup xs => exact ⟨false, xs, rfl⟩
  | _ => cases h
end
/-! ### rules for either of two kinds -/
theorem ix_or {X : Cx} {r1 r2 : R2} (h1 : IxR X r1) (h2 : IxR X r2) : IxR X (fun x y H Q => r1 x y H Q ∨ r2 x y H Q) := by
  intro value slice pins s σ H x y v u Q I rx ry h e
  rcases h with h | h
  · exact h1 value slice pins s σ H x y v u Q I rx ry h e
  · exact h2 value slice pins s σ H x y v u Q I rx ry h e
theorem op_or {X : Cx} {f : Value → Value → Sem Value} {r1 r2 : R2} (h1 : OpR X f r1) (h2 : OpR X f r2) : OpR X f (fun x y H Q => r1 x y H Q ∨ r2 x y H Q) := by
  intro pins s σ H x y v u Q I rx ry h
  rcases h with h | h
  · exact h1 pins s σ H x y v u Q I rx ry h
  · exact h2 pins s σ H x y v u Q I rx ry h
theorem mt_or {X : Cx} {id : String} {r1 r2 : V → List V → Hp → VK → Prop} (h1 : MtM X id r1) (h2 : MtM X id r2) : MtM X id (fun x vs H Q => r1 x vs H Q ∨ r2 x vs H Q) := by
  intro pins s σ H x vs v us Q I rx rv h
  rcases h with h | h
  · exact h1 pins s σ H x vs v us Q I rx rv h
  · exact h2 pins s σ H x vs v us Q I rx rv h
section
variable {K : PySem.W.Frag} {σ : L2.St} {H G : Hp} {te ta tb : TE} {v : V} {D : Ends} {tz : TS}
/-- x[i], x a list or a tuple -/
abbrev rIxQ (K : PySem.W.Frag) : R2 := fun x y H Q => rIxL K x y H Q ∨ rIxT K x y H Q
theorem ix_seq {X : Cx} : IxR X (rIxQ X.K) := ix_or ix_list ix_tup
abbrev rSlQ (K : PySem.W.Frag) : V → Option Int → Option Int → Hp → VK → Prop := fun x lo hi H Q => rSlL K x lo hi H Q ∨ rSlT K x lo hi H Q
theorem sl_seq {X : Cx} : SlR X (rSlQ X.K) := SlR.or sl_list sl_tup
/-- xs.extend(ys), ys a new list or a tuple -/
abbrev rExtQ (K : PySem.W.Frag) : V → List V → Hp → VK → Prop := fun x vs H Q => rExtend x vs H Q ∨ rExtT K x vs H Q
theorem mt_extQ {X : Cx} : MtM X "list.extend" (rExtQ X.K) := mt_or mt_extend mt_extT
/-- what stands at a: a list or a tuple -/
def SqB (H : Hp) (b : Bool) (a : Addr) (vs : List V) : Prop := H a = some (if b = true then .lst vs else .tup vs)
theorem SqB.ext {b : Bool} {a : Addr} {vs : List V} (e : Ex H G) (h : SqB H b a vs) : SqB G b a vs := e _ _ h
theorem rv_ixQ {b : Bool} {p : Addr} {vs : List V} {i : Int} (h : SqB H b p vs) (ha : atI vs i = some v) : RV (rIxQ K) (.ref p) (.int i) H v := fun H1 e Q q => by
  cases b with
  | true => exact .inl (rv_ixL (sq_of h) ha H1 e Q q)
  | false => exact .inr (rv_ixT (st_of h) ha H1 e Q q)
theorem ev_notN {b : Bool} (h : Ev te σ H v) (e : (!decide (v = .non)) = b) : Ev (tNotN te) σ H (.bl b) := fun H1 x Q q => h H1 x _ fun H2 x2 => by
  subst e
  exact q H2 x2
theorem ev_lenQ {b : Bool} {p : Addr} {vs : List V} (h : Ev te σ H (.ref p)) (hs : SqB H b p vs) : Ev (tLen K te) σ H (.int (vs.length : Nat)) := by
  cases b with
  | true => exact ev_lenL h (sq_of hs)
  | false => exact ev_lenT h (st_of hs)
/-- a new list or tuple -/
def EvQ (te : TE) (σ : L2.St) (H : Hp) (xs : List V) : Prop := ∀ H1, Ex H H1 → ∀ Q : VK, (∀ b p H2, H1 p = none → Ex H1 H2 → SqB H2 b p xs → Q (.ref p) H2) → te σ H1 Q
/-- x[1:] -/
theorem eq_tail {b : Bool} {a : Addr} {x : V} {xs : List V} (h : Ev te σ H (.ref a)) (ha : SqB H b a (x :: xs)) : EvQ (tSl (rSlQ K) te (tPart (tC (.int 1))) tNoPart) σ H xs := fun H1 e Q q =>
  h H1 e _ fun H2 e2 => ⟨1, rfl, by
    have e0 : cutV (x :: xs) (some 1) none = xs := cut1 x xs
    have ha2 := ha.ext (e.trans e2)
    cases b with
    | true => exact .inl ⟨a, x :: xs, rfl, sq_of ha2, fun p hp => by
        rw [e0]
        exact q true p _ (fresh_back e2 hp) (e2.trans (Ex.new hp)) upd_same⟩
    | false => exact .inr ⟨a, x :: xs, rfl, st_of ha2, fun z => by
        have e1 : HT.sIx (x :: xs).length 0 (some 1) = 1 := by simp [HT.sIx]
        rw [e1] at z
        exact absurd z.1 (by decide), fun p hp => by
        rw [e0]
        exact q false p _ (fresh_back e2 hp) (e2.trans (Ex.new hp)) upd_same⟩⟩
theorem s_extQ {l : Addr} {xs zs : List V} (hl : H l = some (.lst xs)) (ha : Ev ta σ H (.ref l)) (hb : EvQ te σ H zs) (hs : xs.length + zs.length ≤ 100000) (k : ∀ H1, Ex H H1 → D.nx σ (upd H1 l (.lst (xs ++ zs)))) :
    tDrop (tBM K "list" (rExtQ K) ta (tCons te tNil)) D σ H := ha H (Ex.refl H) _ fun H1 e1 => ⟨.inl ⟨rfl, _, sq_of (e1 l _ hl)⟩, hb H1 e1 _ fun b p H2 _ e2 hp => by
  have hl2 := e2 l _ (e1 l _ hl)
  cases b with
  | true => exact .inl ⟨l, p, xs, zs, rfl, rfl, hl2, hp, sz_of hs, k H2 (e1.trans e2)⟩
  | false => exact .inr ⟨l, p, xs, zs, rfl, rfl, hl2, st_of hp, sz_of hs, k H2 (e1.trans e2)⟩⟩
end
end K24

set_option Elab.async false
set_option linter.all false
set_option maxRecDepth 100000
set_option maxHeartbeats 4000000
/-! What is known of the module's names; kinds. -/
namespace K24
open PySem PySem.Spec PyProof.Rows L2 Evl
/-! ### own exception classes -/
theorem shape_ok {K : PySem.W.Frag} {C : Addr} {bm : List Value} (q : shapeB K C bm = true) :
    ∃ nm qn N bs sn sub ab col dd k0 k1 k2 k3 k5, K.lookup C = some (excClassObj nm qn C N bs bm true sn sub ab col dd k0 k1 k2 k3 k5 "ValueError.__new__") := by
  unfold shapeB at q
  split at q
  · rename_i dd cd sl ho
    split at q
    · rename_i k0 k1 k2 k3 n k5 hs
      simp only [Bool.and_eq_true, beq_iff_eq, Bool.not_eq_true'] at q
      obtain ⟨rfl, hdel, hd, hm⟩ := q
      obtain ⟨nm, bs, mro, ns, qn, hdc, sn, sub, ab, col, del⟩ := cd
      dsimp only at hm hdel hd
      subst hm hdel hd
      have hsl : sl = #[k0, k1, k2, k3, some (.builtin "ValueError.__new__"), k5] := by
        obtain ⟨l⟩ := sl
        simp only at hs
        rw [hs]
      subst hsl
      exact ⟨nm, qn, ns, bs, sn, sub, ab, col, dd, k0, k1, k2, k3, k5, ho⟩
    · cases q
  · cases q
theorem bm_ve (S : Addr) : PySem.HandSPX.refsVE (bmS S) = true := by
  show PySem.HandSPX.refsVE PySem.HandSPX.veTail = true
  decide +kernel
/-- a class that keeps one thing -/
structure ErrC (P : Program) (w : World) (K : PySem.W.Frag) (mg : Str → Option Value) (base : Heap) (x : Str) : Prop where
  oex : OexC K (He.ga K x)
  xf : XfC K (He.ga K x)
  no : PySem.W.findIn K (.ref (He.ga K x)) "thing" = some none
  gl : mg x = some (.ref (He.ga K x))
  te : PySem.W.exmOne K (.ref (He.ga K x)) (.ref (He.ga K x)) = some true
  ini : ∃ (fI : Addr) (fd : FuncData) (p1 p2 p3 p4 : Pos) (params : Arguments) (scope : Scope) (qual : Str), PySem.W.findIn K (.ref (He.ga K x)) "__init__" = some (some (.ref fI)) ∧ PySem.W.typeIn K (.ref fI) = some (.type "function") ∧
    FunD K "__init__" qual params [.Assign [.Attribute (.Name "self" p1) "thing" p2] (.Name "thing" p3) p4] scope [] [] fI fd ∧ FnScope ["self", "thing"] ["self", "thing"] scope ∧ Binds K fd ["self", "thing"] []
structure T24 (P : Program) (w : World) (K : PySem.W.Frag) (mg : Str → Option Value) (base : Heap) : Prop where
  fr : ∀ x ∈ fBl, mg x = none
  df : ∀ (i : Nat) (x : Str) (st : Stmt), fnA[i]? = some (dN x st) → (∃ fd, FnP K x st (He.ga K x) fd) ∧ mg x = some (.ref (He.ga K x))
  kd : ∃ es n, KDict K w (He.ga K "KEPT") es n
  kn : ∀ x ∈ hds, PySem.W.nsIn K (He.ga K "KEPT") x = some none
  knot : ∃ v, PySem.W.nsIn K (He.ga K "KEPT") "not" = some (some v)
  kept : mg "KEPT" = some (.ref (He.ga K "KEPT"))
  letters : ∃ t, mg "LETTERS" = some (.str "abcdefghijklmnopqrstuvwxyz" t)
  capitals : ∃ t, mg "CAPITALS" = some (.str "ABCDEFGHIJKLMNOPQRSTUVWXYZ" t)
  longest : ∃ t, mg "LONGEST" = some (.int 8 t)
  most : ∃ t, mg "MOST_PLACES" = some (.int 6 t)
  bw : ErrC P w K mg base "BadWord"
  bp : ErrC P w K mg base "BadPlace"
  xpw : PySem.W.exmOne K (.ref (He.ga K "BadPlace")) (.ref (He.ga K "BadWord")) = some false
  bs : ErrC P w K mg base "BadSubstitution"
  xsw : PySem.W.exmOne K (.ref (He.ga K "BadSubstitution")) (.ref (He.ga K "BadWord")) = some false
  xsp : PySem.W.exmOne K (.ref (He.ga K "BadSubstitution")) (.ref (He.ga K "BadPlace")) = some false
  cl : ∀ x ∈ cnms, mg x = some (.ref (He.ga K x))
/-- a def of the module keeps a promise; CX: what it may let out -/
structure Ok (P : Program) (w : World) (K : PySem.W.Frag) (mg : Str → Option Value) (base : Heap) (CX : CXT) (x : Str) (ps : List Str) (k : Nat) (sp : Sp) : Prop where
  ex : ∃ (f : Addr) (fd : FuncData), FnOk P w K mg base CX k f fd ps sp ∧ Binds K fd ps [] ∧ PySem.W.keepIn K (.ref f) = true ∧ mg x = some (.ref f)
section
variable {P : Program} {w : World} {K : PySem.W.Frag} {mg : Str → Option Value} {base : Heap}
theorem T24.isi (T : T24 P w K mg base) : mg "isinstance" = none := T.fr _ (by decide)
theorem T24.len (T : T24 P w K mg base) : mg "len" = none := T.fr _ (by decide)
theorem T24.list (T : T24 P w K mg base) : mg "list" = none := T.fr _ (by decide)
theorem T24.tuple (T : T24 P w K mg base) : mg "tuple" = none := T.fr _ (by decide)
theorem T24.str (T : T24 P w K mg base) : mg "str" = none := T.fr _ (by decide)
theorem T24.int (T : T24 P w K mg base) : mg "int" = none := T.fr _ (by decide)
theorem T24.bool (T : T24 P w K mg base) : mg "bool" = none := T.fr _ (by decide)
theorem T24.dict (T : T24 P w K mg base) : mg "dict" = none := T.fr _ (by decide)
theorem T24.range (T : T24 P w K mg base) : mg "range" = none := T.fr _ (by decide)
theorem T24.enumerate (T : T24 P w K mg base) : mg "enumerate" = none := T.fr _ (by decide)
theorem T24.zip (T : T24 P w K mg base) : mg "zip" = none := T.fr _ (by decide)
theorem T24.all (T : T24 P w K mg base) : mg "all" = none := T.fr _ (by decide)
theorem T24.min (T : T24 P w K mg base) : mg "min" = none := T.fr _ (by decide)
theorem T24.sorted (T : T24 P w K mg base) : mg "sorted" = none := T.fr _ (by decide)
theorem T24.repr (T : T24 P w K mg base) : mg "repr" = none := T.fr _ (by decide)
/-- a def by its place, nothing let out -/
theorem T24.ok (T : T24 P w K mg base) (i : Nat) {x : Str} {st : Stmt} {N ps : List Str} {k : Nat} {sp : Sp} (hi : fnA[i]? = some (dN x st)) (S : FnScope N ps (defScope st)) (len : ∀ vs H Q E, sp vs H Q E → vs.length = ps.length)
    (hb : ∀ (kV doc pm : Value) (an : Option Addr) (cdv ct : Value) (us : List Value), us.length = ps.length → bindArgs (PySem.W.fnOf x x (defArgs st) (defBody st) (defScope st) .none kV doc pm an cdv ct) ⟨us, []⟩ = pure (ps.zip us))
    (hbody : ∀ (f : Addr) (cdv : Value) (A : Around) (outer : List Env) (s : Shared) (H : Hp) (vs : List V) (Q : VK) (E : XK), Room k (A.deeper (envOfC x (defScope st) s.heap.objs.size f cdv)) → sp vs H Q E →
      ∃ t, PSs (cxOf CX0 P w K mg base N x (defScope st) f cdv A outer s H E).nox (defBody st) t ∧ t { nx := fun _ H' => Q .non H', rt := Q } (L2.start N vs) H) : Ok P w K mg base CX0 x ps (k + 1) sp := by
  obtain ⟨⟨fd, F⟩, m⟩ := T.df i x st hi
  refine ⟨_, fd, F.ok S len (fun cdv A outer s H vs Q E hr h => ?_), F.bindsN hb, F.kp, m⟩
  obtain ⟨t, h1, h2⟩ := hbody _ cdv A outer s H vs Q E hr h
  exact ⟨t, PSs.nox h1, h2⟩
/-- a def that may raise -/
theorem T24.okX (T : T24 P w K mg base) (i : Nat) {x : Str} {st : Stmt} {N ps : List Str} {k : Nat} {sp : Sp} (hi : fnA[i]? = some (dN x st)) (S : FnScope N ps (defScope st)) (len : ∀ vs H Q E, sp vs H Q E → vs.length = ps.length)
    (hb : ∀ (kV doc pm : Value) (an : Option Addr) (cdv ct : Value) (us : List Value), us.length = ps.length → bindArgs (PySem.W.fnOf x x (defArgs st) (defBody st) (defScope st) .none kV doc pm an cdv ct) ⟨us, []⟩ = pure (ps.zip us))
    (hbody : ∀ (f : Addr) (cdv : Value) (A : Around) (outer : List Env) (s : Shared) (H : Hp) (vs : List V) (Q : VK) (E : XK), Room k (A.deeper (envOfC x (defScope st) s.heap.objs.size f cdv)) → sp vs H Q E →
      ∃ t, PSs (cxOf (L2.CX P w) P w K mg base N x (defScope st) f cdv A outer s H E) (defBody st) t ∧ t { nx := fun _ H' => Q .non H', rt := Q } (L2.start N vs) H) : Ok P w K mg base (L2.CX P w) x ps (k + 1) sp := by
  obtain ⟨⟨fd, F⟩, m⟩ := T.df i x st hi
  exact ⟨_, fd, F.ok S len (fun cdv A outer s H vs Q E hr h => hbody _ cdv A outer s H vs Q E hr h), F.bindsN hb, F.kp, m⟩
end
/-! ### texts -/
def firstIn (s : Str) (z : Str) : Bool := match s.cps.toList with
  | c :: _ => decide (c ∈ z.cps.toList)
  | [] => false
def spelledB (s : Str) : Bool := decide (s.length ≤ 8) && (Txt.isalnum s && Txt.isascii s)
def reachB (s : Str) : Bool := spelledB s && (Txt.islower s && firstIn s "abcdefghijklmnopqrstuvwxyz")
def nameB (s : Str) : Bool := reachB s && !(s == "not")
def varB (s : Str) : Bool := spelledB s && (firstIn s "ABCDEFGHIJKLMNOPQRSTUVWXYZ" && (decide (s.length = 1) || Txt.isdigit (cutS s (some 1) none)))
/-- all texts that stand in any object here -/
def SS : List Str := ["", "x", "a", "Xy", "X1y", "XX", "X", "not", "f", "=", "Ff", "b", "c", "g", "h", "p", "q", "r", "s", "Y", "Z12", "A", "late", "0", "Z", "U", "W1"]
def okB (s : Str) : Bool := decide (s.length ≤ 100) && ((!Txt.isalnum s || !s.cps.toList.isEmpty) && (!reachB s || (hds.contains s || s == "not")))
theorem ok_ss : SS.all okB = true := by decide +kernel
theorem ss_len {s : Str} (h : s ∈ SS) : s.length ≤ 100 := by
  have k := List.all_eq_true.mp ok_ss s h
  unfold okB at k
  exact of_decide_eq_true (Bool.and_eq_true_iff.mp k).1
theorem ss_first {s : Str} (h : s ∈ SS) (k : Txt.isalnum s = true) : ∃ c cs, s.cps.toList = c :: cs := by
  have q := List.all_eq_true.mp ok_ss s h
  unfold okB at q
  have q2 := (Bool.and_eq_true_iff.mp (Bool.and_eq_true_iff.mp q).2).1
  rw [k] at q2
  cases e : s.cps.toList with
  | nil => rw [e] at q2; cases q2
  | cons c cs => exact ⟨c, cs, rfl⟩
theorem ss_name {s : Str} (h : s ∈ SS) (k : reachB s = true) : s ∈ hds ∨ s = "not" := by
  have q := List.all_eq_true.mp ok_ss s h
  unfold okB at q
  have q2 := (Bool.and_eq_true_iff.mp (Bool.and_eq_true_iff.mp q).2).2
  rw [k] at q2
  have q3 : (hds.contains s || s == "not") = true := q2
  rcases Bool.or_eq_true_iff.mp q3 with z | z
  · exact .inl (List.contains_iff_mem.mp z)
  · exact .inr (beq_iff_eq.mp z)
theorem not_hds : ("not" : Str) ∉ hds := by decide +kernel
end K24

set_option Elab.async false
set_option linter.all false
set_option maxRecDepth 100000
set_option maxHeartbeats 4000000
/-! Integers, lists, names, variables. -/
namespace K24
open PySem PySem.Spec PyProof.Rows L2 Evl
def O.isInteger : O → Bool
  | .int _ => true | _ => false
def O.isNumber : O → Bool
  | .int i => decide (i ≥ 0) | _ => false
def spB (f : O → Bool) : Sp := fun vs H Q _ => ∃ v o, vs = [v] ∧ OV H v o ∧ RetV (.bl (f o)) H Q
theorem spB_len {f : O → Bool} {vs : List V} {H : Hp} {Q : VK} {E : XK} (h : spB f vs H Q E) : vs.length = 1 := by
  obtain ⟨v, o, rfl, _⟩ := h
  rfl
theorem spv_B {f : O → Bool} {v : V} {o : O} {H : Hp} (h : OV H v o) : SpV (spB f) ([v] ++ []) H (.bl (f o)) := fun H1 e Q q E => ⟨v, o, rfl, h.ext e, q⟩
section
variable {P : Program} {w : World} {K : PySem.W.Frag} {mg : Str → Option Value} {base : Heap}
theorem sc_int : FnScope ["thing"] ["thing"] (defScope s_is_integer) := ⟨rfl, rfl, rfl, by decide +kernel, rfl, by decide +kernel, by decide +kernel⟩
theorem ok_is_integer (T : T24 P w K mg base) : Ok P w K mg base CX0 "is_integer" ["thing"] 1 (spB O.isInteger) := by
  refine T.ok 0 rfl sc_int (fun vs H Q E h => spB_len h) (fun kV doc pm an cdv ct us hl => match us, hl with | [_], _ => rfl) (fun f cdv A outer s H vs Q E hr h => ?_)
  obtain ⟨v, o, rfl, ho, k⟩ := h
  refine ⟨_, pss_one (ps_ret (pe_and (pe_isiB T.isi T.int PyProof.Rows.boot_int (pv 0)) (pe_one (pe_not (pe_isiB T.isi T.bool PyProof.Rows.boot_bool (pv 0)))))), ?_⟩
  refine s_ret (ev_is (ev_andV (ev_isInt (ev_var rfl) ho) fun _ => ev_notV (ev_isBool (ev_var rfl) ho)) ?_) k
  cases o <;> rfl
theorem sc_number : FnScope ["thing"] ["thing"] (defScope s_is_number) := ⟨rfl, rfl, rfl, by decide +kernel, rfl, by decide +kernel, by decide +kernel⟩
theorem ok_is_number (T : T24 P w K mg base) : Ok P w K mg base CX0 "is_number" ["thing"] 2 (spB O.isNumber) := by
  obtain ⟨fL, dL, GL, bL, kL, mL⟩ := (ok_is_integer T).ex
  refine T.ok 1 rfl sc_number (fun vs H Q E h => spB_len h) (fun kV doc pm an cdv ct us hl => match us, hl with | [_], _ => rfl) (fun f cdv A outer s H vs Q E hr h => ?_)
  obtain ⟨v, o, rfl, ho, k⟩ := h
  refine ⟨_, pss_one (ps_ret (pe_and (pe_call GL hr (by rfl) mL kL bL .nil pass0 (pa_cons (pv 0) pa_nil)) (pe_one (pe_cmpR op_ge (pv 0) pe_int (nomark _))))), ?_⟩
  cases o with
  | int i =>
    obtain rfl : v = .int i := ho
    exact s_ret (ev_is (ev_andV (a := true) (ev_call (ea_cons (ev_var rfl) ea_nil) (spv_B (o := .int i) rfl)) fun _ => ev_op (ev_var rfl) ev_c rv_I0) rfl) k
  | _ => exact s_ret (ev_is (ev_andV (a := false) (b := false) (ev_call (ea_cons (ev_var rfl) ea_nil) (spv_B ho)) fun z => nomatch z) rfl) k
theorem sc_list : FnScope ["thing"] ["thing"] (defScope s_is_list) := ⟨rfl, rfl, rfl, by decide +kernel, rfl, by decide +kernel, by decide +kernel⟩
theorem ok_is_list (T : T24 P w K mg base) : Ok P w K mg base CX0 "is_list" ["thing"] 1 (spB fun o => o.isLst || o.isTup) := by
  refine T.ok 2 rfl sc_list (fun vs H Q E h => spB_len h) (fun kV doc pm an cdv ct us hl => match us, hl with | [_], _ => rfl) (fun f cdv A outer s H vs Q E hr h => ?_)
  obtain ⟨v, o, rfl, ho, k⟩ := h
  refine ⟨_, pss_one (ps_ret (pe_isiLT T.isi T.list T.tuple (pv 0))), ?_⟩
  exact s_ret (ev_isSeq (ev_var rfl) ho) k
def spS (f : Str → Bool) : Sp := fun vs H Q _ => ∃ s, vs = [.str s] ∧ s ∈ SS ∧ RetV (.bl (f s)) H Q
theorem spS_len {f : Str → Bool} {vs : List V} {H : Hp} {Q : VK} {E : XK} (h : spS f vs H Q E) : vs.length = 1 := by
  obtain ⟨v, rfl, _⟩ := h
  rfl
theorem spv_S {f : Str → Bool} {s : Str} {H : Hp} (h : s ∈ SS) : SpV (spS f) ([.str s] ++ []) H (.bl (f s)) := fun H1 e Q q E => ⟨s, rfl, h, q⟩
theorem sc_spelled : FnScope ["thing"] ["thing"] (defScope s_is_spelled) := ⟨rfl, rfl, rfl, by decide +kernel, rfl, by decide +kernel, by decide +kernel⟩
theorem ok_is_spelled (T : T24 P w K mg base) : Ok P w K mg base CX0 "is_spelled" ["thing"] 1 (spS spelledB) := by
  obtain ⟨tl, mLo⟩ := T.longest
  refine T.ok 3 rfl sc_spelled (fun vs H Q E h => spS_len h) (fun kV doc pm an cdv ct us hl => match us, hl with | [_], _ => rfl) (fun f cdv A outer s H vs Q E hr h => ?_)
  obtain ⟨x, rfl, hx, k⟩ := h
  have hl := ss_len hx
  refine ⟨_, pss_one (ps_ret (pe_and (pe_isiB T.isi T.str PyProof.Rows.boot_str (pv 0)) (pe_and (pe_cmpR op_le (pe_callB call_len (by rfl) T.len PySem.boot_len (pa_cons (pv 0) pa_nil)) (pe_glob (v := .int 8) rfl mLo ⟨_, rfl⟩) (nomark _))
    (pe_and (pe_m0 PySem.F.slot_str_isalnum PySem.F.type_str_isalnum mt_isalnum (pv 0)) (pe_one (pe_m0 PySem.F.slot_str_isascii PySem.F.type_str_isascii mt_isascii (pv 0))))))), ?_⟩
  refine s_ret (ev_is (ev_andV (a := true) (ev_isStr (o := .str x) (ev_var rfl) rfl) fun _ => ev_andV (ev_op (ev_lenS (ev_var rfl) (by omega)) ev_c rv_I0) fun _ => ev_andV (ev_m0 (g := Txt.isalnum) (ev_var rfl)) fun _ => ev_m0 (g := Txt.isascii) (ev_var rfl)) ?_) k
  show V.bl (true && (decide (((x.length : Nat) : Int) ≤ 8) && (Txt.isalnum x && Txt.isascii x))) = V.bl (spelledB x)
  have e : decide (((x.length : Nat) : Int) ≤ 8) = decide (x.length ≤ 8) := by
    by_cases q : x.length ≤ 8
    · rw [decide_eq_true q, decide_eq_true (by omega)]
    · rw [decide_eq_false q, decide_eq_false (by omega)]
  rw [e, Bool.true_and]
  rfl
theorem spelled_alnum {s : Str} (h : spelledB s = true) : Txt.isalnum s = true := by
  unfold spelledB at h
  exact (Bool.and_eq_true_iff.mp (Bool.and_eq_true_iff.mp h).2).1
theorem firstIn_of {s z : Str} {c : Nat} {cs : List Nat} (h : s.cps.toList = c :: cs) : firstIn s z = decide (c ∈ z.cps.toList) := by
  unfold firstIn
  rw [h]
theorem at0 {s : Str} {c : Nat} {cs : List Nat} (h : s.cps.toList = c :: cs) : atI s.cps.toList 0 = some c := by
  rw [h]
  exact atI_nat (j := 0) rfl
theorem sc_name : FnScope ["thing"] ["thing"] (defScope s_is_name) := ⟨rfl, rfl, rfl, by decide +kernel, rfl, by decide +kernel, by decide +kernel⟩
theorem ok_is_name (T : T24 P w K mg base) : Ok P w K mg base CX0 "is_name" ["thing"] 2 (spS nameB) := by
  obtain ⟨tl, mLe⟩ := T.letters
  obtain ⟨es, nn, D⟩ := T.kd
  obtain ⟨fS, dS, GS, bS, kS, mS⟩ := (ok_is_spelled T).ex
  refine T.ok 4 rfl sc_name (fun vs H Q E h => spS_len h) (fun kV doc pm an cdv ct us hl => match us, hl with | [_], _ => rfl) (fun f cdv A outer s H vs Q E hr h => ?_)
  obtain ⟨x, rfl, hx, k⟩ := h
  have hl := ss_len hx
  refine ⟨_, pss_one (ps_ret (pe_and (pe_call GS hr (by rfl) mS kS bS .nil pass0 (pa_cons (pv 0) pa_nil)) (pe_and (pe_m0 PySem.F.slot_str_islower PySem.F.type_str_islower mt_islower (pv 0))
    (pe_and (pe_cmpR op_in_sign (pe_ix ix_str (pv 0) pe_int (fun _ _ => rfl)) (pe_glob (v := .str "abcdefghijklmnopqrstuvwxyz") rfl mLe ⟨_, rfl⟩) (by rfl))
    (pe_one (pe_cmpR (op_notIn_kd D) (pv 0) (pe_glob (v := .ref (He.ga K "KEPT")) rfl T.kept rfl) (by rfl))))))), ?_⟩
  cases hs : spelledB x with
  | false =>
    refine s_ret (ev_is (ev_andV (a := false) (b := false) (ev_is (ev_call (ea_cons (ev_var rfl) ea_nil) (spv_S hx)) (by rw [hs])) fun z => nomatch z) ?_) k
    unfold nameB reachB
    rw [hs]
    rfl
  | true =>
    obtain ⟨c, cs, hc⟩ := ss_first hx (spelled_alnum hs)
    cases hw : Txt.islower x && firstIn x "abcdefghijklmnopqrstuvwxyz" with
    | false =>
      refine s_ret (ev_is (ev_andV (a := true) (b := false) (ev_is (ev_call (ea_cons (ev_var rfl) ea_nil) (spv_S hx)) (by rw [hs])) fun _ => ev_is (ev_andV (a := Txt.islower x) (b := firstIn x "abcdefghijklmnopqrstuvwxyz" && false) (ev_m0 (g := Txt.islower) (ev_var rfl)) fun hlo =>
        ev_andV (b := false) (ev_is (ev_op (ev_op (ev_var rfl) ev_c (rv_ixS (by omega) (at0 hc))) ev_c rv_insign) (by rw [firstIn_of hc])) fun hf => by rw [hlo, hf] at hw; cases hw) (by rw [Bool.and_false, Bool.and_false])) ?_) k
      unfold nameB reachB
      rw [hs, hw]
      rfl
    | true =>
      obtain ⟨h1, h2⟩ := Bool.and_eq_true_iff.mp hw
      have hreach : reachB x = true := by
        unfold reachB
        rw [hs, hw]
        rfl
      refine s_ret (ev_is (ev_andV (a := true) (b := !(x == "not")) (ev_is (ev_call (ea_cons (ev_var rfl) ea_nil) (spv_S hx)) (by rw [hs])) fun _ => ev_is (ev_andV (a := true) (b := !(x == "not")) (ev_is (ev_m0 (g := Txt.islower) (ev_var rfl)) (by rw [h1])) fun _ =>
        ev_is (ev_andV (a := true) (b := !(x == "not")) (ev_is (ev_op (ev_op (ev_var rfl) ev_c (rv_ixS (by omega) (at0 hc))) ev_c rv_insign) (by rw [← firstIn_of hc, h2])) fun _ => ?_) (by rw [Bool.true_and])) (by rw [Bool.true_and])) ?_) k
      · rcases ss_name hx hreach with z | z
        · have hne : (x == "not") = false := by
            rw [beq_eq_false_iff_ne]
            intro q
            rw [q] at z
            exact not_hds z
          rw [hne]
          exact ev_op (ev_var rfl) ev_c (rv_notInKd (T.kn x z))
        · subst z
          obtain ⟨v, hv⟩ := T.knot
          exact ev_op (ev_var rfl) ev_c fun H1 _ _ q => ⟨"not", some v, rfl, rfl, hv, q H1 (Ex.refl H1)⟩
      · unfold nameB
        rw [hreach]
end
end K24

set_option Elab.async false
set_option linter.all false
set_option maxRecDepth 100000
set_option maxHeartbeats 4000000
/-! Variables; what has lists. -/
namespace K24
open PySem PySem.Spec PyProof.Rows L2 Evl
section
variable {P : Program} {w : World} {K : PySem.W.Frag} {mg : Str → Option Value} {base : Heap}
theorem ev_slS {σ : L2.St} {H : Hp} {te : TE} {x : Str} (h : Ev te σ H (.str x)) (hl : x.length ≤ 1000) : Ev (tSl rSlS te (tPart (tC (.int 1))) tNoPart) σ H (.str (cutS x (some 1) none)) := fun H1 e Q q =>
  h H1 e _ fun H2 e2 => ⟨1, rfl, x, rfl, sz_of (by omega), q H2 e2⟩
theorem sc_var : FnScope ["thing"] ["thing"] (defScope s_is_variable) := ⟨rfl, rfl, rfl, by decide +kernel, rfl, by decide +kernel, by decide +kernel⟩
theorem ok_is_variable (T : T24 P w K mg base) : Ok P w K mg base CX0 "is_variable" ["thing"] 2 (spS varB) := by
  obtain ⟨tl, mLe⟩ := T.capitals
  obtain ⟨fS, dS, GS, bS, kS, mS⟩ := (ok_is_spelled T).ex
  refine T.ok 5 rfl sc_var (fun vs H Q E h => spS_len h) (fun kV doc pm an cdv ct us hl => match us, hl with | [_], _ => rfl) (fun f cdv A outer s H vs Q E hr h => ?_)
  obtain ⟨x, rfl, hx, k⟩ := h
  have hl := ss_len hx
  refine ⟨_, pss_one (ps_ret (pe_and (pe_call GS hr (by rfl) mS kS bS .nil pass0 (pa_cons (pv 0) pa_nil))
    (pe_and (pe_cmpR op_in_sign (pe_ix ix_str (pv 0) pe_int (fun _ _ => rfl)) (pe_glob (v := .str "ABCDEFGHIJKLMNOPQRSTUVWXYZ") rfl mLe ⟨_, rfl⟩) (by rfl))
    (pe_one (pe_or (pe_cmpR op_eq (pe_callB call_len (by rfl) T.len PySem.boot_len (pa_cons (pv 0) pa_nil)) pe_int (nomark _))
      (pe_one (pe_m0 PySem.F.slot_str_isdigit PySem.F.type_str_isdigit mt_isdigit (pe_slice sl_str (pv 0) (po_some pe_int) po_none)))))))), ?_⟩
  cases hs : spelledB x with
  | false =>
    refine s_ret (ev_is (ev_andV (a := false) (b := false) (ev_is (ev_call (ea_cons (ev_var rfl) ea_nil) (spv_S hx)) (by rw [hs])) fun z => nomatch z) ?_) k
    unfold varB
    rw [hs]
    rfl
  | true =>
    obtain ⟨c, cs, hc⟩ := ss_first hx (spelled_alnum hs)
    refine s_ret (ev_is (ev_andV (a := true) (ev_is (ev_call (ea_cons (ev_var rfl) ea_nil) (spv_S hx)) (by rw [hs])) fun _ => ev_andV (ev_op (ev_op (ev_var rfl) ev_c (rv_ixS (by omega) (at0 hc))) ev_c rv_insign) fun _ =>
      ev_orV (ev_op (ev_lenS (ev_var rfl) (by omega)) ev_c (rv_eq rfl)) fun _ => ev_m0 (g := Txt.isdigit) (ev_slS (ev_var rfl) (by omega))) ?_) k
    unfold varB
    rw [hs, firstIn_of hc]
    have e : decide (V.int ((x.length : Nat) : Int) = V.int 1) = decide (x.length = 1) := by
      by_cases q : x.length = 1
      · rw [decide_eq_true q, decide_eq_true (by rw [q]; rfl)]
      · rw [decide_eq_false q, decide_eq_false (fun z => q (by have := V.int.inj z; omega))]
    rw [e]
/-! ### has_lists -/
theorem hasLs_app : ∀ (xs ys : List O), O.hasLs (xs ++ ys) = (O.hasLs xs || O.hasLs ys)
  | [], ys => by simp [O.hasLs]
  | x :: xs, ys => by
    show (x.hasL || O.hasLs (xs ++ ys)) = (x.hasL || O.hasLs xs || O.hasLs ys)
    rw [hasLs_app xs ys, Bool.or_assoc]
def spHL : Sp := fun vs H Q _ => ∃ v o, vs = [v] ∧ OV H v o ∧ o.sz ≤ 9000 ∧ RetV (.bl o.hasL) H Q
theorem sc_hl : FnScope ["thing", "work", "part"] ["thing"] (defScope s_has_lists) := ⟨rfl, rfl, rfl, by decide +kernel, rfl, by decide +kernel, by decide +kernel⟩
theorem ok_has_lists (T : T24 P w K mg base) : Ok P w K mg base CX0 "has_lists" ["thing"] 1 spHL := by
  refine T.ok 6 rfl sc_hl (fun vs H Q E h => ?_) (fun kV doc pm an cdv ct us hl => match us, hl with | [_], _ => rfl) (fun f cdv A outer s H vs Q E hr h => ?_)
  · obtain ⟨v, z, rfl, _⟩ := h
    rfl
  · obtain ⟨v, z, rfl, hw, hz, k⟩ := h
    refine ⟨_, pss_cons (ps_set (i := 1) sc_hl.nd rfl (Or.inl rfl) (pe_lst (pa_cons (pv 0) pa_nil)))
      (pss_cons (ps_while PassesOwn.never (pt_truth (pv 1) (by intro _; rfl))
        (pss_cons (ps_set (i := 2) sc_hl.nd rfl (Or.inl rfl) (pe_bm0 PySem.F.plainAttrs_list PySem.F.slot_list_pop PySem.F.type_list_pop mt_pop (pv 1)))
        (pss_cons (ps_if (pt_val (pe_isiB T.isi T.list PyProof.Rows.boot_list (pv 2))) (pss_one (ps_ret pe_bl)) pss_nil)
        (pss_one (ps_if (pt_val (pe_isiB T.isi T.tuple PyProof.Rows.boot_tuple (pv 2))) (pss_one (ps_expr (pe_bm PySem.F.plainAttrs_list PySem.F.slot_list_extend PySem.F.type_list_extend mt_extT (pv 1) (pa_cons (pv 2) pa_nil)))) pss_nil)))))
      (pss_one (ps_ret pe_bl))), ?_⟩
    refine q_asgL (el_lst (ea_cons (ev_var rfl) ea_nil) (by show 1 ≤ 100000; decide)) fun p H1 hp e1 h1 => ?_
    refine q_while (fun m σ' H' => ∃ (xs : List V) (ts : List O) (o : Option V), σ' = [some v, some (.ref p), o] ∧ Ex H H' ∧ H' p = some (.lst xs) ∧ OVs H xs ts ∧ m = O.szs ts ∧ m ≤ 9000 ∧ O.hasLs ts = z.hasL) z.sz
      ⟨[v], [z], none, rfl, e1, h1, .cons hw .nil, by simp [O.szs], hz, by simp [O.hasLs]⟩ ?_
    rintro m σ' H' ⟨xs, ts, o, rfl, e2, h2, tv, hm, hm2, hres⟩
    refine ⟨!xs.isEmpty, et_truL (ev_var rfl) (SqL.of h2), fun hb H3 e3 => ?_, fun hb H3 e3 => ?_⟩
    · rcases List.eq_nil_or_concat ts with ht | ⟨ts', t, ht⟩
      · subst ht
        rw [show xs = [] from tv] at hb
        exact absurd hb (by decide)
      rw [List.concat_eq_append] at ht
      subst ht
      obtain ⟨us, x, rfl, tv1, tvx⟩ := OVs.snoc tv
      have hp' : H p = none := hp
      have hsum := O.szs_app ts' [t]
      have hs1 : O.szs [t] = t.sz := by simp [O.szs]
      have hlen := O.len_szs ts'
      have hle := tv1.length
      rw [hasLs_app, show O.hasLs [t] = t.hasL by simp [O.hasLs]] at hres
      refine ⟨fun σ2 H2 => ∃ m', m' < m ∧ ∃ (xs : List V) (ts : List O) (o : Option V), σ2 = [some v, some (.ref p), o] ∧ Ex H H2 ∧ H2 p = some (.lst xs) ∧ OVs H xs ts ∧ m' = O.szs ts ∧ m' ≤ 9000 ∧ O.hasLs ts = z.hasL, fun σ2 H2 z => z, ?_⟩
      refine q_pop (e3 _ _ h2) (ev_var rfl) fun H4 e4 => ?_
      have e5 : Ex H (upd H4 p (.lst us)) := Ex.mut ((e2.trans e3).trans e4) hp'
      have tvx5 := tvx.ext e5
      have tp := t.sz_pos
      refine q_when (b := t.isLst) (et_B (ev_isLst (ev_var rfl) tvx5)) (fun hL H5 e6 => ?_) fun hL H5 e6 => ?_
      · cases t with
        | lst ys =>
          refine s_ret (ev_is ev_c ?_) fun H6 e7 => k H6 ((e5.trans e6).trans e7)
          rw [← hres, show (O.lst ys).hasL = true from rfl, Bool.or_true]
        | _ => cases hL
      · refine s_when (b := t.isTup) (et_B (ev_isTup (ev_var rfl) (tvx5.ext e6))) (fun hT H6 e7 => ?_) fun hT H6 e7 => ?_
        · cases t with
          | tup ys =>
            obtain ⟨r, as, rfl, hr', ha⟩ := tvx
            have e8 := e6.trans e7
            have hal := ha.length
            have hly := O.len_szs ys
            have hty : (O.tup ys).sz = O.szs ys + 1 := rfl
            refine s_extT (e8 _ _ upd_same) (ev_var rfl) (ev_var rfl) (st_of ((e5.trans e8) _ _ hr')) (by omega) fun H7 e9 => ?_
            exact ⟨O.szs (ts' ++ ys), by rw [O.szs_app]; omega, us ++ as, ts' ++ ys, _, rfl, Ex.mut ((e5.trans e8).trans e9) hp', upd_same, tv1.append ha, rfl, by rw [O.szs_app]; omega, by rw [hasLs_app]; exact hres⟩
          | _ => cases hT
        · have hno : t.hasL = false := by cases t with
            | lst ys => cases hL
            | tup ys => cases hT
            | _ => rfl
          rw [hno, Bool.or_false] at hres
          exact ⟨O.szs ts', by omega, us, ts', _, rfl, (e5.trans e6).trans e7, e7 _ _ (e6 _ _ upd_same), tv1, rfl, by omega, hres⟩
    · have hx : xs = [] := by
        cases xs with
        | nil => rfl
        | cons _ _ => cases hb
      have ht : ts = [] := by
        have := tv.length
        rw [hx] at this
        exact List.length_eq_zero_iff.mp this.symm
      rw [ht] at hres
      refine s_ret (ev_is ev_c ?_) fun H4 e4 => k H4 ((e2.trans e3).trans e4)
      rw [← hres]
      rfl
end
end K24

set_option Elab.async false
set_option linter.all false
set_option maxRecDepth 100000
set_option maxHeartbeats 4000000
/-! frozen: lists made tuples. -/
namespace K24
open PySem PySem.Spec PyProof.Rows L2 Evl
mutual
def O.nod : O → Bool
  | .non => true | .bl _ => true | .int _ => true | .str _ => true | .dct => false | .lst xs => O.nods xs | .tup xs => O.nods xs
def O.nods : List O → Bool
  | [] => true
  | x :: xs => x.nod && O.nods xs
end
section
variable {H G : Hp}
mutual
theorem OV.tx (e : Tx H G) : ∀ {o : O} {v : V}, o.hasL = false → o.nod = true → OV H v o → OV G v o
  | .non, _, _, _, h => h
  | .bl _, _, _, _, h => h
  | .int _, _, _, _, h => h
  | .str _, _, _, _, h => h
  | .dct, _, _, h, _ => nomatch h
  | .lst _, _, h, _, _ => nomatch h
  | .tup _, _, h1, h2, ⟨a, vs, e1, e2, e3⟩ => ⟨a, vs, e1, e _ _ e2, OVs.tx e h1 h2 e3⟩
theorem OVs.tx (e : Tx H G) : ∀ {os : List O} {vs : List V}, O.hasLs os = false → O.nods os = true → OVs H vs os → OVs G vs os
  | [], _, _, _, h => h
  | _ :: _, _, h1, h2, ⟨v, us, e1, e2, e3⟩ => by
    obtain ⟨a, b⟩ := Bool.or_eq_false_iff.mp h1
    obtain ⟨c, d⟩ := Bool.and_eq_true_iff.mp h2
    exact ⟨v, us, e1, OV.tx e a c e2, OVs.tx e b d e3⟩
end
end
mutual
theorem strip_id : ∀ {o : O}, o.hasL = false → o.strip = o
  | .non, _ => rfl | .bl _, _ => rfl | .int _, _ => rfl | .str _, _ => rfl | .dct, _ => rfl
  | .lst _, h => nomatch h
  | .tup xs, h => congrArg O.tup (strips_id (os := xs) h)
theorem strips_id : ∀ {os : List O}, O.hasLs os = false → O.strips os = os
  | [], _ => rfl
  | x :: xs, h => by
    obtain ⟨a, b⟩ := Bool.or_eq_false_iff.mp h
    show x.strip :: O.strips xs = x :: xs
    rw [strip_id a, strips_id b]
end
mutual
theorem strip_noL : ∀ o : O, o.strip.hasL = false
  | .non => rfl | .bl _ => rfl | .int _ => rfl | .str _ => rfl | .dct => rfl
  | .lst xs => strips_noL xs
  | .tup xs => strips_noL xs
theorem strips_noL : ∀ os : List O, O.hasLs (O.strips os) = false
  | [] => rfl
  | x :: xs => by
    show (x.strip.hasL || O.hasLs (O.strips xs)) = false
    rw [strip_noL x, strips_noL xs]
    rfl
end
mutual
theorem strip_nod : ∀ o : O, o.strip.nod = o.nod
  | .non => rfl | .bl _ => rfl | .int _ => rfl | .str _ => rfl | .dct => rfl
  | .lst xs => strips_nod xs
  | .tup xs => strips_nod xs
theorem strips_nod : ∀ os : List O, O.nods (O.strips os) = O.nods os
  | [] => rfl
  | x :: xs => by
    show (x.strip.nod && O.nods (O.strips xs)) = (x.nod && O.nods xs)
    rw [strip_nod x, strips_nod xs]
end
theorem strips_eq : ∀ os : List O, O.strips os = os.map O.strip
  | [] => rfl
  | x :: xs => by
    show x.strip :: O.strips xs = _
    rw [strips_eq xs]
    rfl
theorem seq_strip (b : Bool) (ws : List O) : (O.seq b ws).strip = .tup (O.strips ws) := by cases b <;> rfl
theorem seq_nod (b : Bool) (ws : List O) : (O.seq b ws).nod = O.nods ws := by cases b <;> rfl
theorem nods_get : ∀ {os : List O} {i : Nat} {o : O}, O.nods os = true → os[i]? = some o → o.nod = true
  | [], _, _, _, h => by simp at h
  | x :: xs, 0, o, h, e => by
    obtain rfl : x = o := by simpa using e
    exact (Bool.and_eq_true_iff.mp h).1
  | _ :: xs, i + 1, o, h, e => nods_get (i := i) (Bool.and_eq_true_iff.mp h).2 (by simpa using e)
theorem nods_take : ∀ {os : List O} (n : Nat), O.nods os = true → O.nods (os.take n) = true
  | [], n, h => by simp [O.nods]
  | _ :: _, 0, _ => rfl
  | x :: xs, n + 1, h => by
    obtain ⟨a, b⟩ := Bool.and_eq_true_iff.mp h
    show (x.nod && O.nods (xs.take n)) = true
    rw [a, nods_take n b]
    rfl
theorem szs_drop : ∀ {os : List O} {n : Nat} {o : O}, os[n]? = some o → O.szs (os.drop n) = o.sz + O.szs (os.drop (n + 1))
  | [], _, _, e => by simp at e
  | x :: xs, 0, o, e => by
    obtain rfl : x = o := by simpa using e
    rfl
  | _ :: xs, n + 1, o, e => szs_drop (os := xs) (n := n) (by simpa using e)
theorem take_snoc {α : Type} {xs : List α} {n : Nat} {x : α} (h : xs[n]? = some x) : xs.take (n + 1) = xs.take n ++ [x] := by
  rw [List.take_succ, h]
  rfl
theorem hasL_seq {o : O} (h : o.hasL = true) : ∃ b ws, o = O.seq b ws := by
  cases o with
  | lst ws => exact ⟨true, ws, rfl⟩
  | tup ws => exact ⟨false, ws, rfl⟩
  | _ => cases h
/-- one thing that is begun: what it is, the tuple that holds it and its list, what is done -/
structure Fr where
  wv : V
  b : Bool
  ws : List O
  t : Addr
  d : Addr
  dv : List V
  n : Nat
/-- what holds of one: H0 at the def's begin -/
structure FrOk (H0 H : Hp) (f : Fr) : Prop where
  wh : OV H0 f.wv (O.seq f.b f.ws)
  tp : H f.t = some (.tup [f.wv, .ref f.d])
  dn : H f.d = some (.lst f.dv)
  new : H0 f.d = none
  ov : OVs H f.dv (O.strips (f.ws.take f.n))
  le : f.n ≤ f.ws.length
  nod : O.nods f.ws = true
  sz : O.szs f.ws ≤ 9000
theorem FrOk.len {H0 H : Hp} {f : Fr} (h : FrOk H0 H f) : f.dv.length = f.n := by
  rw [h.ov.length, strips_eq, List.length_map, List.length_take]
  exact Nat.min_eq_left h.le
/-- it stays if its list stays, and all tuples -/
theorem FrOk.keep {H0 H G : Hp} {f : Fr} (h : FrOk H0 H f) (t : Tx H G) (d : G f.d = H f.d) : FrOk H0 G f :=
  ⟨h.wh, t _ _ h.tp, d.trans h.dn, h.new, h.ov.tx t (strips_noL _) (by rw [strips_nod]; exact nods_take _ h.nod), h.le, h.nod, h.sz⟩
/-- from the top: each is the next thing of the one below -/
def Chain : List Fr → O → Prop
  | [], _ => False
  | [f], o => o = O.seq f.b f.ws
  | f :: g :: r, o => g.ws[g.n]? = some (O.seq f.b f.ws) ∧ Chain (g :: r) o
def lowM : List Fr → Nat
  | [] => 0
  | f :: r => 3 * O.szs (f.ws.drop (f.n + 1)) + 1 + lowM r
def topM : List Fr → Nat
  | [] => 0
  | f :: r => 3 * O.szs (f.ws.drop f.n) + 1 + lowM r
section
variable {K : PySem.W.Frag} {σ : L2.St} {H G : Hp} {te ta tb : TE} {v : V} {D : Ends} {tz : TS}
abbrev rTupOf (K : PySem.W.Frag) : List V → Hp → VK → Prop := fun xs H Q => ∃ p ys, xs = [.ref p] ∧ ((SqL K H p ys ∧ ∀ l, H l = none → Q (.ref l) (upd H l (.tup ys))) ∨ (SqT K H p ys ∧ Q (.ref p) H))
/-- tuple(xs), xs a list -/
theorem eu_tupL {p : Addr} {xs : List V} (h : Ev te σ H (.ref p)) (hs : SqL K H p xs) : EvU (tCB (rTupOf K) (tCons te tNil)) σ H xs := fun H1 e Q q =>
  h H1 e _ fun H2 e2 => ⟨p, xs, rfl, .inl ⟨ex_l (e.trans e2) hs, fun l hl => q l _ (fresh_back e2 hl) (e2.trans (Ex.new hl)) upd_same⟩⟩
/-- (e, []) -/
def EvPN (te : TE) (σ : L2.St) (H : Hp) (v : V) : Prop := ∀ H1, Ex H H1 → ∀ Q : VK, (∀ t d H2, H1 t = none → H1 d = none → t ≠ d → Ex H1 H2 → H2 t = some (.tup [v, .ref d]) → H2 d = some (.lst []) → Q (.ref t) H2) → te σ H1 Q
theorem epn {te : TE} (h : Ev te σ H v) : EvPN (tTup (tCons te (tCons (tLst tNil) tNil))) σ H v := fun H1 e Q q =>
  h H1 e _ fun H2 e2 => ⟨Nat.zero_le _, fun d hd => ⟨by show 2 ≤ sizeLine; decide, fun t ht => by
    have e3 : Ex H2 (upd H2 d (.lst [])) := Ex.new hd
    have td : t ≠ d := fun z => by
      rw [z, upd_same] at ht
      cases ht
    exact q t d _ (fresh_back (e2.trans e3) ht) (fresh_back e2 hd) td ((e2.trans e3).trans (Ex.new ht)) upd_same (by rw [upd_ne td.symm, upd_same])⟩⟩
theorem ev_top {B : Addr} {xs : List V} {y : V} {i : Nat} (hs : σ[i]? = some (some (.ref B))) (hB : H B = some (.lst (xs ++ [y]))) : Ev (tOp (rIxL K) (tVar i) (tUn (rU fun i => .int (-i)) (tC (.int 1)))) σ H y :=
  ev_op (ev_var hs) (ev_un ev_c ru_neg) (rv_ixL (sq_of hB) (atI_last xs y))
end
section
variable {P : Program} {w : World} {K : PySem.W.Frag} {mg : Str → Option Value} {base : Heap}
def spFz : Sp := fun vs H Q _ => ∃ v o, vs = [v] ∧ OV H v o ∧ o.sz ≤ 9000 ∧ o.nod = true ∧ ∀ (u : V) (G : Hp), Ex H G → OV G u o.strip → Q u G
theorem sc_fz : FnScope ["thing", "begun", "whole", "done"] ["thing"] (defScope s_frozen) := ⟨rfl, rfl, rfl, by decide +kernel, rfl, by decide +kernel, by decide +kernel⟩
theorem spv_hl {v : V} {o : O} {H : Hp} (h : OV H v o) (hz : o.sz ≤ 9000) : SpV spHL ([v] ++ []) H (.bl o.hasL) := fun H1 e Q q E => ⟨v, o, rfl, h.ext e, hz, q⟩
def refs (fs : List Fr) : List V := fs.reverse.map fun f => V.ref f.t
theorem refs_cons (f : Fr) (fs : List Fr) : refs (f :: fs) = refs fs ++ [V.ref f.t] := by
  unfold refs
  rw [List.reverse_cons, List.map_append]
  rfl
structure Inv5 (H0 H : Hp) (B : Addr) (o : O) (fs : List Fr) : Prop where
  ex : Ex H0 H
  nB : H0 B = none
  hB : H B = some (.lst (refs fs))
  ok : ∀ f ∈ fs, FrOk H0 H f
  ds : (B :: fs.map (·.d)).Nodup
  ch : Chain fs o
  len : fs.length + topM fs ≤ 90000
end
end K24

set_option Elab.async false
set_option linter.all false
set_option maxRecDepth 100000
set_option maxHeartbeats 4000000
/-! frozen, its loop. -/
namespace K24
open PySem PySem.Spec PyProof.Rows L2 Evl
section
variable {H0 H G : Hp} {B : Addr} {o : O} {f g : Fr} {r : List Fr}
theorem Inv5.ext (I : Inv5 H0 H B o r) (e : Ex H G) : Inv5 H0 G B o r :=
  ⟨I.ex.trans e, I.nB, e _ _ I.hB, fun f hf => (I.ok f hf).keep (Tx.of e) (by rw [(I.ok f hf).dn]; exact e _ _ (I.ok f hf).dn), I.ds, I.ch, I.len⟩
theorem Inv5.dB (I : Inv5 H0 H B o r) {f : Fr} (h : f ∈ r) : f.d ≠ B := fun z => (List.nodup_cons.mp I.ds).1 (by rw [← z]; exact List.mem_map.mpr ⟨f, h, rfl⟩)
theorem Inv5.dd (I : Inv5 H0 H B o (f :: r)) {g : Fr} (h : g ∈ r) : g.d ≠ f.d := fun z => by
  have q := (List.nodup_cons.mp (List.nodup_cons.mp I.ds).2).1
  exact q (List.mem_map.mpr ⟨g, h, z⟩)
theorem low_le : ∀ (fs : List Fr), lowM fs ≤ topM fs
  | [] => Nat.le_refl _
  | f :: r => by
    have : O.szs (f.ws.drop (f.n + 1)) ≤ O.szs (f.ws.drop f.n) := by
      cases e : f.ws[f.n]? with
      | none =>
        have h1 : f.ws.length ≤ f.n := List.getElem?_eq_none_iff.mp e
        rw [List.drop_eq_nil_of_le h1, List.drop_eq_nil_of_le (by omega)]
        exact Nat.le_refl _
      | some x => rw [szs_drop e]; omega
    show 3 * O.szs (f.ws.drop (f.n + 1)) + 1 + lowM r ≤ 3 * O.szs (f.ws.drop f.n) + 1 + lowM r
    omega
/-- one thing more is done -/
theorem Inv5.done (I : Inv5 H0 H B o (f :: r)) {x : O} {y : V} (hx : f.ws[f.n]? = some x) (hy : OV H y x.strip) :
    Inv5 H0 (upd H f.d (.lst (f.dv ++ [y]))) B o ({ f with dv := f.dv ++ [y], n := f.n + 1 } :: r) ∧ topM ({ f with dv := f.dv ++ [y], n := f.n + 1 } :: r) < topM (f :: r) := by
  have F := I.ok f (List.mem_cons_self ..)
  have t : Tx H (upd H f.d (.lst (f.dv ++ [y]))) := Tx.lst F.dn
  have hn : f.n < f.ws.length := (List.getElem?_eq_some_iff.mp hx).1
  have hs := szs_drop hx
  have hp := x.sz_pos
  have hm : topM ({ f with dv := f.dv ++ [y], n := f.n + 1 } :: r) + 3 * x.sz = topM (f :: r) := by
    show 3 * O.szs (f.ws.drop (f.n + 1)) + 1 + lowM r + 3 * x.sz = 3 * O.szs (f.ws.drop f.n) + 1 + lowM r
    rw [hs]
    omega
  refine ⟨⟨Ex.mut I.ex F.new, I.nB, ?_, ?_, I.ds, ?_, ?_⟩, by omega⟩
  · rw [upd_ne (I.dB (List.mem_cons_self ..)).symm, refs_cons]
    exact I.hB.trans (by rw [refs_cons])
  · intro g hg
    rcases List.mem_cons.mp hg with rfl | hg
    · refine ⟨F.wh, t _ _ F.tp, upd_same, F.new, ?_, hn, F.nod, F.sz⟩
      show OVs _ (f.dv ++ [y]) (O.strips (f.ws.take (f.n + 1)))
      rw [take_snoc hx, strips_eq, List.map_append, ← strips_eq]
      refine OVs.append (F.ov.tx t (strips_noL _) (by rw [strips_nod]; exact nods_take _ F.nod)) (.cons (hy.tx t (strip_noL _) (by rw [strip_nod]; exact nods_get F.nod hx)) .nil)
    · exact (I.ok g (List.mem_cons_of_mem _ hg)).keep t (upd_ne (I.dd hg))
  · cases r with
    | nil => exact I.ch
    | cons g r => exact I.ch
  · have := I.len
    show r.length + 1 + _ ≤ 90000
    have q : (f :: r).length = r.length + 1 := rfl
    omega
/-- one begins -/
theorem Inv5.push (I : Inv5 H0 H B o (f :: r)) {b : Bool} {ws : List O} {wv : V} {t d : Addr} (hx : f.ws[f.n]? = some (O.seq b ws)) (hw : OV H0 wv (O.seq b ws)) (ht : G t = some (.tup [wv, .ref d])) (hd : G d = some (.lst [])) (nd : H d = none) (e : Ex H G) :
    Inv5 H0 (upd G B (.lst (refs (f :: r) ++ [.ref t]))) B o (⟨wv, b, ws, t, d, [], 0⟩ :: f :: r) ∧ topM (⟨wv, b, ws, t, d, [], 0⟩ :: f :: r) < topM (f :: r) := by
  have F := I.ok f (List.mem_cons_self ..)
  have I1 := I.ext e
  have tB : Tx G (upd G B (.lst (refs (f :: r) ++ [.ref t]))) := Tx.lst I1.hB
  have hs := szs_drop hx
  rw [O.seq_sz] at hs
  have hdB : d ≠ B := fun z => by
    rw [z, I.hB] at nd
    cases nd
  have hm : topM (⟨wv, b, ws, t, d, [], 0⟩ :: f :: r) + 2 = topM (f :: r) := by
    show 3 * O.szs (ws.drop 0) + 1 + (3 * O.szs (f.ws.drop (f.n + 1)) + 1 + lowM r) + 2 = 3 * O.szs (f.ws.drop f.n) + 1 + lowM r
    rw [hs, List.drop_zero]
    omega
  have fresh0 : H0 d = none := fresh_back I.ex nd
  have hwz : O.szs ws + 1 ≤ 9000 := by
    have q : O.szs f.ws = O.szs (f.ws.take f.n) + O.szs (f.ws.drop f.n) := by rw [← O.szs_app, List.take_append_drop]
    have := F.sz
    omega
  refine ⟨⟨Ex.mut I1.ex I.nB, I.nB, ?_, ?_, ?_, ⟨hx, I.ch⟩, ?_⟩, by omega⟩
  · rw [upd_same, refs_cons _ (f :: r)]
  · intro g hg
    rcases List.mem_cons.mp hg with rfl | hg
    · refine ⟨hw, tB _ _ ht, by rw [upd_ne hdB]; exact hd, fresh0, .nil, Nat.zero_le _, ?_, by show O.szs ws ≤ 9000; omega⟩
      have := nods_get F.nod hx
      rw [seq_nod] at this
      exact this
    · exact (I1.ok g hg).keep tB (upd_ne (I.dB hg))
  · refine List.nodup_cons.mpr ⟨fun z => ?_, List.nodup_cons.mpr ⟨fun z => ?_, (List.nodup_cons.mp I.ds).2⟩⟩
    · rcases List.mem_cons.mp z with z | z
      · exact hdB z.symm
      · exact (List.nodup_cons.mp I.ds).1 z
    · obtain ⟨g, hg, e2⟩ := List.mem_map.mp z
      have := (I.ok g hg).dn
      rw [e2, nd] at this
      cases this
  · have := I.len
    show r.length + 1 + 1 + _ ≤ 90000
    have q : (f :: r).length = r.length + 1 := rfl
    omega
/-- the last one is done: it is what the one below waits for -/
theorem Inv5.pop (I : Inv5 H0 H B o (f :: g :: r)) (hn : f.n = f.ws.length) {u : Addr} (e1 : Ex (upd H B (.lst (refs (g :: r)))) G) (hu : G u = some (.tup f.dv)) :
    Inv5 H0 (upd G g.d (.lst (g.dv ++ [.ref u]))) B o ({ g with dv := g.dv ++ [.ref u], n := g.n + 1 } :: r) ∧ topM ({ g with dv := g.dv ++ [.ref u], n := g.n + 1 } :: r) < topM (f :: g :: r) := by
  have F := I.ok f (List.mem_cons_self ..)
  have tB : Tx H (upd H B (.lst (refs (g :: r)))) := Tx.lst I.hB
  have hx : g.ws[g.n]? = some (O.seq f.b f.ws) := I.ch.1
  have hl : lowM (g :: r) ≤ topM (g :: r) := low_le _
  have hm1 : topM (f :: g :: r) = 1 + lowM (g :: r) := by
    show 3 * O.szs (f.ws.drop f.n) + 1 + lowM (g :: r) = _
    rw [hn, List.drop_eq_nil_of_le (Nat.le_refl _)]
    rfl
  have hs := szs_drop hx
  rw [O.seq_sz] at hs
  have hm2 : topM (g :: r) = lowM (g :: r) + 3 * (O.szs f.ws + 1) := by
    show 3 * O.szs (g.ws.drop g.n) + 1 + lowM r = 3 * O.szs (g.ws.drop (g.n + 1)) + 1 + lowM r + _
    rw [hs]
    omega
  have I1 : Inv5 H0 (upd H B (.lst (refs (g :: r)))) B o (g :: r) ∨ True := .inr trivial
  -- below, without the bound
  have Gg := I.ok g (by simp)
  have tG : Tx H G := tB.trans (Tx.of e1)
  have ovU : OV G (.ref u) (O.seq f.b f.ws).strip := by
    rw [seq_strip]
    refine ⟨u, f.dv, rfl, hu, ?_⟩
    have := F.ov
    rw [hn, List.take_of_length_le (Nat.le_refl _)] at this
    exact this.tx tG (strips_noL _) (by rw [strips_nod]; exact F.nod)
  have keepD : ∀ h ∈ g :: r, G h.d = some (.lst h.dv) := fun h hh => e1 _ _ (by rw [upd_ne (I.dB (List.mem_cons_of_mem _ hh))]; exact (I.ok h (List.mem_cons_of_mem _ hh)).dn)
  have t : Tx G (upd G g.d (.lst (g.dv ++ [.ref u]))) := Tx.lst (keepD g (List.mem_cons_self ..))
  have hgn : g.n < g.ws.length := (List.getElem?_eq_some_iff.mp hx).1
  have ds2 : (B :: (g :: r).map (·.d)).Nodup := by
    have h1 := List.nodup_cons.mp I.ds
    exact List.nodup_cons.mpr ⟨fun z => h1.1 (List.mem_cons_of_mem _ z), (List.nodup_cons.mp h1.2).2⟩
  have dgr : ∀ h ∈ r, h.d ≠ g.d := fun h hh z => (List.nodup_cons.mp (List.nodup_cons.mp ds2).2).1 (List.mem_map.mpr ⟨h, hh, z⟩)
  have hm3 : topM ({ g with dv := g.dv ++ [.ref u], n := g.n + 1 } :: r) = lowM (g :: r) := rfl
  refine ⟨⟨Ex.mut ((Ex.mut I.ex I.nB).trans e1) Gg.new, I.nB, ?_, ?_, ds2, ?_, ?_⟩, by omega⟩
  · rw [upd_ne (I.dB (by simp)).symm, refs_cons]
    exact (e1 _ _ upd_same).trans (by rw [refs_cons])
  · intro h hh
    rcases List.mem_cons.mp hh with rfl | hh
    · refine ⟨Gg.wh, t _ _ (tG _ _ Gg.tp), upd_same, Gg.new, ?_, hgn, Gg.nod, Gg.sz⟩
      show OVs _ (g.dv ++ [.ref u]) (O.strips (g.ws.take (g.n + 1)))
      rw [take_snoc hx, strips_eq, List.map_append, ← strips_eq]
      refine OVs.append (Gg.ov.tx (tG.trans t) (strips_noL _) (by rw [strips_nod]; exact nods_take _ Gg.nod)) (.cons (ovU.tx t (strip_noL _) (by rw [strip_nod]; exact nods_get Gg.nod hx)) .nil)
    · have hk := I.ok h (by simp [hh])
      refine hk.keep (tG.trans t) ?_
      rw [upd_ne (dgr h hh), keepD h (List.mem_cons_of_mem _ hh), hk.dn]
  · cases r with
    | nil => exact I.ch.2
    | cons h r => exact I.ch.2
  · have := I.len
    have q : (f :: g :: r).length = r.length + 2 := rfl
    show r.length + 1 + _ ≤ 90000
    omega
end
section
variable {K : PySem.W.Frag} {σ : L2.St} {H G : Hp} {te ta tb : TE} {v : V} {D : Ends} {tz : TS}
/-- xs.pop() -/
theorem q_popD {l : Addr} {xs : List V} {y : V} (hl : H l = some (.lst (xs ++ [y]))) (ha : Ev ta σ H (.ref l)) (k : ∀ H1, Ex H H1 → tz D σ (upd H1 l (.lst xs))) : tSeq (tDrop (tBM0 K "list" rPop ta)) tz D σ H :=
  ha H (Ex.refl H) _ fun H1 e1 => ⟨.inl ⟨rfl, _, sq_of (e1 l _ hl)⟩, l, _, y, rfl, rfl, e1 l _ hl, last_at, by
    rw [List.dropLast_concat]
    exact k H1 e1⟩
/-- xs = [(e, [])] -/
theorem q_asgPN {i : Nat} (h : EvPN te σ H v) (k : ∀ t d B H2, H t = none → H d = none → Ex H H2 → H2 t = some (.tup [v, .ref d]) → H2 d = some (.lst []) → H2 B = none → tz D (σ.set i (some (.ref B))) (upd H2 B (.lst [.ref t]))) :
    tSeq (tAsg (tLst (tCons te tNil)) (gName i)) tz D σ H := h H (Ex.refl H) _ fun t d H2 nt nd td e2 ht hd => ⟨by show 1 ≤ sizeLine; decide, fun B hB => k t d B H2 nt nd e2 ht hd hB⟩
/-- x, y = t -/
theorem q_unp {i j : Nat} {t : Addr} {x y : V} (h : Ev te σ H (.ref t)) (ht : H t = some (.tup [x, y])) (k : ∀ H1, Ex H H1 → tz D ((σ.set i (some x)).set j (some y)) H1) : tSeq (tAsg te (gTup K 2 (gCons (gName i) (gCons (gName j) gNil)))) tz D σ H :=
  h H (Ex.refl H) _ fun H1 e => ⟨t, [x, y], rfl, st_of (e _ _ ht), rfl, _, _, rfl, _, _, rfl, rfl, k H1 e⟩
/-- xs.append((e, [])) -/
theorem s_appPN {l : Addr} {xs : List V} (hl : H l = some (.lst xs)) (ha : Ev ta σ H (.ref l)) (h : EvPN te σ H v) (hz : xs.length < 100000) (k : ∀ t d H1, H t = none → H d = none → t ≠ d → Ex H H1 → H1 t = some (.tup [v, .ref d]) → H1 d = some (.lst []) → D.nx σ (upd H1 l (.lst (xs ++ [.ref t])))) :
    tDrop (tBM K "list" rAppend ta (tCons te tNil)) D σ H := ha H (Ex.refl H) _ fun H1 e1 => ⟨.inl ⟨rfl, _, sq_of (e1 l _ hl)⟩, h H1 e1 _ fun t d H2 nt nd td e2 ht hd =>
  ⟨l, xs, .ref t, rfl, rfl, e2 l _ (e1 l _ hl), sz_lt hz, k t d H2 (fresh_back e1 nt) (fresh_back e1 nd) td (e1.trans e2) ht hd⟩⟩
end
section
variable {P : Program} {w : World} {K : PySem.W.Frag} {mg : Str → Option Value} {base : Heap}
theorem ok_frozen (T : T24 P w K mg base) : Ok P w K mg base CX0 "frozen" ["thing"] 2 spFz := by
  obtain ⟨fH, dH, GH, bH, kH, mH⟩ := (ok_has_lists T).ex
  refine T.ok 7 rfl sc_fz (fun vs H Q E h => ?_) (fun kV doc pm an cdv ct us hl => match us, hl with | [_], _ => rfl) (fun f cdv A outer s H vs Q E hr h => ?_)
  · obtain ⟨v, z, rfl, _⟩ := h
    rfl
  · obtain ⟨v, z, rfl, hw, hz, hnod, k⟩ := h
    refine ⟨_, pss_cons (ps_if (pt_not (pt_val (pe_call GH hr (by rfl) mH kH bH .nil pass0 (pa_cons (pv 0) pa_nil)))) (pss_one (ps_ret (pv 0))) pss_nil)
      (pss_cons (ps_set (i := 1) sc_fz.nd rfl (Or.inl rfl) (pe_lst (pa_cons (pe_tup (pa_cons (pv 0) (pa_cons (pe_lst pa_nil) pa_nil))) pa_nil)))
      (pss_one (ps_while PassesOwn.never (pt_val pe_bl)
        (pss_cons (ps_asg (pe_ix ix_list (pv 1) (pe_un un_neg pe_int) (fun _ _ => rfl)) (pg_tup rfl (pgs_cons (pg_name (i := 2) sc_fz.nd rfl (Or.inl rfl)) (pgs_cons (pg_name (i := 3) sc_fz.nd rfl (Or.inl rfl)) pgs_nil))))
        (pss_one (ps_if (pt_cmpR op_eq (pe_callB call_len (by rfl) T.len PySem.boot_len (pa_cons (pv 3) pa_nil)) (pe_callB call_len (by rfl) T.len PySem.boot_len (pa_cons (pv 2) pa_nil)) (nomark _))
          (pss_cons (ps_expr (pe_bm0 PySem.F.plainAttrs_list PySem.F.slot_list_pop PySem.F.type_list_pop mt_pop (pv 1)))
          (pss_cons (ps_if (pt_not (pt_truth (pv 1) (by intro _; rfl))) (pss_one (ps_ret (pe_callTy call_tuple_of (by rfl) T.tuple PyProof.Rows.boot_tuple (pa_cons (pv 3) pa_nil)))) pss_nil)
          (pss_one (ps_expr (pe_bm PySem.F.plainAttrs_list PySem.F.slot_list_append PySem.F.type_list_append mt_append (pe_ix ix_tup (pe_ix ix_list (pv 1) (pe_un un_neg pe_int) (fun _ _ => rfl)) pe_int (fun _ _ => rfl)) (pa_cons (pe_callTy call_tuple_of (by rfl) T.tuple PyProof.Rows.boot_tuple (pa_cons (pv 3) pa_nil)) pa_nil))))))
          (pss_one (ps_if (pt_val (pe_call GH hr (by rfl) mH kH bH .nil pass0 (pa_cons (pe_ix ix_seq (pv 2) (pe_callB call_len (by rfl) T.len PySem.boot_len (pa_cons (pv 3) pa_nil)) (fun _ _ => rfl)) pa_nil)))
            (pss_one (ps_expr (pe_bm PySem.F.plainAttrs_list PySem.F.slot_list_append PySem.F.type_list_append mt_append (pv 1) (pa_cons (pe_tup (pa_cons (pe_ix ix_seq (pv 2) (pe_callB call_len (by rfl) T.len PySem.boot_len (pa_cons (pv 3) pa_nil)) (fun _ _ => rfl)) (pa_cons (pe_lst pa_nil) pa_nil))) pa_nil))))
            (pss_one (ps_expr (pe_bm PySem.F.plainAttrs_list PySem.F.slot_list_append PySem.F.type_list_append mt_append (pv 3) (pa_cons (pe_ix ix_seq (pv 2) (pe_callB call_len (by rfl) T.len PySem.boot_len (pa_cons (pv 3) pa_nil)) (fun _ _ => rfl)) pa_nil)))))))))))), ?_⟩
    refine q_when (b := !z.hasL) (et_not (et_B (ev_call (ea_cons (ev_var rfl) ea_nil) (spv_hl hw hz)))) (fun hb H1 e1 => ?_) fun hb H1 e1 => ?_
    · have hno : z.hasL = false := by simpa using hb
      refine s_ret (ev_var rfl) fun H2 e2 => k v H2 (e1.trans e2) ?_
      rw [strip_id hno]
      exact hw.ext (e1.trans e2)
    have hyes : z.hasL = true := by simpa using hb
    obtain ⟨b, ws, rfl⟩ := hasL_seq hyes
    have hwsz : O.szs ws + 1 ≤ 9000 := by rw [← O.seq_sz (b := b)]; exact hz
    have hnods : O.nods ws = true := by rw [← seq_nod b]; exact hnod
    refine q_asgPN (epn (ev_var rfl)) fun t d B H2 nt nd e2 ht hd hB => ?_
    have e12 := e1.trans e2
    have hBd : B ≠ d := fun z => by
      rw [z, hd] at hB
      cases hB
    have hBt : B ≠ t := fun z => by
      rw [z, ht] at hB
      cases hB
    refine s_while (fun m σ' H' => ∃ (fs : List Fr) (o1 o2 : Option V), σ' = [some v, some (.ref B), o1, o2] ∧ Inv5 H H' B (O.seq b ws) fs ∧ m = topM fs) (topM [⟨v, b, ws, t, d, [], 0⟩]) ⟨[⟨v, b, ws, t, d, [], 0⟩], none, none, rfl, ?_, rfl⟩ ?_
    · refine ⟨Ex.mut e12 (fresh_back e12 hB), fresh_back e12 hB, upd_same, fun f hf => ?_, ?_, rfl, ?_⟩
      · obtain rfl : f = ⟨v, b, ws, t, d, [], 0⟩ := by simpa using hf
        exact ⟨hw, by rw [upd_ne hBt.symm]; exact ht, by rw [upd_ne hBd.symm]; exact hd, fresh_back e1 nd, .nil, Nat.zero_le _, hnods, by show O.szs ws ≤ 9000; omega⟩
      · simp [hBd]
      · show 1 + (3 * O.szs (ws.drop 0) + 1 + 0) ≤ 90000
        rw [List.drop_zero]
        omega
    rintro m σ' H' ⟨fs, o1, o2, rfl, I, rfl⟩
    match fs, I with
    | [], I => exact I.ch.elim
    | f :: r, I =>
    refine ⟨true, et_B ev_c, fun _ H3 e3 => ⟨fun σ2 H2 => ∃ m', m' < topM (f :: r) ∧ ∃ (fs : List Fr) (o1 o2 : Option V), σ2 = [some v, some (.ref B), o1, o2] ∧ Inv5 H H2 B (O.seq b ws) fs ∧ m' = topM fs, fun _ _ z => z, ?_⟩, fun z => nomatch z⟩
    have I3 := I.ext e3
    have F3 := I3.ok f (List.mem_cons_self ..)
    refine q_unp (ev_top (xs := refs r) (y := .ref f.t) rfl (by rw [I3.hB, refs_cons])) F3.tp fun H4 e4 => ?_
    have I4 := I3.ext e4
    have F := I4.ok f (List.mem_cons_self ..)
    obtain ⟨wa, wvs, ewv, hwa, hov⟩ := F.wh.seq
    have hwl : wvs.length = f.ws.length := hov.length
    have hwa4 : SqB H4 f.b wa wvs := I4.ex _ _ hwa
    have hdl := F.len
    have hlen := I4.len
    rw [ewv]
    refine s_if (b := decide (f.n = f.ws.length)) (et_is (et_test (ev_op (ev_lenL (ev_var rfl) (sq_of F.dn)) (ev_lenQ (ev_var rfl) hwa4) (rv_eq rfl))) ?_) (fun hb H5 e5 => ?_) fun hb H5 e5 => ?_
    · rw [hdl, hwl]
      by_cases q : f.n = f.ws.length
      · rw [decide_eq_true q, decide_eq_true (by rw [q])]
      · rw [decide_eq_false q, decide_eq_false (fun z => q (by have := V.int.inj z; omega))]
    · have hn : f.n = f.ws.length := of_decide_eq_true hb
      have I5 := I4.ext e5
      have F5 := I5.ok f (List.mem_cons_self ..)
      refine q_popD (xs := refs r) (y := .ref f.t) (by rw [I5.hB, refs_cons]) (ev_var rfl) fun H6 e6 => ?_
      have I6 := I5.ext e6
      have F6 := I6.ok f (List.mem_cons_self ..)
      have hBs : (upd H6 B (.lst (refs r))) B = some (.lst (refs r)) := upd_same
      have hfd : (upd H6 B (.lst (refs r))) f.d = some (.lst f.dv) := by rw [upd_ne (I6.dB (List.mem_cons_self ..))]; exact F6.dn
      refine q_when (b := !!(refs r).isEmpty) (et_not (et_truL (ev_var rfl) (sq_of hBs))) (fun he H7 e7 => ?_) fun he H7 e7 => ?_
      · match r, I6, e7, he, hfd with
        | [], I6, e7, he, hfd =>
          refine s_retU (eu_tupL (ev_var rfl) (sq_of (e7 _ _ hfd))) fun u G hu e8 h8 => k (.ref u) G (((Ex.mut I6.ex I6.nB).trans e7).trans e8) ?_
          rw [show O.seq b ws = O.seq f.b f.ws from I6.ch, seq_strip]
          refine ⟨u, f.dv, rfl, h8, ?_⟩
          have q := F6.ov
          rw [hn, List.take_of_length_le (Nat.le_refl _)] at q
          exact q.tx (((Tx.lst I6.hB).trans (Tx.of e7)).trans (Tx.of e8)) (strips_noL _) (by rw [strips_nod]; exact F6.nod)
        | g :: r, I6, e7, he, hfd =>
          rw [refs_cons] at he
          simp at he
      · match r, I6, e7, he, hfd, hBs with
        | [], I6, e7, he, hfd, hBs =>
          exact absurd he (by simp [refs])
        | g :: r, I6, e7, he, hfd, hBs =>
          have Gg := I6.ok g (by simp)
          have hgd : (upd H6 B (.lst (refs (g :: r)))) g.d = some (.lst g.dv) := by rw [upd_ne (I6.dB (by simp))]; exact Gg.dn
          have hgt : (upd H6 B (.lst (refs (g :: r)))) g.t = some (.tup [g.wv, .ref g.d]) := Tx.lst I6.hB _ _ Gg.tp
          refine s_appU (e7 _ _ hgd) (ev_op (ev_top (xs := refs r) (y := .ref g.t) rfl (by rw [e7 _ _ hBs, refs_cons])) ev_c (rv_ixT (st_of (e7 _ _ hgt)) (atI_nat (j := 1) rfl))) (eu_tupL (ev_var rfl) (sq_of (e7 _ _ hfd))) ?_ fun u G hu e8 h8 => ?_
          · have := Gg.len
            have := Gg.le
            have := O.len_szs g.ws
            have := Gg.sz
            omega
          · obtain ⟨J, lt⟩ := I6.pop hn (e7.trans e8) h8
            exact ⟨_, lt, _, _, _, rfl, J, rfl⟩
    · have hn : f.n ≠ f.ws.length := of_decide_eq_false hb
      have hlt : f.n < f.ws.length := Nat.lt_of_le_of_ne F.le hn
      obtain ⟨x, hx⟩ : ∃ x, f.ws[f.n]? = some x := ⟨f.ws[f.n], by simp [hlt]⟩
      obtain ⟨y, hy, hyo⟩ := hov.geto hx
      have I5 := I4.ext e5
      have F5 := I5.ok f (List.mem_cons_self ..)
      have hwa5 : SqB H5 f.b wa wvs := I5.ex _ _ hwa
      have hxz : x.sz ≤ 9000 := by
        have q : O.szs f.ws = O.szs (f.ws.take f.n) + O.szs (f.ws.drop f.n) := by rw [← O.szs_app, List.take_append_drop]
        have := szs_drop hx
        have := F.sz
        omega
      have ix : ∀ {G : Hp}, Ex H5 G → Ev (tOp (rIxQ K) (tVar 2) (tLen K (tVar 3))) [some v, some (.ref B), some (.ref wa), some (.ref f.d)] G y := fun e => ev_op (ev_var rfl) (ev_lenL (ev_var rfl) (sq_of (e _ _ F5.dn))) (rv_ixQ (hwa5.ext e) (by rw [F5.len]; exact atI_nat hy))
      refine s_if (b := x.hasL) (et_B (ev_call (ea_cons (ix (Ex.refl _)) ea_nil) (spv_hl (hyo.ext I5.ex) hxz))) (fun hL H6 e6 => ?_) fun hL H6 e6 => ?_
      · obtain ⟨b2, ws2, rfl⟩ := hasL_seq hL
        have I6 := I5.ext e6
        refine s_appPN I6.hB (ev_var rfl) (epn (ix e6)) ?_ fun t d G nt nd td e7 ht hd => ?_
        · unfold refs
          rw [List.length_map, List.length_reverse]
          omega
        · obtain ⟨J, lt⟩ := I6.push hx hyo ht hd nd e7
          exact ⟨_, lt, _, _, _, rfl, J, rfl⟩
      · have I6 := I5.ext e6
        have F6 := I6.ok f (List.mem_cons_self ..)
        refine s_app F6.dn (ev_var rfl) (ix e6) ?_ fun G e7 => ?_
        · have := O.len_szs f.ws
          have := F.sz
          omega
        · have I7 := I6.ext e7
          obtain ⟨J, lt⟩ := I7.done (y := y) hx (by rw [strip_id hL]; exact hyo.ext I7.ex)
          exact ⟨_, lt, _, _, _, rfl, J, rfl⟩
end
end K24

set_option Elab.async false
set_option linter.all false
set_option maxRecDepth 100000
set_option maxHeartbeats 4000000
/-! Words fit. -/
namespace K24
open PySem PySem.Spec PyProof.Rows L2 Evl
def headB (h : O) (n : Nat) : Bool := match h with
  | .str s => decide (n ≤ 6) && nameB s
  | _ => false
mutual
def O.fit : O → Bool
  | .str s => varB s
  | .lst xs => O.fitL xs
  | .tup xs => O.fitL xs
  | .non => false | .bl _ => false | .int _ => false | .dct => false
def O.fitL : List O → Bool
  | [] => false
  | h :: as => headB h as.length && O.fits as
def O.fits : List O → Bool
  | [] => true
  | x :: xs => x.fit && O.fits xs
end
mutual
def O.ss : O → Bool
  | .str s => SS.contains s
  | .lst xs => O.sss xs
  | .tup xs => O.sss xs
  | .non => true | .bl _ => true | .int _ => true | .dct => true
def O.sss : List O → Bool
  | [] => true
  | x :: xs => x.ss && O.sss xs
end
def placesL : List O → Bool
  | [] => false
  | h :: as => headB h as.length
def O.placesB : O → Bool
  | .lst xs => placesL xs
  | .tup xs => placesL xs
  | _ => false
theorem fits_app : ∀ (xs ys : List O), O.fits (xs ++ ys) = (O.fits xs && O.fits ys)
  | [], ys => by simp [O.fits]
  | x :: xs, ys => by
    show (x.fit && O.fits (xs ++ ys)) = (x.fit && O.fits xs && O.fits ys)
    rw [fits_app xs ys, Bool.and_assoc]
theorem sss_app : ∀ (xs ys : List O), O.sss (xs ++ ys) = (O.sss xs && O.sss ys)
  | [], ys => by simp [O.sss]
  | x :: xs, ys => by
    show (x.ss && O.sss (xs ++ ys)) = (x.ss && O.sss xs && O.sss ys)
    rw [sss_app xs ys, Bool.and_assoc]
theorem seq_ss (b : Bool) (xs : List O) : (O.seq b xs).ss = O.sss xs := by cases b <;> rfl
theorem seq_fit (b : Bool) (xs : List O) : (O.seq b xs).fit = O.fitL xs := by cases b <;> rfl
theorem seq_places (b : Bool) (xs : List O) : (O.seq b xs).placesB = placesL xs := by cases b <;> rfl
theorem str_ss {s : Str} (h : (O.str s).ss = true) : s ∈ SS := List.contains_iff_mem.mp h
section
variable {K : PySem.W.Frag} {σ : L2.St} {H G : Hp} {te ta tb : TE} {v : V} {D : Ends} {tz : TS}
theorem el_listQ {b : Bool} {p : Addr} {xs : List V} (ha : Ev ta σ H (.ref p)) (h : SqB H b p xs) : EvL (tCB (rListS K) (tCons ta tNil)) σ H xs := fun H1 e Q q =>
  ha H1 e _ fun H2 e2 => ⟨p, xs, rfl, by
    cases b with
    | true => exact .inl (sq_of (h.ext (e.trans e2)))
    | false => exact .inr (st_of (h.ext (e.trans e2))), fun l hl => q l _ (fresh_back e2 hl) (e2.trans (Ex.new hl)) upd_same⟩
/-- k not in d -/
theorem ev_notInD {ty td : TE} {d : Addr} {kvs : List (Key × V)} {k : Key} (h1 : Ev ty σ H (kV k)) (h2 : Ev td σ H (.ref d)) (hd : H d = some (.dK kvs)) : Ev (tDNotIn ty td) σ H (.bl (!(valV kvs k).isSome)) := fun H1 e Q q =>
  h1 H1 e _ fun H2 e2 => h2 H2 (e.trans e2) _ fun H3 e3 => ⟨d, _, rfl, DGet.k (e3 _ _ (e2 _ _ (e _ _ hd))), q H3 (e2.trans e3)⟩
/-- d[k] = v -/
theorem s_dput {td ty tv : TE} {d : Addr} {kvs : List (Key × V)} {k : Key} (hd : H d = some (.dK kvs)) (h2 : Ev tv σ H v) (h1 : Ev td σ H (.ref d)) (h0 : Ev ty σ H (kV k)) (hl : kvs.length < 100000) (q : ∀ H1, Ex H H1 → D.nx σ (upd H1 d (.dK (putK kvs k v)))) : sDPut td ty tv D σ H :=
  h2 H (Ex.refl H) _ fun H1 e1 => h1 H1 e1 _ fun H2 e2 => h0 H2 (e1.trans e2) _ fun H3 e3 => ⟨d, _, rfl, DPut.k (e3 _ _ (e2 _ _ (e1 _ _ hd))) (sz_lt hl), q H3 ((e1.trans e2).trans e3)⟩
end
theorem putK_new {kvs : List (Key × V)} {k : Key} {v : V} (h : valV kvs k = none) : putK kvs k v = kvs ++ [(k, v)] := by
  unfold putK
  have q : (kvs.any fun kv => decide (kv.1 = k)) = false := by
    rw [List.any_eq_false]
    intro p hp e
    have e1 : p.1 = k := of_decide_eq_true e
    unfold valV at h
    have := List.find?_eq_none.mp (Option.map_eq_none_iff.mp h) p hp
    exact this (decide_eq_true e1)
  rw [q]
  rfl
theorem valV_mem {kvs : List (Key × V)} {k : Key} (h : (valV kvs k).isSome = true) : ∃ v, (k, v) ∈ kvs := by
  unfold valV at h
  cases e : kvs.find? fun kv => decide (kv.1 = k) with
  | none => rw [e] at h; cases h
  | some p =>
    have h1 := List.find?_some e
    have h2 := List.mem_of_find?_eq_some e
    have e1 : p.1 = k := of_decide_eq_true h1
    exact ⟨p.2, by rw [← e1]; exact h2⟩
section
variable {P : Program} {w : World} {K : PySem.W.Frag} {mg : Str → Option Value} {base : Heap}
def spPl : Sp := fun vs H Q _ => ∃ v o, vs = [v, .non] ∧ OV H v o ∧ o.ss = true ∧ RetV (.bl o.placesB) H Q
theorem spv_pl {v : V} {o : O} {H : Hp} (h : OV H v o) (hs : o.ss = true) : SpV spPl ([v, .non] ++ []) H (.bl o.placesB) := fun H1 e Q q E => ⟨v, o, rfl, h.ext e, hs, q⟩
theorem sc_places : FnScope ["thing", "arities"] ["thing", "arities"] (defScope s_has_places) := ⟨rfl, rfl, rfl, by decide +kernel, rfl, by decide +kernel, by decide +kernel⟩
theorem ok_has_places (T : T24 P w K mg base) : Ok P w K mg base CX0 "has_places" ["thing", "arities"] 3 spPl := by
  obtain ⟨tl, mMo⟩ := T.most
  obtain ⟨fN, dN, GN, bN, kN, mN⟩ := (ok_is_name T).ex
  refine T.ok 12 rfl sc_places (fun vs H Q E h => ?_) (fun kV doc pm an cdv ct us hl => match us, hl with | [_, _], _ => rfl) (fun f cdv A outer s H vs Q E hr h => ?_)
  · obtain ⟨v, z, rfl, _⟩ := h
    rfl
  · obtain ⟨v, z, rfl, hw, hss, k⟩ := h
    refine ⟨_, pss_cons (ps_if (PW.pt (pw_or (pt_not (pt_val (pe_isiLT T.isi T.list T.tuple (pv 0)))) (pw_or (pt_cmpR op_eq (pe_callB call_len (by rfl) T.len PySem.boot_len (pa_cons (pv 0) pa_nil)) pe_int (nomark _))
        (pw_or1 (pt_not (pt_val (pe_isiB T.isi T.str PyProof.Rows.boot_str (pe_ix ix_seq (pv 0) pe_int (fun _ _ => rfl))))))))) (pss_one (ps_ret pe_bl)) pss_nil)
      (pss_cons (ps_if (pt_cmp (pc_isN (pv 1))) (pss_one (ps_ret (pe_and (pe_cmpR op_le (pe_callB call_len (by rfl) T.len PySem.boot_len (pa_cons (pv 0) pa_nil)) (pe_op op_add (pe_glob (v := .int 6) rfl mMo ⟨_, rfl⟩) pe_int) (nomark _))
        (pe_one (pe_call GN hr (by rfl) mN kN bN .nil pass0 (pa_cons (pe_ix ix_seq (pv 0) pe_int (fun _ _ => rfl)) pa_nil)))))) pss_nil)
      (pss_one ps_never)), ?_⟩
    cases hq : z.isLst || z.isTup with
    | false =>
      refine q_when (b := true) (et_is (et_or (a := true) (b := true) (et_is (et_not (et_B (ev_isSeq (ev_var rfl) hw))) (by rw [hq]; rfl)) fun z => nomatch z) rfl) (fun _ H1 e1 => ?_) fun z => nomatch z
      refine s_ret (ev_is ev_c ?_) fun H2 e2 => k H2 (e1.trans e2)
      cases z with
      | lst xs => cases hq
      | tup xs => cases hq
      | _ => rfl
    | true =>
      obtain ⟨b, xs, rfl⟩ := O.seq_of hq
      obtain ⟨a, us, rfl, ha, hov⟩ := hw.seq
      have hsq : SqB H b a us := ha
      rw [seq_places] at k
      rw [seq_ss] at hss
      match xs, hov, hss, k with
      | [], hov, hss, k =>
        obtain rfl : us = [] := hov
        refine q_when (b := true) (et_is (et_or (a := false) (b := true) (et_is (et_not (et_B (ev_isSeq (ev_var rfl) hw))) (by rw [hq]; rfl)) fun _ => et_or (a := true) (b := true) (et_is (et_test (ev_op (ev_lenQ (ev_var rfl) hsq) ev_c (rv_eq rfl))) (by decide)) fun z => nomatch z) rfl) (fun _ H1 e1 => ?_) fun z => nomatch z
        exact s_ret ev_c fun H2 e2 => k H2 (e1.trans e2)
      | h :: as, ⟨u, us', e0, hu, has⟩, hss, k =>
        subst e0
        obtain ⟨hh, hr2⟩ := Bool.and_eq_true_iff.mp hss
        have ev0 : ∀ {G : Hp}, Ex H G → Ev (tOp (rIxQ K) (tVar 0) (tC (.int 0))) [some (.ref a), some .non] G u := fun e => ev_op (ev_var rfl) ev_c (rv_ixQ (hsq.ext e) (atI_nat (j := 0) rfl))
        have hl : (u :: us').length = us'.length + 1 := rfl
        have hal := has.length
        have e12 : decide (V.int (((u :: us').length : Nat) : Int) = V.int 0) = false := decide_eq_false (by rw [hl]; intro q; have := V.int.inj q; omega)
        cases hst : h.isStr with
        | false =>
          refine q_when (b := true) (et_is (et_or (a := false) (b := true) (et_is (et_not (et_B (ev_isSeq (ev_var rfl) hw))) (by rw [hq]; rfl)) fun _ => et_is (et_or (a := false) (b := true) (et_is (et_test (ev_op (ev_lenQ (ev_var rfl) hsq) ev_c (rv_eq rfl))) e12) fun _ =>
            et_is (et_not (et_B (ev_isStr (ev0 (Ex.refl _)) hu))) (by rw [hst]; rfl)) rfl) rfl) (fun _ H1 e1 => ?_) fun z => nomatch z
          refine s_ret (ev_is ev_c ?_) fun H2 e2 => k H2 (e1.trans e2)
          cases h with
          | str s => cases hst
          | _ => rfl
        | true =>
          obtain ⟨s, rfl⟩ : ∃ s, h = .str s := by
            cases h with
            | str s => exact ⟨s, rfl⟩
            | _ => cases hst
          obtain rfl : u = .str s := hu
          refine q_when (b := false) (et_is (et_or (a := false) (b := false) (et_is (et_not (et_B (ev_isSeq (ev_var rfl) hw))) (by rw [hq]; rfl)) fun _ => et_is (et_or (a := false) (b := false) (et_is (et_test (ev_op (ev_lenQ (ev_var rfl) hsq) ev_c (rv_eq rfl))) e12) fun _ =>
            et_is (et_not (et_B (ev_isStr (o := .str s) (ev0 (Ex.refl _)) rfl))) rfl) rfl) rfl) (fun z => nomatch z) fun _ H1 e1 => ?_
          refine q_when (b := true) (et_test (ev_isN (ev_var rfl) rfl)) (fun _ H2 e2 => ?_) (fun z => nomatch z)
          refine s_ret (ev_is (ev_andV (ev_op (ev_lenQ (ev_var rfl) (hsq.ext (e1.trans e2))) (ev_op ev_c ev_c rv_I0) rv_I0) fun _ => ev_call (ea_cons (ev0 (e1.trans e2)) ea_nil) (spv_S (str_ss hh))) ?_) fun H3 e3 => k H3 ((e1.trans e2).trans e3)
          show V.bl (decide ((((V.str s :: us').length : Nat) : Int) ≤ 6 + 1) && nameB s) = V.bl (decide (as.length ≤ 6) && nameB s)
          have e : decide ((((V.str s :: us').length : Nat) : Int) ≤ 6 + 1) = decide (as.length ≤ 6) := by
            by_cases q : as.length ≤ 6
            · rw [decide_eq_true q, decide_eq_true (by rw [show (V.str s :: us').length = us'.length + 1 from rfl]; omega)]
            · rw [decide_eq_false q, decide_eq_false (by rw [show (V.str s :: us').length = us'.length + 1 from rfl]; omega)]
          rw [e]
end
end K24

set_option Elab.async false
set_option linter.all false
set_option maxRecDepth 100000
set_option maxHeartbeats 4000000
/-! Words fit, further. -/
namespace K24
open PySem PySem.Spec PyProof.Rows L2 Evl
section
variable {P : Program} {w : World} {K : PySem.W.Frag} {mg : Str → Option Value} {base : Heap}
def spFit : Sp := fun vs H Q _ => ∃ (a : Addr) (b : Bool) (us : List V) (os : List O), vs = [.ref a, .non, .non] ∧ SqB H b a us ∧ OVs H us os ∧ O.sss os = true ∧ O.szs os ≤ 9000 ∧ RetV (.bl (O.fits os)) H Q
abbrev nFit : List Str := ["words", "functions", "scope", "stood", "work", "part"]
theorem sc_fit : FnScope nFit ["words", "functions", "scope"] (defScope s_words_fit) := ⟨rfl, rfl, rfl, by decide +kernel, rfl, by decide +kernel, by decide +kernel⟩
theorem ok_words_fit (T : T24 P w K mg base) : Ok P w K mg base CX0 "words_fit" ["words", "functions", "scope"] 4 spFit := by
  obtain ⟨fN, dN, GN, bN, kN, mN⟩ := (ok_has_places T).ex
  obtain ⟨fV, dV, GV, bV, kV', mV⟩ := (ok_is_variable T).ex
  refine T.ok 13 rfl sc_fit (fun vs H Q E h => ?_) (fun kV doc pm an cdv ct us hl => match us, hl with | [_, _, _], _ => rfl) (fun f cdv A outer s H vs Q E hr h => ?_)
  · obtain ⟨a, b, us, os, rfl, _⟩ := h
    rfl
  · obtain ⟨a, b, us, os, rfl, ha, hov, hss, hz, k⟩ := h
    refine ⟨_, pss_cons (ps_set (i := 3) sc_fit.nd rfl (Or.inl rfl) pe_dnewK)
      (pss_cons (ps_set (i := 4) sc_fit.nd rfl (Or.inl rfl) (pe_callTy call_list_of (by rfl) T.list PyProof.Rows.boot_list (pa_cons (pv 0) pa_nil)))
      (pss_cons (ps_while PassesOwn.never (pt_truth (pv 4) (by intro _; rfl))
        (pss_cons (ps_set (i := 5) sc_fit.nd rfl (Or.inl rfl) (pe_bm0 PySem.F.plainAttrs_list PySem.F.slot_list_pop PySem.F.type_list_pop mt_pop (pv 4)))
        (pss_one (ps_if (pt_not (pt_val (pe_isiB T.isi T.str PyProof.Rows.boot_str (pv 5))))
          (pss_cons (ps_if (pt_not (pt_val (pe_call GN hr (by rfl) mN kN bN .nil pass0 (pa_cons (pv 5) (pa_cons (pv 1) pa_nil))))) (pss_one (ps_ret pe_bl)) pss_nil)
            (pss_one (ps_expr (pe_bm PySem.F.plainAttrs_list PySem.F.slot_list_extend PySem.F.type_list_extend mt_extQ (pv 4) (pa_cons (pe_slice sl_seq (pv 5) (po_some pe_int) po_none) pa_nil)))))
          (pss_one (ps_if (pt_cmp (pc_dnotin (hu_of hr) (pv 5) (pv 3)))
            (pss_cons (ps_if (PW.pt (pw_or (pt_not (pt_val (pe_call GV (hr.mono (by decide)) (by rfl) mV kV' bV .nil pass0 (pa_cons (pv 5) pa_nil)))) (pw_or1 (PW.pt (pw_and (pt_cmp (pc_notN (pv 2))) (pw_and1 (pt_cmp (pc_dnotin (hu_of hr) (pv 5) (pv 2))))))))) (pss_one (ps_ret pe_bl)) pss_nil)
              (pss_one (ps_dput (hu_of hr) (pv 3) (pv 5) pe_bl rfl))) pss_nil))))))
      (pss_one (ps_ret pe_bl)))), ?_⟩
    intro d hd
    have e0 : Ex H (upd H d (.dK [])) := Ex.new hd
    refine q_asgL (el_listQ (ev_var rfl) (ha.ext e0)) fun p H1 hp e1 h1 => ?_
    have hp0 : H p = none := fresh_back e0 hp
    have hpd : p ≠ d := fun z => by
      rw [z, upd_same] at hp
      cases hp
    refine q_while (fun m σ' H' => ∃ (xs : List V) (ts : List O) (kvs : List (Key × V)) (o : Option V), σ' = [some (.ref a), some .non, some .non, some (.ref d), some (.ref p), o] ∧ Ex H H' ∧ H' p = some (.lst xs) ∧ H' d = some (.dK kvs) ∧ OVs H xs ts ∧ m = O.szs ts ∧ kvs.length + m ≤ 9000 ∧ O.sss ts = true ∧
        (∀ q ∈ kvs, ∃ s, q.1 = Sum.inr s ∧ varB s = true) ∧ O.fits ts = O.fits os) (O.szs os)
      ⟨us, os, [], none, rfl, e0.trans e1, h1, e1 _ _ upd_same, hov, rfl, by simpa using hz, hss, (fun q hq => absurd hq (by simp)), rfl⟩ ?_
    rintro m σ' H' ⟨xs, ts, kvs, o, rfl, e2, h2, h2d, tv, hm, hm2, hss', hkv, hres⟩
    refine ⟨!xs.isEmpty, et_truL (ev_var rfl) (SqL.of h2), fun hb H3 e3 => ?_, fun hb H3 e3 => ?_⟩
    · rcases List.eq_nil_or_concat ts with ht | ⟨ts', t, ht⟩
      · subst ht
        rw [show xs = [] from tv] at hb
        exact absurd hb (by decide)
      rw [List.concat_eq_append] at ht
      subst ht
      obtain ⟨us', x, rfl, tv1, tvx⟩ := OVs.snoc tv
      have hsum := O.szs_app ts' [t]
      have hs1 : O.szs [t] = t.sz := by simp [O.szs]
      have hlen := O.len_szs ts'
      have hle := tv1.length
      have tp := t.sz_pos
      rw [fits_app, show O.fits [t] = t.fit by simp [O.fits]] at hres
      rw [sss_app, show O.sss [t] = t.ss by simp [O.sss]] at hss'
      obtain ⟨hs1', hs2'⟩ := Bool.and_eq_true_iff.mp hss'
      refine ⟨fun σ2 H2 => ∃ m', m' < m ∧ ∃ (xs : List V) (ts : List O) (kvs : List (Key × V)) (o : Option V), σ2 = [some (.ref a), some .non, some .non, some (.ref d), some (.ref p), o] ∧ Ex H H2 ∧ H2 p = some (.lst xs) ∧ H2 d = some (.dK kvs) ∧ OVs H xs ts ∧ m' = O.szs ts ∧ kvs.length + m' ≤ 9000 ∧ O.sss ts = true ∧
        (∀ q ∈ kvs, ∃ s, q.1 = Sum.inr s ∧ varB s = true) ∧ O.fits ts = O.fits os, fun σ2 H2 z => z, ?_⟩
      refine q_pop (e3 _ _ h2) (ev_var rfl) fun H4 e4 => ?_
      have e5 : Ex H (upd H4 p (.lst us')) := Ex.mut ((e2.trans e3).trans e4) hp0
      have h5d : (upd H4 p (.lst us')) d = some (.dK kvs) := by
        rw [upd_ne hpd.symm]
        exact e4 _ _ (e3 _ _ h2d)
      have tvx5 := tvx.ext e5
      refine s_if (b := !t.isStr) (et_not (et_B (ev_isStr (ev_var rfl) tvx5))) (fun hS H5 e6 => ?_) fun hS H5 e6 => ?_
      · have hns : t.isStr = false := by simpa using hS
        refine q_when (b := !t.placesB) (et_not (et_B (ev_call (ea_cons (ev_var rfl) (ea_cons (ev_var rfl) ea_nil)) (spv_pl (tvx5.ext e6) hs2')))) (fun hP H6 e7 => ?_) fun hP H6 e7 => ?_
        · have hnp : t.placesB = false := by simpa using hP
          refine s_ret (ev_is ev_c ?_) fun G e8 => k G (((e5.trans e6).trans e7).trans e8)
          have hf : t.fit = false := by
            cases t with
            | lst xs =>
              cases xs with
              | nil => rfl
              | cons h as => show (headB h as.length && O.fits as) = false; rw [show headB h as.length = false from hnp]; rfl
            | tup xs =>
              cases xs with
              | nil => rfl
              | cons h as => show (headB h as.length && O.fits as) = false; rw [show headB h as.length = false from hnp]; rfl
            | str s => cases hns
            | _ => rfl
          rw [← hres, hf, Bool.and_false]
        · have hp1 : t.placesB = true := by simpa using hP
          obtain ⟨b2, ys, rfl⟩ : ∃ b ys, t = O.seq b ys := by
            cases t with
            | lst xs => exact ⟨true, xs, rfl⟩
            | tup xs => exact ⟨false, xs, rfl⟩
            | _ => cases hp1
          rw [seq_places] at hp1
          rw [seq_ss] at hs2'
          rw [seq_fit] at hres
          rw [O.seq_sz] at hs1
          obtain ⟨r, as, rfl, hr', hya⟩ := tvx.seq
          match ys, hp1, hya, hs2', hres, hs1 with
          | hd1 :: tl1, hp1, ⟨u, us2, e0', hu, has⟩, hs2', hres, hs1 =>
            subst e0'
            have hh1 : headB hd1 tl1.length = true := hp1
            have hres2 : (O.fits ts' && O.fits tl1) = O.fits os := by
              rw [← hres]
              show _ = (O.fits ts' && (headB hd1 tl1.length && O.fits tl1))
              rw [hh1, Bool.true_and]
            have hsz2 : O.szs (hd1 :: tl1) = hd1.sz + O.szs tl1 := rfl
            have hdp := hd1.sz_pos
            have hal := has.length
            have hlt := O.len_szs tl1
            have e8 := (e5.trans e6).trans e7
            have hr8 : SqB H6 b2 r (u :: us2) := e8 _ _ hr'
            refine s_extQ ((e6.trans e7) _ _ upd_same) (ev_var rfl) (eq_tail (ev_var rfl) hr8) (by omega) fun H7 e9 => ?_
            have e10 := (e6.trans e7).trans e9
            refine ⟨O.szs (ts' ++ tl1), by rw [O.szs_app]; omega, us' ++ us2, ts' ++ tl1, kvs, _, rfl, Ex.mut (e8.trans e9) hp0, upd_same, by rw [upd_ne hpd.symm]; exact e10 _ _ h5d, tv1.append has, rfl, by rw [O.szs_app]; omega, ?_, hkv, by rw [fits_app]; exact hres2⟩
            rw [sss_app, hs1', (Bool.and_eq_true_iff.mp hs2').2]
            rfl
      · have hst : t.isStr = true := by simpa using hS
        obtain ⟨s, rfl⟩ : ∃ s, t = .str s := by
          cases t with
          | str s => exact ⟨s, rfl⟩
          | _ => cases hst
        obtain rfl : x = .str s := tvx
        have hms : s ∈ SS := str_ss hs2'
        have hsz1 : (O.str s).sz = 1 := rfl
        refine s_when (b := !(valV kvs (Sum.inr s)).isSome) (et_B (ev_notInD (k := Sum.inr s) (ev_var rfl) (ev_var rfl) (e6 _ _ h5d))) (fun hN H6 e7 => ?_) fun hN H6 e7 => ?_
        · have hnone : valV kvs (Sum.inr s : Key) = none := by
            cases q : valV kvs (Sum.inr s : Key) with
            | none => rfl
            | some y => rw [q] at hN; cases hN
          refine q_when (b := !varB s) (et_is (et_or (b := false) (et_not (et_B (ev_call (ea_cons (ev_var rfl) ea_nil) (spv_S hms)))) fun _ => et_is (et_and (a := false) (b := false) (et_B (ev_notN (ev_var rfl) rfl)) fun z => nomatch z) rfl) (Bool.or_false _)) (fun hV H7 e8 => ?_) fun hV H7 e8 => ?_
          · have hv0 : varB s = false := by simpa using hV
            refine s_ret (ev_is ev_c ?_) fun G e9 => k G ((((e5.trans e6).trans e7).trans e8).trans e9)
            rw [← hres, show (O.str s).fit = varB s from rfl, hv0, Bool.and_false]
          · have hv1 : varB s = true := by simpa using hV
            have e9 := (e6.trans e7).trans e8
            refine s_dput (k := Sum.inr s) (e9 _ _ h5d) ev_c (ev_var rfl) (ev_var rfl) (by omega) fun H8 e10 => ?_
            rw [putK_new hnone]
            refine ⟨O.szs ts', by omega, us', ts', _, _, rfl, Ex.mut ((e5.trans e9).trans e10) hd, ?_, upd_same, tv1, rfl, by rw [List.length_append, List.length_singleton]; omega, hs1', fun q hq => ?_, ?_⟩
            · rw [upd_ne hpd]
              exact e10 _ _ (e9 _ _ upd_same)
            · rcases List.mem_append.mp hq with hq | hq
              · exact hkv q hq
              · obtain rfl : q = (Sum.inr s, V.bl true) := by simpa using hq
                exact ⟨s, rfl, hv1⟩
            · rw [← hres, show (O.str s).fit = varB s from rfl, hv1, Bool.and_true]
        · have hsome : (valV kvs (Sum.inr s : Key)).isSome = true := by
            cases q : valV kvs (Sum.inr s : Key) with
            | none => rw [q] at hN; cases hN
            | some y => rfl
          obtain ⟨v, hv⟩ := valV_mem hsome
          obtain ⟨s', es, hv1⟩ := hkv _ hv
          obtain rfl : s = s' := Sum.inr.inj es
          refine ⟨O.szs ts', by omega, us', ts', kvs, _, rfl, (e5.trans e6).trans e7, (e6.trans e7) _ _ upd_same, (e6.trans e7) _ _ h5d, tv1, rfl, by omega, hs1', hkv, ?_⟩
          rw [← hres, show (O.str s).fit = varB s from rfl, hv1, Bool.and_true]
    · have hx : xs = [] := by
        cases xs with
        | nil => rfl
        | cons _ _ => cases hb
      have ht : ts = [] := by
        have := tv.length
        rw [hx] at this
        exact List.length_eq_zero_iff.mp this.symm
      rw [ht] at hres
      refine s_ret (ev_is ev_c ?_) fun H4 e4 => k H4 ((e2.trans e3).trans e4)
      rw [← hres]
      rfl
end
end K24

set_option Elab.async false
set_option linter.all false
set_option maxRecDepth 100000
set_option maxHeartbeats 4000000
/-! Atoms fit; an own error raised. -/
namespace K24
open PySem PySem.Spec PyProof.Rows L2 Evl
def eqL : List O → Bool
  | [.str s, _, _] => s == "="
  | _ => false
def O.eqB : O → Bool
  | .lst xs => eqL xs
  | .tup xs => eqL xs
  | _ => false
/-- of three things the first is a text -/
def e3L : List O → Bool
  | [h, _, _] => h.isStr
  | _ => true
def O.e3 : O → Bool
  | .lst xs => e3L xs
  | .tup xs => e3L xs
  | _ => true
def tailL : List O → Bool
  | [] => false
  | _ :: as => O.fits as
def O.fitA : O → Bool
  | .lst xs => (eqL xs || placesL xs) && tailL xs
  | .tup xs => (eqL xs || placesL xs) && tailL xs
  | _ => false
def O.fitW (o : O) : Bool := o.fit || o.fitA
theorem seq_eqB (b : Bool) (xs : List O) : (O.seq b xs).eqB = eqL xs := by cases b <;> rfl
theorem seq_e3 (b : Bool) (xs : List O) : (O.seq b xs).e3 = e3L xs := by cases b <;> rfl
theorem seq_fitA (b : Bool) (xs : List O) : (O.seq b xs).fitA = ((eqL xs || placesL xs) && tailL xs) := by cases b <;> rfl
theorem head_nod {h : O} {n : Nat} (k : headB h n = true) : h.nod = true := by
  cases h with
  | str s => rfl
  | _ => cases k
mutual
theorem fit_nod : ∀ {o : O}, o.fit = true → o.nod = true
  | .str _, _ => rfl
  | .lst xs, h => fitL_nod (xs := xs) h
  | .tup xs, h => fitL_nod (xs := xs) h
  | .non, h => nomatch h
  | .bl _, h => nomatch h
  | .int _, h => nomatch h
  | .dct, h => nomatch h
theorem fitL_nod : ∀ {xs : List O}, O.fitL xs = true → O.nods xs = true
  | [], h => nomatch h
  | h :: as, k => by
    obtain ⟨a, b⟩ := Bool.and_eq_true_iff.mp k
    show (h.nod && O.nods as) = true
    rw [head_nod a, fits_nod b]
    rfl
theorem fits_nod : ∀ {xs : List O}, O.fits xs = true → O.nods xs = true
  | [], _ => rfl
  | x :: xs, k => by
    obtain ⟨a, b⟩ := Bool.and_eq_true_iff.mp k
    show (x.nod && O.nods xs) = true
    rw [fit_nod a, fits_nod b]
    rfl
end
theorem fitA_nodL {xs : List O} (k : ((eqL xs || placesL xs) && tailL xs) = true) : O.nods xs = true := by
  obtain ⟨a, b⟩ := Bool.and_eq_true_iff.mp k
  match xs, a, b with
  | h :: as, a, b =>
    have hh : h.nod = true := by
      rcases Bool.or_eq_true_iff.mp a with q | q
      · cases h with
        | str s => rfl
        | _ => cases q
      · exact head_nod q
    show (h.nod && O.nods as) = true
    rw [hh, fits_nod (show O.fits as = true from b)]
    rfl
theorem fitW_nod {o : O} (h : o.fitW = true) : o.nod = true := by
  rcases Bool.or_eq_true_iff.mp h with q | q
  · exact fit_nod q
  · cases o with
    | lst xs => exact fitA_nodL q
    | tup xs => exact fitA_nodL q
    | _ => cases q
section
variable {K : PySem.W.Frag} {σ : L2.St} {H G : Hp} {te ta tb : TE} {v : V} {D : Ends} {tz : TS}
/-- a call with a new list or tuple ahead -/
theorem ev_callNQ {sp : Sp} {vs dvs xs : List V} {E : XK} {tr : TA} {z : V} (h : EvQ te σ H xs) (hr : EvA tr σ H vs) (hp : ∀ b p H1, Ex H H1 → SqB H1 b p xs → SpV sp ((.ref p :: vs) ++ dvs) H1 z) : Ev (tCall sp dvs E (tCons te tr)) σ H z := fun H1 e Q q =>
  h H1 e _ fun b p H2 _ e2 h2 => hr H2 (e.trans e2) _ fun H3 e3 => hp b p H3 ((e.trans e2).trans e3) (h2.ext e3) H3 (Ex.refl _) Q (fun H4 e4 => q H4 ((e2.trans e3).trans e4)) E
end
section
variable {P : Program} {w : World} {K : PySem.W.Frag} {mg : Str → Option Value} {base : Heap}
def spF (n : Nat) (f : O → Bool) : Sp := fun vs H Q _ => ∃ v o, vs = v :: List.replicate n .non ∧ OV H v o ∧ o.ss = true ∧ o.sz ≤ 8000 ∧ o.e3 = true ∧ RetV (.bl (f o)) H Q
theorem spF_len {n : Nat} {f : O → Bool} {vs : List V} {H : Hp} {Q : VK} {E : XK} (h : spF n f vs H Q E) : vs.length = n + 1 := by
  obtain ⟨v, o, rfl, _⟩ := h
  simp
theorem sc_wf : FnScope ["thing", "functions", "scope"] ["thing", "functions", "scope"] (defScope s_word_fits) := ⟨rfl, rfl, rfl, by decide +kernel, rfl, by decide +kernel, by decide +kernel⟩
theorem ok_word_fits (T : T24 P w K mg base) : Ok P w K mg base CX0 "word_fits" ["thing", "functions", "scope"] 5 (spF 2 O.fit) := by
  obtain ⟨fN, dN, GN, bN, kN, mN⟩ := (ok_words_fit T).ex
  refine T.ok 14 rfl sc_wf (fun vs H Q E h => spF_len h) (fun kV doc pm an cdv ct us hl => match us, hl with | [_, _, _], _ => rfl) (fun f cdv A outer s H vs Q E hr h => ?_)
  obtain ⟨v, z, rfl, hw, hss, hz, _, k⟩ := h
  refine ⟨_, pss_one (ps_ret (pe_call GN hr (by rfl) mN kN bN .nil pass0 (pa_cons (pe_lst (pa_cons (pv 0) pa_nil)) (pa_cons (pv 1) (pa_cons (pv 2) pa_nil))))), ?_⟩
  refine s_ret (ev_is (ev_callNL (el_lst (ea_cons (ev_var rfl) ea_nil) (by show 1 ≤ 100000; decide)) (ea_cons (ev_var rfl) (ea_cons (ev_var rfl) ea_nil)) fun p H1 e1 h1 H2 e2 Q q E => ⟨p, true, [v], [z], rfl, e2 _ _ h1, .cons (hw.ext (e1.trans e2)) .nil, by simp [O.sss, hss], by simp [O.szs]; omega, q⟩) ?_) k
  simp [O.fits]
theorem sc_eq : FnScope ["thing"] ["thing"] (defScope s_is_equality) := ⟨rfl, rfl, rfl, by decide +kernel, rfl, by decide +kernel, by decide +kernel⟩
theorem ok_is_equality (T : T24 P w K mg base) : Ok P w K mg base CX0 "is_equality" ["thing"] 2 (spF 0 O.eqB) := by
  obtain ⟨fL, dL, GL, bL, kL, mL⟩ := (ok_is_list T).ex
  refine T.ok 15 rfl sc_eq (fun vs H Q E h => spF_len h) (fun kV doc pm an cdv ct us hl => match us, hl with | [_], _ => rfl) (fun f cdv A outer s H vs Q E hr h => ?_)
  obtain ⟨v, z, rfl, hw, hss, hz, he3, k⟩ := h
  refine ⟨_, pss_one (ps_ret (pe_and (pe_call GL hr (by rfl) mL kL bL .nil pass0 (pa_cons (pv 0) pa_nil)) (pe_and (pe_cmpR op_eq (pe_callB call_len (by rfl) T.len PySem.boot_len (pa_cons (pv 0) pa_nil)) pe_int (nomark _)) (pe_one (pe_cmpR op_eq (pe_ix ix_seq (pv 0) pe_int (fun _ _ => rfl)) pe_str (nomark _)))))), ?_⟩
  cases hq : z.isLst || z.isTup with
  | false =>
    refine s_ret (ev_is (ev_andV (a := false) (b := false) (ev_is (ev_call (ea_cons (ev_var rfl) ea_nil) (spv_B hw)) (by rw [hq])) fun z => nomatch z) ?_) k
    cases z with
    | lst xs => cases hq
    | tup xs => cases hq
    | _ => rfl
  | true =>
    obtain ⟨b, xs, rfl⟩ := O.seq_of hq
    obtain ⟨a, us, rfl, ha, hov⟩ := hw.seq
    have hsq : SqB H b a us := ha
    rw [seq_eqB] at k
    rw [seq_e3] at he3
    have hul := hov.length
    by_cases h3 : xs.length = 3
    · match xs, h3, hov, he3, k, hul with
      | [h, x, y], h3, ⟨u, us', e0, hu, has⟩, he3, k, hul =>
        subst e0
        obtain ⟨s, rfl⟩ : ∃ s, h = .str s := by
          cases h with
          | str s => exact ⟨s, rfl⟩
          | _ => cases he3
        obtain rfl : u = .str s := hu
        refine s_ret (ev_is (ev_andV (a := true) (ev_is (ev_call (ea_cons (ev_var rfl) ea_nil) (spv_B hw)) (by rw [hq])) fun _ => ev_andV (a := true) (ev_is (ev_op (ev_lenQ (ev_var rfl) hsq) ev_c (rv_eq rfl)) (congrArg V.bl (decide_eq_true (by rw [hul]; rfl)))) fun _ => ev_op (ev_op (ev_var rfl) ev_c (rv_ixQ hsq (atI_nat (j := 0) rfl))) ev_c (rv_eq rfl)) ?_) k
        show V.bl (true && (true && decide (V.str s = V.str "="))) = V.bl (s == "=")
        by_cases q : s = "="
        · subst q
          rfl
        · rw [decide_eq_false (fun z => q (V.str.inj z)), beq_eq_false_iff_ne.mpr q]
          rfl
    · refine s_ret (ev_is (ev_andV (a := true) (b := false) (ev_is (ev_call (ea_cons (ev_var rfl) ea_nil) (spv_B hw)) (by rw [hq])) fun _ => ev_is (ev_andV (a := false) (b := false) (ev_is (ev_op (ev_lenQ (ev_var rfl) hsq) ev_c (rv_eq rfl)) (congrArg V.bl (decide_eq_false (by rw [hul]; intro q; exact h3 (by have := V.int.inj q; omega))))) fun z => nomatch z) rfl) ?_) k
      have e : eqL xs = false := by
        unfold eqL
        split
        · exact absurd rfl h3
        · rfl
      rw [e]
      rfl
theorem spv_F0 {f : O → Bool} {v : V} {o : O} {H : Hp} (h : OV H v o) (hs : o.ss = true) (hz : o.sz ≤ 8000) (h3 : o.e3 = true) : SpV (spF 0 f) ([v] ++ []) H (.bl (f o)) := fun H1 e Q q E => ⟨v, o, rfl, h.ext e, hs, hz, h3, q⟩
theorem sc_af : FnScope ["thing", "functions", "predicates", "scope"] ["thing", "functions", "predicates", "scope"] (defScope s_atom_fits) := ⟨rfl, rfl, rfl, by decide +kernel, rfl, by decide +kernel, by decide +kernel⟩
theorem ok_atom_fits (T : T24 P w K mg base) : Ok P w K mg base CX0 "atom_fits" ["thing", "functions", "predicates", "scope"] 5 (spF 3 O.fitA) := by
  obtain ⟨fE, dE, GE, bE, kE, mE⟩ := (ok_is_equality T).ex
  obtain ⟨fP, dP, GP, bP, kP, mP⟩ := (ok_has_places T).ex
  obtain ⟨fN, dN, GN, bN, kN, mN⟩ := (ok_words_fit T).ex
  refine T.ok 16 rfl sc_af (fun vs H Q E h => spF_len h) (fun kV doc pm an cdv ct us hl => match us, hl with | [_, _, _, _], _ => rfl) (fun f cdv A outer s H vs Q E hr h => ?_)
  obtain ⟨v, z, rfl, hw, hss, hz, he3, k⟩ := h
  refine ⟨_, pss_one (ps_ret (pe_and (pe_or (pe_call GE (hr.mono (by decide)) (by rfl) mE kE bE .nil pass0 (pa_cons (pv 0) pa_nil)) (pe_one (pe_call GP (hr.mono (by decide)) (by rfl) mP kP bP .nil pass0 (pa_cons (pv 0) (pa_cons (pv 2) pa_nil)))))
    (pe_one (pe_call GN hr (by rfl) mN kN bN .nil pass0 (pa_cons (pe_slice sl_seq (pv 0) (po_some pe_int) po_none) (pa_cons (pv 1) (pa_cons (pv 3) pa_nil))))))), ?_⟩
  have hor : Ev (tOrV (tCall (spF 0 O.eqB) [] E0 (tCons (tVar 0) tNil)) (tCall spPl [] E0 (tCons (tVar 0) (tCons (tVar 2) tNil)))) (L2.start ["thing", "functions", "predicates", "scope"] (v :: List.replicate 3 .non)) H (.bl (z.eqB || z.placesB)) :=
    ev_orV (ev_call (ea_cons (ev_var rfl) ea_nil) (spv_F0 hw hss hz he3)) fun _ => ev_call (ea_cons (ev_var rfl) (ea_cons (ev_var rfl) ea_nil)) (spv_pl hw hss)
  cases hb : z.eqB || z.placesB with
  | false =>
    rw [hb] at hor
    refine s_ret (ev_is (ev_andV (a := false) (b := false) hor fun z => nomatch z) ?_) k
    cases z with
    | lst xs => show V.bl false = V.bl ((eqL xs || placesL xs) && tailL xs); rw [show (eqL xs || placesL xs) = false from hb]; rfl
    | tup xs => show V.bl false = V.bl ((eqL xs || placesL xs) && tailL xs); rw [show (eqL xs || placesL xs) = false from hb]; rfl
    | _ => rfl
  | true =>
    rw [hb] at hor
    obtain ⟨b, xs, rfl⟩ : ∃ b xs, z = O.seq b xs := by
      cases z with
      | lst xs => exact ⟨true, xs, rfl⟩
      | tup xs => exact ⟨false, xs, rfl⟩
      | _ => cases hb
    obtain ⟨a, us, rfl, ha, hov⟩ := hw.seq
    have hsq : SqB H b a us := ha
    rw [seq_fitA] at k
    rw [seq_eqB, seq_places] at hb
    rw [seq_ss] at hss
    rw [O.seq_sz] at hz
    match xs, hov, hb, k, hss, hz with
    | h :: as, ⟨u, us', e0, hu, has⟩, hb, k, hss, hz =>
      subst e0
      have hsz : O.szs (h :: as) = h.sz + O.szs as := rfl
      refine s_ret (ev_is (ev_andV (a := true) hor fun _ => ev_callNQ (eq_tail (ev_var rfl) hsq) (ea_cons (ev_var rfl) (ea_cons (ev_var rfl) ea_nil)) fun b p H1 e1 h1 H2 e2 Q q E => ⟨p, b, us', as, rfl, h1.ext e2, has.ext (e1.trans e2), (Bool.and_eq_true_iff.mp hss).2, by omega, q⟩) ?_) k
      rw [hb]
      rfl
theorem sc_iaw : FnScope ["thing"] ["thing"] (defScope s_is_any_word) := ⟨rfl, rfl, rfl, by decide +kernel, rfl, by decide +kernel, by decide +kernel⟩
theorem ok_is_any_word (T : T24 P w K mg base) : Ok P w K mg base CX0 "is_any_word" ["thing"] 6 (spF 0 O.fit) := by
  obtain ⟨fN, dN, GN, bN, kN, mN⟩ := (ok_word_fits T).ex
  refine T.ok 17 rfl sc_iaw (fun vs H Q E h => spF_len h) (fun kV doc pm an cdv ct us hl => match us, hl with | [_], _ => rfl) (fun f cdv A outer s H vs Q E hr h => ?_)
  obtain ⟨v, z, rfl, hw, hss, hz, h3, k⟩ := h
  refine ⟨_, pss_one (ps_ret (pe_call GN hr (by rfl) mN kN bN .nil pass0 (pa_cons (pv 0) (pa_cons pe_non (pa_cons pe_non pa_nil))))), ?_⟩
  exact s_ret (ev_call (ea_cons (ev_var rfl) (ea_cons ev_c (ea_cons ev_c ea_nil))) fun H1 e Q q E => ⟨v, z, rfl, hw.ext e, hss, hz, h3, q⟩) k
theorem sc_iaa : FnScope ["thing"] ["thing"] (defScope s_is_any_atom) := ⟨rfl, rfl, rfl, by decide +kernel, rfl, by decide +kernel, by decide +kernel⟩
theorem ok_is_any_atom (T : T24 P w K mg base) : Ok P w K mg base CX0 "is_any_atom" ["thing"] 6 (spF 0 O.fitA) := by
  obtain ⟨fN, dN, GN, bN, kN, mN⟩ := (ok_atom_fits T).ex
  refine T.ok 18 rfl sc_iaa (fun vs H Q E h => spF_len h) (fun kV doc pm an cdv ct us hl => match us, hl with | [_], _ => rfl) (fun f cdv A outer s H vs Q E hr h => ?_)
  obtain ⟨v, z, rfl, hw, hss, hz, h3, k⟩ := h
  refine ⟨_, pss_one (ps_ret (pe_call GN hr (by rfl) mN kN bN .nil pass0 (pa_cons (pv 0) (pa_cons pe_non (pa_cons pe_non (pa_cons pe_non pa_nil)))))), ?_⟩
  exact s_ret (ev_call (ea_cons (ev_var rfl) (ea_cons ev_c (ea_cons ev_c (ea_cons ev_c ea_nil)))) fun H1 e Q q E => ⟨v, z, rfl, hw.ext e, hss, hz, h3, q⟩) k
end
end K24

set_option Elab.async false
set_option linter.all false
set_option maxRecDepth 100000
set_option maxHeartbeats 4000000
/-! An own error raised; checked words. -/
namespace K24
open PySem PySem.Spec PyProof.Rows L2 Evl
/-- what __init__ leaves of a new error -/
def spI (K : PySem.W.Frag) : Sp := fun vs H Q _ => ∃ (a C : Addr) (x : V), vs = [.ref a, x] ∧ OexC K C ∧ PySem.W.findIn K (.ref C) "thing" = some none ∧ H a = some (exo a C none) ∧
  ∀ d, H d = none → d ≠ a → Q .non (upd (upd H d (exd d [("thing", x)])) a (exo a C (some d)))
section
variable {P : Program} {w : World} {K : PySem.W.Frag} {mg : Str → Option Value} {base : Heap} {qual : Str} {params : Arguments} {scope : Scope} {fI : Addr} {fd : FuncData} {p1 p2 p3 p4 : Pos}
theorem vis_of {N ps : List Str} {sc : Scope} (S : FnScope N ps sc) {x : Str} (h : x ∈ ps) : Vis sc x := by
  rcases S.par x h with q | q
  · exact .inl q
  · exact .inr (.inl q)
theorem ok_init (F : FunD K "__init__" qual params [.Assign [.Attribute (.Name "self" p1) "thing" p2] (.Name "thing" p3) p4] scope [] [] fI fd) (S : FnScope ["self", "thing"] ["self", "thing"] scope) : FnOk P w K mg base CX0 1 fI fd ["self", "thing"] (spI K) := by
  refine F.ok S (fun vs H Q E hs => ?_) (fun cdv A outer s H vs Q E hr hs => ?_)
  · obtain ⟨a, C, x, rfl, _⟩ := hs
    rfl
  · obtain ⟨a, C, x, rfl, T, hno, ha, k⟩ := hs
    refine ⟨_, PSs.nox (pss_one (ps_ost (pe_var (i := 0) rfl (vis_of S (by simp))) (pe_var (i := 1) rfl (vis_of S (by simp))))), ?_⟩
    exact ⟨_, rfl, _, rfl, a, C, rfl, T, hno, .inl ⟨ha, fun dx n ne => k dx n ne⟩⟩
end
/-- raise x(e) -/
def tRz (K : PySem.W.Frag) (C : Addr) (W : WX) (te : TE) : TS := fun _ σ H => tMkO C (spI K) [] (tCons te tNil) σ H fun cls d H' => W cls d σ H'
theorem ps_raiseE {X : Cx} {x : Str} {W : WX} {a : Expr} {te : TE} {p pos pos2 : Pos} (hc : X.calm = true) (T : ErrC X.prog X.w X.K X.mg X.base x) (tk : Takes X W) (hr : Room 2 X.A) (ha : PE X a te) (hg : Gl X x := by rfl)
    (hdb : (x == ("__debug__" : Str)) = false := by decide) (he : starEach (a :: []) X.env = (false, eval a X.env) :: starEach [] X.env := by rfl) (hpl : (backTo pos (starEach [] X.env)).any (·.1) = false := by rfl) :
    PS X (.Raise (some (.Call (.Name x p) [a] [] pos)) none pos2) (tRz X.K (He.ga X.K x) W te) := by
  obtain ⟨fI, fd, p1, p2, p3, p4, params, scope, qual, iC, tI, F, S, B⟩ := T.ini
  have G1 := ok_init (P := X.prog) (w := X.w) (mg := X.mg) (base := X.base) F S
  exact ps_raise hc tk (pmk_oex T.oex iC tI G1 hr B .nil pass0 hg T.gl (pa_cons ha pa_nil he) hdb he hpl)
theorem s_raise {P : Program} {w : World} {K : PySem.W.Frag} {mg : Str → Option Value} {base : Heap} {x : Str} {σ : L2.St} {H : Hp} {te : TE} {v : V} {W : WX} {D : Ends} (T : ErrC P w K mg base x) (h : Ev te σ H v)
    (q : ∀ (d : Addr) (G : Hp), Ex H G → G d = some (.xd [("thing", v)]) → W (.ref (He.ga K x)) (some d) σ G) : tRz K (He.ga K x) W te D σ H :=
  h H (Ex.refl H) _ fun H1 e1 => ⟨by show 1 ≤ 1000; decide, fun a na => ⟨a, _, v, rfl, T.oex, T.no, upd_same, fun d nd ne => ⟨rfl, d, [("thing", v)], upd_same, by rw [upd_ne ne, upd_same], by
    rw [upd_ne ne] at nd
    exact nd, q d _ (fun b o e => by
      rw [upd_ne ne] at nd
      have e2 := e1 _ _ e
      have nbd : b ≠ d := ne_of_none e2 nd
      have nba : b ≠ a := ne_of_none e2 na
      rw [upd_ne nbd, del_ne nba, upd_ne nba, upd_ne nbd, upd_ne nba]
      exact e2) upd_same⟩⟩⟩
/-- a word or an atom, all in it known -/
structure Rd (H : Hp) (v : V) (o : O) : Prop where
  ov : OV H v o
  ss : o.ss = true
  sz : o.sz ≤ 8000
  e3 : o.e3 = true
theorem Rd.ext {H G : Hp} {v : V} {o : O} (e : Ex H G) (h : Rd H v o) : Rd G v o := ⟨h.ov.ext e, h.ss, h.sz, h.e3⟩
section
variable {P : Program} {w : World} {K : PySem.W.Frag} {mg : Str → Option Value} {base : Heap}
/-- an error that keeps v -/
def Bad (K : PySem.W.Frag) (x : Str) (v : V) (H : Hp) (E : XK) : Prop := ∀ (d : Addr) (G : Hp), Ex H G → G d = some (.xd [("thing", v)]) → E (.ref (He.ga K x)) (some d) G
def spCw (K : PySem.W.Frag) : Sp := fun vs H Q E => ∃ v o, vs = [v] ∧ Rd H v o ∧ (o.fitW = true → ∀ (u : V) (G : Hp), Ex H G → OV G u o.strip → Q u G) ∧ (o.fitW = false → Bad K "BadWord" v H E)
theorem sc_cw : FnScope ["thing"] ["thing"] (defScope s_checked_word) := ⟨rfl, rfl, rfl, by decide +kernel, rfl, by decide +kernel, by decide +kernel⟩
theorem ok_checked_word (T : T24 P w K mg base) : Ok P w K mg base (L2.CX P w) "checked_word" ["thing"] 7 (spCw K) := by
  obtain ⟨fN, dN, GN, bN, kN, mN⟩ := (ok_is_any_word T).ex
  obtain ⟨fA, dA, GA, bA, kA, mA⟩ := (ok_is_any_atom T).ex
  obtain ⟨fF, dF, GF, bF, kF, mF⟩ := (ok_frozen T).ex
  refine T.okX 20 rfl sc_cw (fun vs H Q E h => ?_) (fun kV doc pm an cdv ct us hl => match us, hl with | [_], _ => rfl) (fun f cdv A outer s H vs Q E hr h => ?_)
  · obtain ⟨v, z, rfl, _⟩ := h
    rfl
  · obtain ⟨v, z, rfl, hw, k1, k2⟩ := h
    refine ⟨_, pss_cons (ps_if (PW.pt (pw_and (pt_not (pt_val (pe_call GN hr (by rfl) mN kN bN .nil pass0 (pa_cons (pv 0) pa_nil)))) (pw_and1 (pt_not (pt_val (pe_call GA hr (by rfl) mA kA bA .nil pass0 (pa_cons (pv 0) pa_nil)))))))
        (pss_one (ps_raiseE rfl T.bw (takes_of rfl rfl rfl rfl) (hr.mono (by decide)) (pv 0))) pss_nil)
      (pss_one (ps_ret (pe_call GF (hr.mono (by decide)) (by rfl) mF kF bF .nil pass0 (pa_cons (pv 0) pa_nil)))), ?_⟩
    refine q_when (b := !z.fit && !z.fitA) (et_and (et_not (et_B (ev_call (ea_cons (ev_var rfl) ea_nil) (spv_F0 hw.ov hw.ss hw.sz hw.e3)))) fun _ => et_not (et_B (ev_call (ea_cons (ev_var rfl) ea_nil) (spv_F0 hw.ov hw.ss hw.sz hw.e3)))) (fun hb H1 e1 => ?_) fun hb H1 e1 => ?_
    · have hno : z.fitW = false := by
        unfold O.fitW
        cases h1 : z.fit <;> cases h2 : z.fitA <;> simp_all
      exact s_raise T.bw (ev_var rfl) fun d G e hd => k2 hno d G (e1.trans e) hd
    · have hyes : z.fitW = true := by
        unfold O.fitW
        cases h1 : z.fit <;> cases h2 : z.fitA <;> simp_all
      have hsz := hw.sz
      refine ev_var (v := v) rfl H1 (Ex.refl _) _ fun H2 e2 => ?_
      exact ⟨v, z, rfl, hw.ov.ext (e1.trans e2), by omega, fitW_nod hyes, fun u G e hu => k1 hyes u G ((e1.trans e2).trans e) hu⟩
end
end K24

set_option Elab.async false
set_option linter.all false
set_option maxRecDepth 100000
set_option maxHeartbeats 4000000
/-! Right words as trees; places in them. -/
namespace K24
open PySem PySem.Spec PyProof.Rows L2 Evl
inductive W where
  | v (s : Str) | n (s : Str) (as : List W)
mutual
def W.o : W → O
  | .v s => .str s
  | .n s as => .tup (.str s :: W.os as)
def W.os : List W → List O
  | [] => []
  | x :: xs => x.o :: W.os xs
end
mutual
def W.dp : W → Nat
  | .v _ => 0
  | .n _ as => W.dps as + 1
def W.dps : List W → Nat
  | [] => 0
  | x :: xs => max x.dp (W.dps xs)
end
mutual
def W.sz : W → Nat
  | .v _ => 1
  | .n _ as => W.szs as + 2
def W.szs : List W → Nat
  | [] => 0
  | x :: xs => x.sz + W.szs xs
end
def WV (H : Hp) (u : V) (w : W) : Prop := OV H u w.o
def WVs (H : Hp) (us : List V) (ws : List W) : Prop := OVs H us (W.os ws)
mutual
theorem W.noL : ∀ w : W, w.o.hasL = false
  | .v _ => rfl
  | .n _ as => by show (false || O.hasLs (W.os as)) = false; rw [W.noLs as]; rfl
theorem W.noLs : ∀ ws : List W, O.hasLs (W.os ws) = false
  | [] => rfl
  | x :: xs => by show (x.o.hasL || O.hasLs (W.os xs)) = false; rw [W.noL x, W.noLs xs]; rfl
end
mutual
theorem W.nod : ∀ w : W, w.o.nod = true
  | .v _ => rfl
  | .n _ as => by show (true && O.nods (W.os as)) = true; rw [W.nods as]; rfl
theorem W.nods : ∀ ws : List W, O.nods (W.os ws) = true
  | [] => rfl
  | x :: xs => by show (x.o.nod && O.nods (W.os xs)) = true; rw [W.nod x, W.nods xs]; rfl
end
mutual
theorem W.osz : ∀ w : W, w.o.sz = w.sz
  | .v _ => rfl
  | .n _ as => by show (1 + O.szs (W.os as)) + 1 = W.szs as + 2; rw [W.oszs as]; omega
theorem W.oszs : ∀ ws : List W, O.szs (W.os ws) = W.szs ws
  | [] => rfl
  | x :: xs => by show x.o.sz + O.szs (W.os xs) = x.sz + W.szs xs; rw [W.osz x, W.oszs xs]
end
theorem W.os_map : ∀ ws : List W, W.os ws = ws.map W.o
  | [] => rfl
  | x :: xs => congrArg (x.o :: ·) (W.os_map xs)
section
variable {H G : Hp} {u : V} {w : W}
theorem WV.tx (e : Tx H G) (h : WV H u w) : WV G u w := OV.tx e w.noL w.nod h
theorem WV.ext (e : Ex H G) (h : WV H u w) : WV G u w := OV.ext e h
theorem WVs.tx {us : List V} {ws : List W} (e : Tx H G) (h : WVs H us ws) : WVs G us ws := OVs.tx e (W.noLs ws) (W.nods ws) h
theorem WVs.ext {us : List V} {ws : List W} (e : Ex H G) (h : WVs H us ws) : WVs G us ws := OVs.ext e h
theorem WVs.length {us : List V} {ws : List W} (h : WVs H us ws) : us.length = ws.length := by
  rw [OVs.length h, W.os_map, List.length_map]
theorem WVs.get {us : List V} {ws : List W} {i : Nat} {x : W} (h : WVs H us ws) (e : ws[i]? = some x) : ∃ v, us[i]? = some v ∧ WV H v x :=
  OVs.geto h (by rw [W.os_map, List.getElem?_map, e]; rfl)
theorem WVs.getv {us : List V} {ws : List W} {i : Nat} {v : V} (h : WVs H us ws) (e : us[i]? = some v) : ∃ x, ws[i]? = some x ∧ WV H v x := by
  obtain ⟨o, a, b⟩ := OVs.get h e
  rw [W.os_map, List.getElem?_map] at a
  obtain ⟨x, hx, rfl⟩ := Option.map_eq_some_iff.mp a
  exact ⟨x, hx, b⟩
/-- what is no variable is a tuple: its name, its parts -/
theorem WV.tup {s : Str} {as : List W} (h : WV H u (.n s as)) : ∃ r us, u = .ref r ∧ H r = some (.tup (.str s :: us)) ∧ WVs H us as := by
  obtain ⟨r, vs, e, h1, v0, us, e2, h0, h2⟩ := h
  subst e2
  obtain rfl : v0 = .str s := h0
  exact ⟨r, us, e, h1, h2⟩
theorem WV.of {s : Str} {as : List W} {r : Addr} {us : List V} (h : H r = some (.tup (.str s :: us))) (k : WVs H us as) : WV H (.ref r) (.n s as) := ⟨r, _, rfl, h, _, _, rfl, rfl, k⟩
theorem WV.str {s : Str} (h : WV H u (.v s)) : u = .str s := h
end
theorem W.lt_dp : ∀ {as : List W} {i : Nat} {x : W}, as[i]? = some x → x.dp ≤ W.dps as
  | [], _, _, e => by simp at e
  | a :: as, 0, x, e => by
    obtain rfl : a = x := by simpa using e
    exact Nat.le_max_left _ _
  | a :: as, i + 1, x, e => Nat.le_trans (W.lt_dp (as := as) (i := i) (by simpa using e)) (Nat.le_max_right _ _)
theorem W.lt_sz : ∀ {as : List W} {i : Nat} {x : W}, as[i]? = some x → x.sz ≤ W.szs as
  | [], _, _, e => by simp at e
  | a :: as, 0, x, e => by
    obtain rfl : a = x := by simpa using e
    exact Nat.le_add_right _ _
  | a :: as, i + 1, x, e => Nat.le_trans (W.lt_sz (as := as) (i := i) (by simpa using e)) (Nat.le_add_left _ _)
/-- the part at a place -/
def W.at : W → List Nat → Option W
  | w, [] => some w
  | .v _, _ :: _ => none
  | .n _ as, i :: p => match as[i]? with
    | some x => x.at p
    | none => none
section
variable {K : PySem.W.Frag} {σ : L2.St} {H G : Hp} {te ta tb tl : TE} {v : V} {D : Ends} {tz tu : TS} {tt : TT}
/-- over a list or a tuple -/
abbrev iQ (K : PySem.W.Frag) (tl : TE) : TI := fun σ H R => iList K tl σ H R ∨ iTup K tl σ H R
theorem pi_or {X : Cx} {tg e : Expr} {i1 i2 : TI} (h1 : PI X tg e i1) (h2 : PI X tg e i2) : PI X tg e (fun σ H R => i1 σ H R ∨ i2 σ H R) :=
  ⟨fun pins s σ H R I h => h.elim (h1.run pins s σ H R I) (h2.run pins s σ H R I)⟩
theorem pi_seq {X : Cx} {tg l : Expr} (hl : PE X l tl) : PI X tg l (iQ X.K tl) := pi_or (pi_list hl) (pi_tup hl)
theorem q_forQ {b : Bool} {a : Addr} {xs : List V} {j : Nat} (h : Ev tl σ H (.ref a)) (hx : SqB H b a xs) (Pv : Nat → L2.St → Hp → Prop) (h0 : ∀ H1, Ex H H1 → Pv 0 σ H1) (hl : ∀ i σ' H', i ≤ xs.length → Pv i σ' H' → SqB H' b a xs)
    (hs : ∀ i x σ' H', xs[i]? = some x → Pv i σ' H' → tu { D with nx := Pv (i + 1), ct := Pv (i + 1), bk := tz D } (σ'.set j (some x)) H') (hd : ∀ σ' H', Pv xs.length σ' H' → tz D σ' H') : tSeq (tFor (iQ K tl) (gName j) tu) tz D σ H := by
  cases b with
  | true => exact .inl (q_forLn h (sq_of hx) Pv h0 (fun i σ' H' hi p => sq_of (hl i σ' H' hi p)) hs hd)
  | false => exact .inr (q_forT h (st_of hx) Pv h0 (fun i σ' H' hi p => st_of (hl i σ' H' hi p)) hs hd)
theorem el_lcQ {b : Bool} {a : Addr} {xs : List V} {j : Nat} {vs : List Nat} (f : Nat → Bool) (g : Nat → V) (h : Ev tl σ H (.ref a)) (hx : SqB H b a xs) (hz : xs.length ≤ 40000) (hw : ∀ x, wipe ((wipe σ vs).set j (some x)) vs = wipe σ vs)
    (ht : ∀ (i : Nat) (x : V) H1, Ex H H1 → xs[i]? = some x → EvT tt ((wipe σ vs).set j (some x)) H1 (f i)) (he : ∀ (i : Nat) (x : V) H1, Ex H H1 → xs[i]? = some x → f i = true → Ev te ((wipe σ vs).set j (some x)) H1 (g i)) :
    EvL (tLc (iQ K tl) (gName j) tt te vs) σ H (given xs.length f g) := by
  cases b with
  | true => exact fun H1 e Q q => .inl (el_lcL f g h (sq_of hx) hz hw ht he H1 e Q q)
  | false =>
    exact fun H0 e Q q => .inr (h H0 e _ fun H1 e1 => ⟨a, rfl, ⟨xs, ex_t (e.trans e1) (st_of hx)⟩, fun Dl hD =>
      lc_tup (xs := xs) (Cw H1 f g Dl) ⟨hD, Ex.new hD, upd_same⟩ (fun i H' _ p => ex_t ((e.trans e1).trans p.2.1) (st_of hx)) (fun i x H' hi p => ⟨hw x, cw_turn p (by have := (List.getElem?_eq_some_iff.mp hi).1; omega) (ht i x H1 (e.trans e1) hi) (fun hf => he i x H1 (e.trans e1) hi hf)⟩)
        (fun H' p => q Dl H' (fresh_back e1 p.1) (e1.trans p.2.1) p.2.2)⟩)
end
/-- numbers as they stand in a row -/
def nums (p : List Nat) : List V := p.map fun i : Nat => V.int (i : Nat)
theorem nums_len (p : List Nat) : (nums p).length = p.length := by simp [nums]
theorem nums_get {p : List Nat} {i : Nat} {x : V} (h : (nums p)[i]? = some x) : ∃ k, p[i]? = some k ∧ x = .int (k : Int) := by
  unfold nums at h
  rw [List.getElem?_map] at h
  obtain ⟨k, a, b⟩ := Option.map_eq_some_iff.mp h
  exact ⟨k, a, b.symm⟩
section
variable {P : Program} {w : World} {K : PySem.W.Frag} {mg : Str → Option Value} {base : Heap}
def optV (H : Hp) (u : V) : Option W → Prop
  | none => u = .non
  | some x => WV H u x
def spPa : Sp := fun vs H Q _ => ∃ (u : V) (a : Addr) (b : Bool) (z : W) (p : List Nat), vs = [u, .ref a] ∧ WV H u z ∧ SqB H b a (nums p) ∧ ∀ (r : V) (G : Hp), Ex H G → optV G r (z.at p) → Q r G
theorem sc_pa : FnScope ["word", "place", "index"] ["word", "place"] (defScope s_part_at) := ⟨rfl, rfl, rfl, by decide +kernel, rfl, by decide +kernel, by decide +kernel⟩
theorem at_snoc : ∀ {p : List Nat} {z : W} {k : Nat}, z.at (p ++ [k]) = (z.at p).bind fun x => x.at [k]
  | [], z, k => by cases z <;> rfl
  | i :: p, .v s, k => rfl
  | i :: p, .n s as, k => by
    show (match as[i]? with | some x => x.at (p ++ [k]) | none => none) = (match as[i]? with | some x => x.at p | none => none).bind fun x => x.at [k]
    cases as[i]? with
    | none => rfl
    | some x => exact at_snoc (p := p) (z := x)
theorem at_none {z : W} {p r : List Nat} (h : z.at p = none) : z.at (p ++ r) = none := by
  induction r generalizing p with
  | nil => rw [List.append_nil]; exact h
  | cons k r ih =>
    have e : p ++ k :: r = (p ++ [k]) ++ r := by simp
    rw [e]
    refine ih ?_
    rw [at_snoc, h]
    rfl
theorem ok_part_at (T : T24 P w K mg base) : Ok P w K mg base CX0 "part_at" ["word", "place"] 1 spPa := by
  refine T.ok 10 rfl sc_pa (fun vs H Q E h => ?_) (fun kV doc pm an cdv ct us hl => match us, hl with | [_, _], _ => rfl) (fun f cdv A outer s H vs Q E hr h => ?_)
  · obtain ⟨u, a, b, z, p, rfl, _⟩ := h
    rfl
  · obtain ⟨u, a, b, z, p, rfl, hw, ha, k⟩ := h
    refine ⟨_, pss_cons (ps_for PassesOwn.never rfl (pi_seq (pv 1)) (pg_name (i := 2) sc_pa.nd rfl (Or.inl rfl))
        (pss_cons (ps_if (PW.pt (pw_or (pt_val (pe_isiB T.isi T.str PyProof.Rows.boot_str (pv 0))) (pw_or1 (pt_cmpR op_ge (pv 2) (pe_op op_sub (pe_callB call_len (by rfl) T.len PySem.boot_len (pa_cons (pv 0) pa_nil)) pe_int) (nomark _))))) (pss_one (ps_ret pe_non)) pss_nil)
        (pss_one (ps_set (i := 0) sc_pa.nd rfl (Or.inl rfl) (pe_ix ix_tup (pv 0) (pe_op op_add (pv 2) pe_int) (fun _ _ => rfl))))))
      (pss_one (ps_ret (pv 0))), ?_⟩
    refine q_forQ (b := b) (xs := nums p) (ev_var rfl) ha (fun i σ' H' => ∃ (r : V) (o : Option V) (x : W), σ' = [some r, some (.ref a), o] ∧ Ex H H' ∧ WV H' r x ∧ z.at (p.take i) = some x) ?_ ?_ ?_ ?_
    · exact fun H1 e1 => ⟨u, none, z, rfl, e1, hw.ext e1, rfl⟩
    · rintro i σ' H' hi ⟨r, o, x, rfl, e, _⟩
      exact ha.ext e
    · rintro i y σ' H' hy ⟨r, o, x, rfl, e, hx, hat⟩
      obtain ⟨j, hj, rfl⟩ := nums_get hy
      have hpt : p.take (i + 1) = p.take i ++ [j] := take_snoc hj
      have hsplit : p = p.take (i + 1) ++ p.drop (i + 1) := (List.take_append_drop _ _).symm
      have fin : z.at (p.take (i + 1)) = none → z.at p = none := fun q => by
        rw [hsplit]
        exact at_none q
      cases x with
      | v s =>
        obtain rfl : r = .str s := hx
        refine q_when (b := true) (et_is (et_or (a := true) (b := true) (et_B (ev_isStr (o := .str s) (ev_var rfl) rfl)) fun z => nomatch z) rfl) (fun _ H1 e1 => ?_) fun z => nomatch z
        refine s_ret ev_c fun G e2 => k .non G ((e.trans e1).trans e2) ?_
        rw [fin (by rw [hpt, at_snoc, hat]; rfl)]
        rfl
      | n s as =>
        obtain ⟨t, us, rfl, ht, hus⟩ := hx.tup
        have hul := hus.length
        have hlen : (V.str s :: us).length = us.length + 1 := rfl
        refine q_when (b := decide (as.length ≤ j)) (et_is (et_or (a := false) (et_B (ev_isStr (o := .tup (.str s :: W.os as)) (ev_var rfl) ⟨t, _, rfl, ht, _, _, rfl, rfl, hus⟩)) fun _ => et_test (ev_op (ev_var rfl) (ev_op (ev_lenT (ev_var rfl) (st_of ht)) ev_c rv_I0) rv_I0)) ?_) (fun hb H1 e1 => ?_) fun hb H1 e1 => ?_
        · show (false || decide ((j : Int) ≥ (((V.str s :: us).length : Nat) : Int) - 1)) = _
          rw [Bool.false_or]
          by_cases q : as.length ≤ j
          · rw [decide_eq_true q, decide_eq_true (by rw [hlen]; omega)]
          · rw [decide_eq_false q, decide_eq_false (by rw [hlen]; omega)]
        · have hb' := of_decide_eq_true hb
          refine s_ret ev_c fun G e2 => k .non G ((e.trans e1).trans e2) ?_
          rw [fin (by rw [hpt, at_snoc, hat]; show (match as[j]? with | some x => W.at x [] | none => none) = none; rw [List.getElem?_eq_none_iff.mpr hb'])]
          rfl
        · have hb' : j < as.length := by have := of_decide_eq_false hb; omega
          obtain ⟨x', hx'⟩ : ∃ x', as[j]? = some x' := ⟨as[j], by simp [hb']⟩
          obtain ⟨y', hy', hwy⟩ := hus.get hx'
          have ht1 := e1 _ _ ht
          refine s_asg (ev_op (z := y') (y := .int ((j : Int) + 1)) (ev_var rfl) (ev_op (ev_var rfl) ev_c rv_I0) (rv_ixT (st_of ht1) ?_)) fun H2 e2 => ⟨y', _, x', rfl, (e.trans e1).trans e2, (hwy.ext e1).ext e2, ?_⟩
          · show atI (V.str s :: us) ((j : Int) + 1) = some y'
            rw [show ((j : Int) + 1) = ((j + 1 : Nat) : Int) by omega]
            exact atI_nat (j := j + 1) (by simpa using hy')
          · rw [hpt, at_snoc, hat]
            show (match as[j]? with | some x => W.at x [] | none => none) = some x'
            rw [hx']
            cases x' <;> rfl
    · rintro σ' H' ⟨r, o, x, rfl, e, hx, hat⟩
      rw [nums_len, List.take_of_length_le (Nat.le_refl _)] at hat
      refine s_ret (ev_var rfl) fun G e2 => k r G (e.trans e2) ?_
      rw [hat]
      exact hx.ext e2
end
end K24

set_option Elab.async false
set_option linter.all false
set_option maxRecDepth 100000
set_option maxHeartbeats 4000000
/-! All places of a word. -/
namespace K24
open PySem PySem.Spec PyProof.Rows L2 Evl
section
variable {K : PySem.W.Frag} {σ : L2.St} {H G : Hp} {te ta tb tl tk tx : TE} {tt : TT} {v : V} {D : Ends} {tu tz : TS}
theorem s_extLP {l : Addr} {xs : List V} {P : List V → Hp → Prop} (hl : H l = some (.lst xs)) (ha : Ev ta σ H (.ref l)) (hb : EvLP te σ H P) (hs : ∀ zs G, P zs G → xs.length + zs.length ≤ 100000) (k : ∀ zs H1, Ex H H1 → P zs H1 → D.nx σ (upd H1 l (.lst (xs ++ zs)))) :
    tDrop (tBM K "list" rExtend ta (tCons te tNil)) D σ H := ha H (Ex.refl H) _ fun H1 e1 => ⟨.inl ⟨rfl, _, sq_of (e1 l _ hl)⟩, hb H1 e1 _ fun p zs H2 _ e2 hp pz =>
  ⟨l, p, xs, zs, rfl, rfl, e2 l _ (e1 l _ hl), hp, sz_of (hs zs H2 pz), k zs H2 (e1.trans e2) pz⟩⟩
theorem et_yes : EvT tYes σ H true := fun H1 e Q q => q H1 (Ex.refl _)
theorem s_forEnumNT {xs : List V} {j1 j2 : Nat} (h : EvU tl σ H xs) (Pv : Nat → L2.St → Hp → Prop) (h0 : ∀ H1, Ex H H1 → Pv 0 σ H1)
    (hs : ∀ (i : Nat) x σ' H' H2, xs[i]? = some x → Pv i σ' H' → Ex H' H2 → ∀ N : L2.St → Hp → Prop, (∀ σ3 H3, Pv (i + 1) σ3 H3 → Tx H2 H3 → N σ3 H3) → tu { D with nx := N, ct := N, bk := D.nx } ((σ'.set j1 (some (.int i))).set j2 (some x)) H2) (hd : ∀ σ' H', Pv xs.length σ' H' → D.nx σ' H') : tFor (iEnumT K (tCons tl tNil)) (gPair K j1 j2) tu D σ H :=
  q_forEnumNT (D := D) (tz := fun D => D.nx) h Pv h0 hs hd
end
theorem filter_true (l : List Nat) : (l.filter fun _ => true) = l := List.filter_eq_self.mpr fun _ _ => rfl
theorem A2.of_get {α β : Type} {R : α → β → Prop} : ∀ {as : List α} {bs : List β}, as.length = bs.length → (∀ (i : Nat) a b, as[i]? = some a → bs[i]? = some b → R a b) → A2 R as bs
  | [], [], _, _ => trivial
  | a :: as, b :: bs, h, k => ⟨k 0 a b rfl rfl, A2.of_get (Nat.succ.inj h) fun i x y e1 e2 => k (i + 1) x y (by simpa using e1) (by simpa using e2)⟩
  | [], _ :: _, h, _ => nomatch h
  | _ :: _, [], h, _ => nomatch h
theorem a2_range {β : Type} {R : V → β → Prop} {L : List β} {n : Nat} {acc : List V} (hn : n = L.length) (h : A2 (fun j y => ∃ q, L[j]? = some q ∧ R y q) (List.range n) acc) : A2 R acc L := by
  have hl := h.length
  rw [List.length_range] at hl
  refine A2.of_get (by omega) fun i a b e1 e2 => ?_
  obtain ⟨j, hj, q, hq, hr⟩ := h.getb e1
  have hil : i < n := by have := (List.getElem?_eq_some_iff.mp e1).1; omega
  rw [List.getElem?_range hil] at hj
  obtain rfl : i = j := Option.some.inj hj
  rw [hq] at e2
  obtain rfl : q = b := Option.some.inj e2
  exact hr
mutual
def W.parts : W → List (List Nat × W)
  | .v s => [([], .v s)]
  | .n s as => ([], .n s as) :: W.partsL 0 as
def W.partsL : Nat → List W → List (List Nat × W)
  | _, [] => []
  | i, a :: as => (a.parts.map fun q => (i :: q.1, q.2)) ++ W.partsL (i + 1) as
end
theorem W.partsL_snoc : ∀ (xs : List W) (x : W) (j : Nat), W.partsL j (xs ++ [x]) = W.partsL j xs ++ x.parts.map fun q => ((j + xs.length) :: q.1, q.2)
  | [], x, j => by simp [W.partsL]
  | y :: ys, x, j => by
    show (y.parts.map fun q => (j :: q.1, q.2)) ++ W.partsL (j + 1) (ys ++ [x]) = ((y.parts.map fun q => (j :: q.1, q.2)) ++ W.partsL (j + 1) ys) ++ _
    rw [W.partsL_snoc ys x (j + 1), List.append_assoc]
    have e : j + 1 + ys.length = j + (y :: ys).length := by simp; omega
    rw [e]
mutual
theorem W.parts_len : ∀ w : W, w.parts.length ≤ w.sz
  | .v _ => Nat.le_refl _
  | .n _ as => by
    have := W.partsL_len 0 as
    show (W.partsL 0 as).length + 1 ≤ W.szs as + 2
    omega
theorem W.partsL_len : ∀ (i : Nat) (ws : List W), (W.partsL i ws).length ≤ W.szs ws
  | _, [] => Nat.le_refl _
  | i, x :: xs => by
    have h1 := W.parts_len x
    have h2 := W.partsL_len (i + 1) xs
    show ((x.parts.map _) ++ W.partsL (i + 1) xs).length ≤ x.sz + W.szs xs
    rw [List.length_append, List.length_map]
    omega
end
mutual
theorem W.parts_deep : ∀ (w : W) (q : List Nat × W), q ∈ w.parts → q.1.length ≤ w.dp
  | .v _, q, h => by
    obtain rfl : q = _ := by simpa [W.parts] using h
    exact Nat.le_refl _
  | .n s as, q, h => by
    rcases List.mem_cons.mp h with rfl | h
    · exact Nat.zero_le _
    · exact W.partsL_deep 0 as q h
theorem W.partsL_deep : ∀ (i : Nat) (ws : List W) (q : List Nat × W), q ∈ W.partsL i ws → q.1.length ≤ W.dps ws + 1
  | _, [], q, h => nomatch h
  | i, x :: xs, q, h => by
    rcases List.mem_append.mp h with h | h
    · obtain ⟨r, hr, rfl⟩ := List.mem_map.mp h
      have h1 := W.parts_deep x r hr
      have h2 : x.dp ≤ W.dps (x :: xs) := Nat.le_max_left _ _
      show r.1.length + 1 ≤ _
      omega
    · have h1 := W.partsL_deep (i + 1) xs q h
      have h2 : W.dps xs ≤ W.dps (x :: xs) := Nat.le_max_right _ _
      omega
end
/-- what is told of a place: its list, B of it -/
def PlV (B : Addr → Prop) (H : Hp) (x : V) (p : List Nat) : Prop := ∃ l, x = .ref l ∧ B l ∧ H l = some (.lst (nums p))
theorem PlV.mut {B B' : Addr → Prop} {H G : Hp} {x : V} {p : List Nat} (h : PlV B H x p) (l : ∀ a o, B a → H a = some o → G a = some o) (b : ∀ a, B a → B' a) : PlV B' G x p := by
  obtain ⟨a, rfl, h1, h2⟩ := h
  exact ⟨a, rfl, b _ h1, l _ _ h1 h2⟩
section
variable {P : Program} {w : World} {K : PySem.W.Frag} {mg : Str → Option Value} {base : Heap}
def plc (z : W) : List (List Nat) := z.parts.map (·.1)
def plcL (i : Nat) (ws : List W) : List (List Nat) := (W.partsL i ws).map (·.1)
theorem plcL_snoc (xs : List W) (x : W) : plcL 0 (xs ++ [x]) = plcL 0 xs ++ (plc x).map fun p => xs.length :: p := by
  unfold plcL plc
  rw [W.partsL_snoc, List.map_append, List.map_map, List.map_map, Nat.zero_add]
  rfl
def spPi (m : Nat) : Sp := fun vs H Q _ => ∃ v z, vs = [v] ∧ WV H v z ∧ z.dp < m ∧ m ≤ 40 ∧ z.sz ≤ 9000 ∧
  ∀ p xs H', H p = none → Ex H H' → H' p = some (.lst xs) → A2 (PlV (fun l => H l = none ∧ l ≠ p) H') xs (plc z) → Q (.ref p) H'
abbrev nPi : List Str := ["word", "told", "index", "part", "place"]
end
end K24

set_option Elab.async false
set_option linter.all false
set_option maxRecDepth 100000
set_option maxHeartbeats 4000000
/-! places, word_at. -/
namespace K24
open PySem PySem.Spec PyProof.Rows L2 Evl
/-- numbers told by any object: a list or a tuple of them -/
def numL : List O → Option (List Nat)
  | [] => some []
  | .int i :: r => if 0 ≤ i then (numL r).map (i.toNat :: ·) else none
  | _ :: _ => none
def O.numQ : O → Option (List Nat)
  | .lst xs => numL xs
  | .tup xs => numL xs
  | _ => none
def goodP (z : W) (o : O) : Bool := match o.numQ with
  | some p => (z.at p).isSome
  | none => false
theorem numL_some : ∀ {xs : List O} {p : List Nat} {H : Hp} {us : List V}, numL xs = some p → OVs H us xs → us = nums p ∧ ∀ (i : Nat) (o : O), xs[i]? = some o → o.isNumber = true
  | [], p, H, us, h, k => by
    obtain rfl : [] = p := Option.some.inj h
    exact ⟨k, fun i o e => by simp at e⟩
  | .int i :: r, p, H, us, h, ⟨u, us', e, hu, k⟩ => by
    unfold numL at h
    by_cases q : 0 ≤ i
    · rw [if_pos q] at h
      obtain ⟨p', hp, rfl⟩ := Option.map_eq_some_iff.mp h
      obtain ⟨a, b⟩ := numL_some hp k
      obtain rfl : u = .int i := hu
      refine ⟨?_, fun j o e2 => ?_⟩
      · rw [e, a]
        show _ = V.int ((i.toNat : Nat) : Int) :: nums p'
        rw [Int.toNat_of_nonneg q]
      · cases j with
        | zero =>
          obtain rfl : O.int i = o := by simpa using e2
          exact decide_eq_true q
        | succ j => exact b j o (by simpa using e2)
    · rw [if_neg q] at h
      cases h
  | .non :: _, _, _, _, h, _ => nomatch h
  | .bl _ :: _, _, _, _, h, _ => nomatch h
  | .str _ :: _, _, _, _, h, _ => nomatch h
  | .dct :: _, _, _, _, h, _ => nomatch h
  | .lst _ :: _, _, _, _, h, _ => nomatch h
  | .tup _ :: _, _, _, _, h, _ => nomatch h
theorem numL_none : ∀ {xs : List O}, numL xs = none → ∃ (i : Nat) (o : O), xs[i]? = some o ∧ o.isNumber = false
  | [], h => nomatch h
  | .int i :: r, h => by
    unfold numL at h
    by_cases q : 0 ≤ i
    · rw [if_pos q] at h
      obtain ⟨j, o, a, b⟩ := numL_none (Option.map_eq_none_iff.mp h)
      exact ⟨j + 1, o, by simpa using a, b⟩
    · exact ⟨0, .int i, rfl, decide_eq_false q⟩
  | .non :: _, _ => ⟨0, _, rfl, rfl⟩
  | .bl _ :: _, _ => ⟨0, _, rfl, rfl⟩
  | .str _ :: _, _ => ⟨0, _, rfl, rfl⟩
  | .dct :: _, _ => ⟨0, _, rfl, rfl⟩
  | .lst _ :: _, _ => ⟨0, _, rfl, rfl⟩
  | .tup _ :: _, _ => ⟨0, _, rfl, rfl⟩
theorem given_pos {n : Nat} {f : Nat → Bool} {g : Nat → V} {i : Nat} (h : i < n) (k : f i = true) : 0 < (given n f g).length := by
  unfold given
  rw [List.length_map]
  exact List.length_pos_iff_exists_mem.mpr ⟨i, List.mem_filter.mpr ⟨List.mem_range.mpr h, k⟩⟩
theorem ev_lenNG {K : PySem.W.Frag} {σ : L2.St} {H : Hp} {te : TE} {xs : List V} (h : EvL te σ H xs) : Ev (tLen K te) σ H (.int (xs.length : Nat)) := fun H1 e Q q => h H1 e _ fun p H2 _ e2 hp => ⟨.ref p, xs.length, rfl, .inl ⟨xs, sq_of hp, rfl⟩, q H2 e2⟩
theorem given_zero {n : Nat} {f : Nat → Bool} {g : Nat → V} (h : ∀ i, i < n → f i = false) : given n f g = [] := by
  unfold given
  rw [List.filter_eq_nil_iff.mpr fun i hi q => by rw [h i (List.mem_range.mp hi)] at q; cases q]
  rfl
section
variable {P : Program} {w : World} {K : PySem.W.Frag} {mg : Str → Option Value} {base : Heap}
def spCp (K : PySem.W.Frag) : Sp := fun vs H Q E => ∃ (u v : V) (z : W) (o : O), vs = [u, v] ∧ WV H u z ∧ OV H v o ∧ o.sz ≤ 9000 ∧ (goodP z o = true → RetV .non H Q) ∧ (goodP z o = false → Bad K "BadPlace" v H E)
abbrev nCp : List Str := ["word", "place", "index"]
theorem sc_cp : FnScope nCp ["word", "place"] (defScope s_check_place) := ⟨rfl, rfl, rfl, by decide +kernel, rfl, by decide +kernel, by decide +kernel⟩
theorem ok_check_place (T : T24 P w K mg base) : Ok P w K mg base (L2.CX P w) "check_place" ["word", "place"] 4 (spCp K) := by
  obtain ⟨fL, dL, GL, bL, kL, mL⟩ := (ok_is_list T).ex
  obtain ⟨fN, dN, GN, bN, kN, mN⟩ := (ok_is_number T).ex
  obtain ⟨fA, dA, GA, bA, kA, mA⟩ := (ok_part_at T).ex
  refine T.okX 21 rfl sc_cp (fun vs H Q E h => ?_) (fun kV doc pm an cdv ct us hl => match us, hl with | [_, _], _ => rfl) (fun f cdv A outer s H vs Q E hr h => ?_)
  · obtain ⟨u, v, z, o, rfl, _⟩ := h
    rfl
  · obtain ⟨u, v, z, o, rfl, hw, ho, hz, k1, k2⟩ := h
    have hr2 := hr.mono (j := 2) (by decide)
    refine ⟨_, pss_cons (ps_if (PW.pt (pw_or (pt_not (pt_val (pe_call GL (hr.mono (by decide)) (by rfl) mL kL bL .nil pass0 (pa_cons (pv 1) pa_nil))))
        (pw_or1 (pt_cmpR op_gt (pe_callB call_len (by rfl) T.len PySem.boot_len (pa_cons (pe_lc (own := [("index", 2)]) (g := gName 2) (tt := tNot (tB (tCall (spB O.isNumber) [] E0 (tCons (tVar 2) tNil)))) (te := tVar 2) rfl sc_cp.nd (pi_seq (pv 1)) (blkOk_by (N := nCp) (sc := defScope s_check_place) (by decide +kernel))
          (fun _ _ _ _ _ => pg_name (i := 2) sc_cp.nd rfl (Or.inl rfl)) (fun _ _ _ _ _ => pts_one (pt_not (pt_val (pe_call GN hr2 (by rfl) mN kN bN .nil pass0 (pa_cons (pv 2) pa_nil))))) (fun _ _ _ _ _ => pv 2)) pa_nil)) pe_int (nomark _)))))
        (pss_one (ps_raiseE rfl T.bp (takes_of rfl rfl rfl rfl) (hr.mono (by decide)) (pv 1))) pss_nil)
      (pss_one (ps_if (pt_cmp (pc_isN (pe_call GA (hr.mono (by decide)) (by rfl) mA kA bA .nil pass0 (pa_cons (pv 0) (pa_cons (pv 1) pa_nil))))) (pss_one (ps_raiseE rfl T.bp (takes_of rfl rfl rfl rfl) (hr.mono (by decide)) (pv 1))) pss_nil)), ?_⟩
    cases hq : o.isLst || o.isTup with
    | false =>
      have hno : goodP z o = false := by
        cases o with
        | lst xs => cases hq
        | tup xs => cases hq
        | _ => rfl
      refine q_when (b := true) (et_is (et_or (a := true) (b := true) (et_is (et_not (et_B (ev_call (ea_cons (ev_var rfl) ea_nil) (spv_B ho)))) (by rw [hq]; rfl)) fun z => nomatch z) rfl) (fun _ H1 e1 => ?_) fun z => nomatch z
      exact s_raise T.bp (ev_var rfl) fun d G e hd => k2 hno d G (e1.trans e) hd
    | true =>
      obtain ⟨b, xs, rfl⟩ := O.seq_of hq
      obtain ⟨a, us, rfl, ha, hov⟩ := ho.seq
      have hsq : SqB H b a us := ha
      have hul := hov.length
      have hxl := O.len_szs xs
      rw [O.seq_sz] at hz
      have hgood : goodP z (O.seq b xs) = (match numL xs with | some p => (z.at p).isSome | none => false) := by cases b <;> rfl
      rw [hgood] at k1 k2
      have hcomp : ∀ G, Ex H G → EvL (tLc (iQ K (tVar 1)) (gName 2) (tNot (tB (tCall (spB O.isNumber) [] E0 (tCons (tVar 2) tNil)))) (tVar 2) [2]) [some u, some (.ref a), none] G (given us.length (fun i => !((xs[i]?).map O.isNumber).getD true) (fun i => (us[i]?).getD .non)) := fun G e =>
        el_lcQ _ _ (ev_var rfl) (hsq.ext e) (by omega) (fun _ => rfl) (fun i x H1 e1 hx => by
          obtain ⟨o', ho', hov'⟩ := hov.get hx
          rw [ho']
          exact et_not (et_B (ev_call (ea_cons (ev_var rfl) ea_nil) (spv_B (hov'.ext (e.trans e1)))))) (fun i x H1 e1 hx _ => by
          rw [hx]
          exact ev_var rfl)
      cases hn : numL xs with
      | none =>
        rw [hn] at k2
        obtain ⟨i, o', hi, hno⟩ := numL_none hn
        have hil : i < us.length := by have := (List.getElem?_eq_some_iff.mp hi).1; omega
        refine q_when (b := true) (et_is (et_or (a := false) (b := true) (et_is (et_not (et_B (ev_call (ea_cons (ev_var rfl) ea_nil) (spv_B ho)))) (by rw [hq]; rfl)) fun _ => et_is (et_test (ev_op (ev_lenNG (hcomp H (Ex.refl _))) ev_c rv_I0)) ?_) rfl) (fun _ H1 e1 => ?_) fun z => nomatch z
        · have := given_pos (n := us.length) (f := fun i => !((xs[i]?).map O.isNumber).getD true) (g := fun i => (us[i]?).getD .non) hil (by show (!((xs[i]?).map O.isNumber).getD true) = true; rw [hi]; show (!o'.isNumber) = true; rw [hno]; rfl)
          exact decide_eq_true (by omega)
        · exact s_raise T.bp (ev_var rfl) fun d G e hd => k2 rfl d G (e1.trans e) hd
      | some p =>
        rw [hn] at k1 k2
        obtain ⟨hus, hall⟩ := numL_some hn hov
        have hz0 : given us.length (fun i => !((xs[i]?).map O.isNumber).getD true) (fun i => (us[i]?).getD .non) = [] := given_zero fun i hi => by
          obtain ⟨o', ho'⟩ : ∃ o', xs[i]? = some o' := ⟨xs[i]'(by omega), by simp⟩
          show (!((xs[i]?).map O.isNumber).getD true) = false
          rw [ho']
          show (!o'.isNumber) = false
          rw [hall i o' ho']
          rfl
        refine q_when (b := false) (et_is (et_or (a := false) (b := false) (et_is (et_not (et_B (ev_call (ea_cons (ev_var rfl) ea_nil) (spv_B ho)))) (by rw [hq]; rfl)) fun _ => et_is (et_test (ev_op (ev_lenNG (hcomp H (Ex.refl _))) ev_c rv_I0)) (by rw [hz0]; decide)) rfl) (fun z => nomatch z) fun _ H1 e1 => ?_
        refine s_when (b := !(z.at p).isSome) (fun H2 e2 Q2 q2 => ?_) (fun hb H2 e2 => ?_) fun hb H2 e2 => ?_
        · refine ⟨u, rfl, .ref a, rfl, u, a, b, z, p, rfl, hw.ext (e1.trans e2), ?_, fun r G e hr => ⟨_, rfl, ?_⟩⟩
          · rw [← hus]
            exact hsq.ext (e1.trans e2)
          · cases hat : z.at p with
            | none =>
              rw [hat] at hr q2
              rw [show r = .non from hr]
              exact q2 G e
            | some x =>
              rw [hat] at hr q2
              have hne : r ≠ .non := by
                cases x with
                | v s => rw [show r = .str s from hr]; exact fun z => nomatch z
                | n s as =>
                  obtain ⟨t, us, rfl, _⟩ := WV.tup hr
                  exact fun z => nomatch z
              rw [decide_eq_false hne]
              exact q2 G e
        · have hb' : (z.at p).isSome = false := by simpa using hb
          exact s_raise T.bp (ev_var rfl) fun d G e hd => k2 hb' d G ((e1.trans e2).trans e) hd
        · have hb' : (z.at p).isSome = true := by simpa using hb
          exact k1 hb' H2 (e1.trans e2)
end
end K24

set_option Elab.async false
set_option linter.all false
set_option maxRecDepth 100000
set_option maxHeartbeats 4000000
/-! A part put at a place; depths; variables. -/
namespace K24
open PySem PySem.Spec PyProof.Rows L2 Evl
def W.put : W → List Nat → W → W
  | _, [], y => y
  | .v s, _ :: _, _ => .v s
  | .n s as, i :: p, y => match as[i]? with
    | some x => .n s (as.set i (x.put p y))
    | none => .n s as
theorem WVs.set {H : Hp} : ∀ {us : List V} {ws : List W} {i : Nat} {r : V} {x : W}, WVs H us ws → WV H r x → WVs H (us.set i r) (ws.set i x)
  | us, [], i, r, x, h, _ => by
    have h : us = [] := h
    rw [h]
    exact rfl
  | us, w :: ws, 0, r, x, ⟨u, us', e, h1, h2⟩, k => by
    rw [e]
    exact ⟨r, us', rfl, k, h2⟩
  | us, w :: ws, i + 1, r, x, ⟨u, us', e, h1, h2⟩, k => by
    rw [e]
    exact ⟨u, _, rfl, h1, WVs.set h2 k⟩
theorem cut_to (xs : List V) (k : Nat) : cutV xs none (some (k : Int)) = xs.take k := by
  unfold cutV
  rw [HT.sIx_none, HT.sIx_nat, List.drop_zero, Nat.sub_zero]
  by_cases h : k ≤ xs.length
  · rw [Nat.min_eq_left h]
  · rw [Nat.min_eq_right (by omega), List.take_of_length_le (Nat.le_refl _), List.take_of_length_le (by omega)]
theorem cut_from (xs : List V) (k : Nat) : cutV xs (some (k : Int)) none = xs.drop k := by
  unfold cutV
  rw [HT.sIx_none, HT.sIx_nat]
  by_cases h : k ≤ xs.length
  · rw [Nat.min_eq_left h, List.take_of_length_le (by rw [List.length_drop]; omega)]
  · rw [Nat.min_eq_right (by omega), List.drop_eq_nil_of_le (Nat.le_refl _), List.drop_eq_nil_of_le (by omega)]
    simp
section
variable {K : PySem.W.Frag} {σ : L2.St} {H G : Hp} {te ta tb tl : TE} {v : V}
/-- t[:k], k within -/
theorem eu_to {a : Addr} {xs : List V} {k : Nat} (h : Ev te σ H (.ref a)) (hk : Ev tb σ H (.int (k : Nat))) (ha : SqT K H a xs) (hl : k < xs.length) : EvU (tSl (rSlT K) te tNoPart (tPart tb)) σ H (xs.take k) := fun H1 e Q q =>
  h H1 e _ fun H2 e2 => hk H2 (e.trans e2) _ fun H3 e3 => ⟨_, rfl, a, xs, rfl, ex_t ((e.trans e2).trans e3) ha, fun z => by
    have h2 := z.2
    rw [HT.sIx_nat] at h2
    omega, fun p hp => by
    rw [cut_to]
    exact q p _ (fresh_back (e2.trans e3) hp) ((e2.trans e3).trans (Ex.new hp)) upd_same⟩
/-- t[k:], k from 1 on -/
theorem eu_from {a : Addr} {xs : List V} {k : Nat} (h : Ev te σ H (.ref a)) (hk : Ev tb σ H (.int (k : Nat))) (ha : SqT K H a xs) (hl : 1 ≤ k) (hx : xs ≠ []) : EvU (tSl (rSlT K) te (tPart tb) tNoPart) σ H (xs.drop k) := fun H1 e Q q =>
  h H1 e _ fun H2 e2 => hk H2 (e.trans e2) _ fun H3 e3 => ⟨_, rfl, a, xs, rfl, ex_t ((e.trans e2).trans e3) ha, fun z => by
    have h2 := z.1
    rw [HT.sIx_nat] at h2
    have := List.length_pos_iff.mpr hx
    omega, fun p hp => by
    rw [cut_from]
    exact q p _ (fresh_back (e2.trans e3) hp) ((e2.trans e3).trans (Ex.new hp)) upd_same⟩
/-- a new tuple of which P holds -/
def EvUP (te : TE) (σ : L2.St) (H : Hp) (P : List V → Hp → Prop) : Prop := ∀ H1, Ex H H1 → ∀ Q : VK, (∀ p xs H2, H1 p = none → Ex H1 H2 → H2 p = some (.tup xs) → P xs H2 → Q (.ref p) H2) → te σ H1 Q
theorem EvUP.of {xs : List V} (h : EvU te σ H xs) : EvUP te σ H (fun ys _ => ys = xs) := fun H1 e Q q => h H1 e _ fun p H2 n e2 h2 => q p xs H2 n e2 h2 rfl
theorem eup_one {P : V → Hp → Prop} (h : EvP te σ H P) (up : ∀ r, Up (P r)) : EvUP (tTup (tCons te tNil)) σ H (fun ys G => ∃ r, ys = [r] ∧ P r G) := fun H1 e Q q =>
  h H1 e _ fun r H2 e2 pr => ⟨by show 1 ≤ sizeLine; decide, fun p hp => q p [r] _ (fresh_back e2 hp) (e2.trans (Ex.new hp)) upd_same ⟨r, rfl, up r _ _ (Ex.new hp) pr⟩⟩
theorem eup_cat {P1 P2 : List V → Hp → Prop} (ha : EvUP ta σ H P1) (hb : EvUP tb σ H P2) (u1 : ∀ xs, Up (P1 xs)) (u2 : ∀ xs, Up (P2 xs)) (ne : ∀ xs G, P1 xs G → xs ≠ []) (hl : ∀ xs ys G, P1 xs G → P2 ys G → xs.length + ys.length ≤ 100000) :
    EvUP (tOp (rCatT K) ta tb) σ H (fun zs G => ∃ xs ys, zs = xs ++ ys ∧ P1 xs G ∧ P2 ys G) := fun H1 e Q q =>
  ha H1 e _ fun p1 xs H2 n1 e2 h1 q1 => hb H2 (e.trans e2) _ fun p2 ys H3 n2 e3 h2 q2 => ⟨p1, p2, xs, ys, rfl, rfl, st_of (e3 _ _ h1), st_of h2, ne _ _ q1, sz_of (hl _ _ _ (u1 _ _ _ e3 q1) q2),
    fun z => by
      subst z
      exact q p1 xs H3 n1 (e2.trans e3) (e3 _ _ h1) ⟨xs, [], by simp, u1 _ _ _ e3 q1, q2⟩,
    fun _ p hp => q p (xs ++ ys) _ (fresh_back (e2.trans e3) hp) ((e2.trans e3).trans (Ex.new hp)) upd_same ⟨xs, ys, rfl, u1 _ _ _ (e3.trans (Ex.new hp)) q1, u2 _ _ _ (Ex.new hp) q2⟩⟩
theorem s_retUP {D : Ends} {P : List V → Hp → Prop} (h : EvUP te σ H P) (k : ∀ p xs H1, H p = none → Ex H H1 → H1 p = some (.tup xs) → P xs H1 → D.rt (.ref p) H1) : tRet te D σ H := h H (Ex.refl H) _ k
end
theorem W.len_szs : ∀ l : List W, l.length ≤ W.szs l
  | [] => Nat.le_refl _
  | c :: l => by
    have h1 : 1 ≤ c.sz := by cases c <;> simp [W.sz]
    have h2 := W.len_szs l
    show l.length + 1 ≤ c.sz + W.szs l
    omega
theorem at_cons {s : Str} {as : List W} {i : Nat} {p : List Nat} (h : ((W.n s as).at (i :: p)).isSome = true) : ∃ x, as[i]? = some x ∧ (x.at p).isSome = true := by
  have h : (match as[i]? with | some x => x.at p | none => none).isSome = true := h
  cases e : as[i]? with
  | none => rw [e] at h; cases h
  | some x => rw [e] at h; exact ⟨x, rfl, h⟩
section
variable {P : Program} {w : World} {K : PySem.W.Frag} {mg : Str → Option Value} {base : Heap}
def spWp (m : Nat) : Sp := fun vs H Q _ => ∃ (u q : V) (a : Addr) (b : Bool) (z y : W) (p : List Nat), vs = [u, .ref a, q] ∧ WV H u z ∧ SqB H b a (nums p) ∧ WV H q y ∧ p.length < m ∧ m ≤ 40 ∧ z.sz ≤ 9000 ∧ (z.at p).isSome = true ∧ ∀ (r : V) (G : Hp), Ex H G → WV G r (z.put p y) → Q r G
theorem ep_wp {σ : L2.St} {H : Hp} {m : Nat} {t1 t2 t3 : TE} {ux q : V} {x y : W} {p : List Nat} (h1 : Ev t1 σ H ux) (h2 : EvQ t2 σ H (nums p)) (h3 : Ev t3 σ H q) (hw : WV H ux x) (hy : WV H q y) (hp : p.length < m) (hm : m ≤ 40) (hs : x.sz ≤ 9000) (ha : (x.at p).isSome = true) :
    EvP (tCall (spWp m) [] E0 (tCons t1 (tCons t2 (tCons t3 tNil)))) σ H (fun r G => WV G r (x.put p y)) := fun H1 e Q k =>
  h1 H1 e _ fun H2 e2 => h2 H2 (e.trans e2) _ fun b a H3 _ e3 h3' => h3 H3 ((e.trans e2).trans e3) _ fun H4 e4 => ⟨ux, q, a, b, x, y, p, rfl, hw.ext (((e.trans e2).trans e3).trans e4), h3'.ext e4, hy.ext (((e.trans e2).trans e3).trans e4), hp, hm, hs, ha, fun r G e5 hr => k r G (((e2.trans e3).trans e4).trans e5) hr⟩
abbrev nWp : List Str := ["word", "place", "part", "at"]
theorem sc_wp : FnScope nWp ["word", "place", "part"] (defScope s_with_part) := ⟨rfl, rfl, rfl, by decide +kernel, rfl, by decide +kernel, by decide +kernel⟩
theorem ok_with_part (T : T24 P w K mg base) : ∀ m, Ok P w K mg base CX0 "with_part" ["word", "place", "part"] (m + 1) (spWp m)
  | 0 => T.ok 11 rfl sc_wp (fun vs H Q E h => by obtain ⟨u, q, a, b, z, y, p, rfl, _⟩ := h; rfl) (fun kV doc pm an cdv ct us hl => match us, hl with | [_, _, _], _ => rfl) (fun f cdv A outer s H vs Q E hr h => by obtain ⟨u, q, a, b, z, y, p, _, _, _, _, h0, _⟩ := h; exact absurd h0 (Nat.not_lt_zero _))
  | m + 1 => by
    obtain ⟨fR, dR, GR, bR, kR, mR⟩ := (ok_with_part T m).ex
    refine T.ok 11 rfl sc_wp (fun vs H Q E h => ?_) (fun kV doc pm an cdv ct us hl => match us, hl with | [_, _, _], _ => rfl) (fun f cdv A outer s H vs Q E hr h => ?_)
    · obtain ⟨u, q, a, b, z, y, p, rfl, _⟩ := h
      rfl
    · obtain ⟨u, q, a, b, z, y, p, rfl, hw, ha, hy, hp, hm, hs, hat, k⟩ := h
      refine ⟨_, pss_cons (ps_if (pt_cmpR op_eq (pe_callB call_len (by rfl) T.len PySem.boot_len (pa_cons (pv 1) pa_nil)) pe_int (nomark _)) (pss_one (ps_ret (pv 2))) pss_nil)
        (pss_cons (ps_set (i := 3) sc_wp.nd rfl (Or.inl rfl) (pe_op op_add (pe_ix ix_seq (pv 1) pe_int (fun _ _ => rfl)) pe_int))
        (pss_one (ps_ret (pe_op op_catT (pe_op op_catT (pe_slice sl_tup (pv 0) po_none (po_some (pv 3))) (pe_tup (pa_cons (pe_call GR hr (by rfl) mR kR bR .nil pass0 (pa_cons (pe_ix ix_tup (pv 0) (pv 3) (fun _ _ => rfl)) (pa_cons (pe_slice sl_seq (pv 1) (po_some pe_int) po_none) (pa_cons (pv 2) pa_nil)))) pa_nil)))
          (pe_slice sl_tup (pv 0) (po_some (pe_op op_add (pv 3) pe_int)) po_none))))), ?_⟩
      have hpl := nums_len p
      cases p with
      | nil =>
        refine q_when (b := true) (et_is (et_test (ev_op (ev_lenQ (ev_var rfl) ha) ev_c (rv_eq rfl))) rfl) (fun _ H1 e1 => ?_) fun z => nomatch z
        refine s_ret (ev_var rfl) fun H2 e2 => k q H2 (e1.trans e2) ?_
        have : z.put [] y = y := by cases z <;> rfl
        rw [this]
        exact hy.ext (e1.trans e2)
      | cons i p =>
        refine q_when (b := false) (et_is (et_test (ev_op (ev_lenQ (ev_var rfl) ha) ev_c (rv_eq rfl))) (decide_eq_false (by rw [nums_len]; intro q; have := V.int.inj q; simp at this; omega))) (fun z => nomatch z) fun _ H1 e1 => ?_
        have ha1 := ha.ext e1
        refine q_asg (v := .int ((i + 1 : Nat) : Int)) (ev_is (ev_op (x := .int (i : Nat)) (ev_op (ev_var rfl) ev_c (rv_ixQ ha1 (atI_nat (j := 0) rfl))) ev_c rv_I0) rfl) fun H2 e2 => ?_
        have e02 := e1.trans e2
        cases z with
        | v sv => cases hat
        | n s as =>
          obtain ⟨x, hx, hat2⟩ := at_cons hat
          have hil := (List.getElem?_eq_some_iff.mp hx).1
          obtain ⟨t, us, rfl, ht, hus⟩ := hw.tup
          have hul := hus.length
          obtain ⟨ux, hux, hwx⟩ := hus.get hx
          have hsx := W.lt_sz hx
          have hsz : W.szs as + 2 ≤ 9000 := hs
          have hasl := W.len_szs as
          have ht2 := e02 _ _ ht
          have st2 : SqT K H2 t (V.str s :: us) := st_of ht2
          have hix : Ev (tOp (rIxT K) (tVar 0) (tVar 3)) [some (.ref t), some (.ref a), some q, some (.int ((i + 1 : Nat) : Int))] H2 ux := ev_op (ev_var rfl) (ev_var rfl) (rv_ixT st2 (atI_nat (by simpa using hux)))
          have hcall := ep_wp (m := m) hix (eq_tail (K := K) (b := b) (a := a) (x := V.int (i : Nat)) (xs := nums p) (ev_var (i := 1) rfl) (ha.ext e02)) (ev_var (i := 2) rfl) (hwx.ext e02) (hy.ext e02) (by simp at hp; omega) (by omega) (by omega) hat2
          refine s_retUP (eup_cat (eup_cat (EvUP.of (eu_to (k := i + 1) (ev_var rfl) (ev_var rfl) st2 (by simp; omega))) (eup_one hcall fun r G1 G2 e h => WV.ext e h) (fun _ _ _ _ h => h) (fun xs G1 G2 e h => by
              obtain ⟨r, h1, h2⟩ := h
              exact ⟨r, h1, WV.ext e h2⟩) (fun xs G h => by rw [h]; simp) (fun xs ys G h1 h2 => by
              obtain ⟨r, rfl, _⟩ := h2
              rw [h1, List.length_take]
              simp
              omega))
            (EvUP.of (eu_from (k := i + 2) (ev_var rfl) (ev_is (ev_op (ev_var rfl) ev_c rv_I0) rfl) st2 (by omega) (by simp))) (fun xs G1 G2 e h => by
              obtain ⟨a1, a2, h0, h1, r, h2, h3⟩ := h
              exact ⟨a1, a2, h0, h1, r, h2, WV.ext e h3⟩) (fun _ _ _ _ h => h) (fun xs G h => by
              obtain ⟨a1, a2, h0, h1, r, h2, h3⟩ := h
              rw [h0, h1]
              simp) (fun xs ys G h1 h2 => by
              obtain ⟨a1, a2, h0, h1, r, h3, h4⟩ := h1
              rw [h0, h1, h2, h3]
              simp
              omega)) fun pp xs G _ e3 hpp hxs => ?_
          obtain ⟨xs1, ys1, rfl, ⟨a1, a2, rfl, rfl, r, rfl, hr⟩, rfl⟩ := hxs
          refine k _ G (e02.trans e3) ?_
          have e4 : (W.n s as).put (i :: p) y = .n s (as.set i (x.put p y)) := by
            show (match as[i]? with | some x => W.n s (as.set i (x.put p y)) | none => .n s as) = _
            rw [hx]
          rw [e4]
          have e5 : (V.str s :: us).take (i + 1) ++ [r] ++ (V.str s :: us).drop (i + 2) = V.str s :: us.set i r := by
            rw [List.set_eq_take_append_cons_drop, if_pos (by omega)]
            simp
          rw [e5] at hpp
          exact WV.of hpp (WVs.set ((hus.ext e02).ext e3) hr)
end
end K24

set_option Elab.async false
set_option linter.all false
set_option maxRecDepth 100000
set_option maxHeartbeats 4000000
/-! Depths, variables. -/
namespace K24
open PySem PySem.Spec PyProof.Rows L2 Evl
section
variable {K : PySem.W.Frag} {σ : L2.St} {H : Hp} {te tl : TE} {tt : TT}
theorem el_lcNT {xs : List V} {j : Nat} {vs : List Nat} (f : Nat → Bool) (g : Nat → V) (h : EvU tl σ H xs) (hz : xs.length ≤ 40000) (hw : ∀ x, wipe ((wipe σ vs).set j (some x)) vs = wipe σ vs)
    (ht : ∀ (i : Nat) (x : V) H1, Ex H H1 → xs[i]? = some x → EvT tt ((wipe σ vs).set j (some x)) H1 (f i)) (he : ∀ (i : Nat) (x : V) H1, Ex H H1 → xs[i]? = some x → f i = true → Ev te ((wipe σ vs).set j (some x)) H1 (g i)) :
    EvL (tLc (iTup K tl) (gName j) tt te vs) σ H (given xs.length f g) := fun H0 e Q q => h H0 e _ fun a H1 ha e1 hx => ⟨a, rfl, ⟨xs, st_of hx⟩, fun Dl hD =>
  lc_tup (xs := xs) (Cw H1 f g Dl) ⟨hD, Ex.new hD, upd_same⟩ (fun i H' _ p => st_of (p.2.1 a _ hx)) (fun i x H' hi p => ⟨hw x, cw_turn p (by have := (List.getElem?_eq_some_iff.mp hi).1; omega) (ht i x H1 (e.trans e1) hi) (fun hf => he i x H1 (e.trans e1) hi hf)⟩)
    (fun H' p => q Dl H' (fresh_back e1 p.1) (e1.trans p.2.1) p.2.2)⟩
end
theorem ev_maxL {K : PySem.W.Frag} {σ : L2.St} {H : Hp} {te : TE} {ns : List Int} {m : Int} (h : EvL te σ H (ns.map V.int)) (hp : 0 < ns.length) (hm : ∀ m', m' ∈ ns → (∀ y, y ∈ ns → y ≤ m') → m' = m) : Ev (tCB (rMax K) (tCons te tNil)) σ H (.int m) := fun H1 e Q q =>
  h H1 e _ fun p H2 _ e2 h2 => ⟨p, ns, rfl, sq_of h2, hp, fun m' a b => by
    rw [hm m' a b]
    exact q H2 e2⟩
theorem given_map {α : Type} (xs : List α) (g : α → V) (n : Nat) (hn : n = xs.length) : given n (fun _ => true) (fun i => ((xs[i]?).map g).getD .non) = xs.map g := by
  subst hn
  unfold given
  rw [filter_true]
  refine List.ext_getElem? fun i => ?_
  rw [List.getElem?_map, List.getElem?_map]
  by_cases h : i < xs.length
  · rw [List.getElem?_range h]
    show some (((xs[i]?).map g).getD .non) = _
    rw [List.getElem?_eq_getElem h]
    rfl
  · rw [List.getElem?_eq_none_iff.mpr (by simp; omega), List.getElem?_eq_none_iff.mpr (by omega)]
    rfl
mutual
def W.de : W → Nat
  | .v _ => 0
  | .n _ as => W.dn as
def W.dn : List W → Nat
  | [] => 0
  | a :: r => max a.de (W.des r) + 1
def W.des : List W → Nat
  | [] => 0
  | a :: r => max a.de (W.des r)
end
theorem W.de_le : ∀ {as : List W} {x : W}, x ∈ as → x.de ≤ W.des as
  | a :: as, x, h => by
    rcases List.mem_cons.mp h with rfl | h
    · exact Nat.le_max_left _ _
    · exact Nat.le_trans (W.de_le h) (Nat.le_max_right _ _)
theorem W.de_max : ∀ {as : List W} {m : Nat}, (∃ x ∈ as, x.de = m) → (∀ x ∈ as, x.de ≤ m) → m = W.des as
  | as, m, ⟨x, hx, e⟩, h => by
    have h1 := W.de_le hx
    have h2 : ∀ as : List W, (∀ x ∈ as, x.de ≤ m) → W.des as ≤ m := by
      intro as
      induction as with
      | nil => intro _; exact Nat.zero_le _
      | cons a as ih =>
        intro h
        have q1 := h a (List.mem_cons_self ..)
        have q2 := ih fun x hx => h x (List.mem_cons_of_mem _ hx)
        show max a.de (W.des as) ≤ m
        omega
    have := h2 as h
    omega
theorem W.dn_des {as : List W} (h : as ≠ []) : W.dn as = W.des as + 1 := by
  cases as with
  | nil => exact absurd rfl h
  | cons a r => rfl
mutual
def W.vars : W → List Str
  | .v s => [s]
  | .n _ as => W.varsL [] as
def W.varsL : List Str → List W → List Str
  | acc, [] => acc
  | acc, a :: r => W.varsL (acc ++ a.vars.filter fun s => !acc.contains s) r
end
section
variable {P : Program} {w : World} {K : PySem.W.Frag} {mg : Str → Option Value} {base : Heap}
def spDe (m : Nat) : Sp := fun vs H Q _ => ∃ v z, vs = [v] ∧ WV H v z ∧ z.dp < m ∧ m ≤ 40 ∧ z.sz ≤ 9000 ∧ RetV (.int (z.de : Nat)) H Q
abbrev nDe : List Str := ["word", "part"]
theorem spv_de {m : Nat} {v : V} {z : W} {H : Hp} (h : WV H v z) (hd : z.dp < m) (hm : m ≤ 40) (hs : z.sz ≤ 9000) : SpV (spDe m) ([v] ++ []) H (.int (z.de : Nat)) := fun H1 e Q q E => ⟨v, z, rfl, h.ext e, hd, hm, hs, q⟩
def sVs (xs : List Str) : List V := xs.map V.str
theorem sVs_flat (xs : List Str) : (sVs xs).all flatV = true := by
  unfold sVs
  induction xs with
  | nil => rfl
  | cons r rs ih => exact ih
theorem eqV_beq (s r : Str) : eqV (.str s) (.str r) = (s == r) := by
  show decide (s = r) = (s == r)
  by_cases h : s = r
  · rw [decide_eq_true h, h]
    exact (beq_self_eq_true r).symm
  · rw [decide_eq_false h]
    exact (beq_eq_false_iff_ne.mpr h).symm
theorem sVs_in (s : Str) (xs : List Str) : inV (.str s) (sVs xs) = xs.contains s := by
  unfold inV sVs
  induction xs with
  | nil => rfl
  | cons r rs ih =>
    rw [List.map_cons, List.any_cons, ih, List.contains_cons, eqV_beq]
    first
      | rfl
      | rw [show (r == s) = (s == r) from by by_cases h : r = s; { rw [h] }; { rw [beq_eq_false_iff_ne.mpr h, beq_eq_false_iff_ne.mpr (Ne.symm h)] }]
def spVa (m : Nat) : Sp := fun vs H Q _ => ∃ v z, vs = [v] ∧ WV H v z ∧ z.dp < m ∧ m ≤ 40 ∧ z.sz ≤ 9000 ∧ ∀ p H', H p = none → Ex H H' → H' p = some (.lst (sVs z.vars)) → Q (.ref p) H'
abbrev nVa : List Str := ["word", "told", "part", "variable"]
mutual
theorem W.vars_len : ∀ w : W, w.vars.length ≤ w.sz
  | .v _ => Nat.le_refl _
  | .n _ as => by
    have := W.varsL_len [] as
    show (W.varsL [] as).length ≤ W.szs as + 2
    simp at this
    omega
theorem W.varsL_len : ∀ (acc : List Str) (as : List W), (W.varsL acc as).length ≤ acc.length + W.szs as
  | acc, [] => Nat.le_refl _
  | acc, a :: r => by
    have h1 := W.vars_len a
    have h2 := W.varsL_len (acc ++ a.vars.filter fun s => !acc.contains s) r
    have h3 := List.length_filter_le (fun s => !acc.contains s) a.vars
    rw [List.length_append] at h2
    show _ ≤ acc.length + (a.sz + W.szs r)
    show (W.varsL (acc ++ a.vars.filter fun s => !acc.contains s) r).length ≤ _
    omega
end
theorem W.varsL_snoc : ∀ (as : List W) (x : W) (acc : List Str), W.varsL acc (as ++ [x]) = W.varsL acc as ++ x.vars.filter fun s => !(W.varsL acc as).contains s
  | [], x, acc => rfl
  | a :: r, x, acc => W.varsL_snoc r x _
theorem given_sVs_to {xs : List Str} {f : Str → Bool} : ∀ n : Nat, n ≤ xs.length → given n (fun i => ((xs[i]?).map f).getD false) (fun i => ((xs[i]?).map V.str).getD .non) = sVs ((xs.take n).filter f)
  | 0, _ => by simp [given, sVs]
  | n + 1, h => by
    have ih := given_sVs_to (xs := xs) (f := f) n (by omega)
    obtain ⟨x, hx⟩ : ∃ x, xs[n]? = some x := ⟨xs[n], by simp⟩
    rw [take_snoc hx, List.filter_append]
    cases hf : f x with
    | true =>
      rw [given_yes (by rw [hx]; exact hf), ih, hx]
      show sVs _ ++ [V.str x] = _
      unfold sVs
      rw [List.filter_cons, if_pos hf, List.map_append]
      rfl
    | false =>
      rw [given_no (by rw [hx]; exact hf), ih, List.filter_cons, if_neg (by rw [hf]; decide)]
      simp
theorem given_sVs {xs : List Str} {f : Str → Bool} {n : Nat} (hn : n = xs.length) : given n (fun i => ((xs[i]?).map f).getD false) (fun i => ((xs[i]?).map V.str).getD .non) = sVs (xs.filter f) := by
  rw [given_sVs_to n (by omega), List.take_of_length_le (by omega)]
theorem szs_take (as : List W) (n : Nat) : W.szs (as.take n) ≤ W.szs as := by
  induction as generalizing n with
  | nil => simp [W.szs]
  | cons c l ih =>
    cases n with
    | zero => exact Nat.zero_le _
    | succ n =>
      have := ih n
      show c.sz + W.szs (l.take n) ≤ c.sz + W.szs l
      omega
end
end K24

set_option Elab.async false
set_option linter.all false
set_option maxRecDepth 100000
set_option maxHeartbeats 4000000
/-! The module's own functions. -/
namespace K24
open PySem PySem.Spec PyProof.Rows L2 Evl
mutual
theorem strip_sz : ∀ o : O, o.strip.sz = o.sz
  | .non => rfl | .bl _ => rfl | .int _ => rfl | .str _ => rfl | .dct => rfl
  | .lst xs => by show O.szs (O.strips xs) + 1 = O.szs xs + 1; rw [strips_sz xs]
  | .tup xs => by show O.szs (O.strips xs) + 1 = O.szs xs + 1; rw [strips_sz xs]
theorem strips_sz : ∀ os : List O, O.szs (O.strips os) = O.szs os
  | [] => rfl
  | x :: xs => by show x.strip.sz + O.szs (O.strips xs) = x.sz + O.szs xs; rw [strip_sz x, strips_sz xs]
end
/-- v stands for the right word z, lists perhaps for tuples -/
structure Lw (H : Hp) (v : V) (z : W) : Prop where
  ex : ∃ o, Rd H v o ∧ o.fitW = true ∧ o.strip = z.o
  dp : z.dp < 12
theorem Lw.ext {H G : Hp} {v : V} {z : W} (e : Ex H G) (h : Lw H v z) : Lw G v z := by
  obtain ⟨⟨o, a, b, c⟩, d⟩ := h
  exact ⟨⟨o, a.ext e, b, c⟩, d⟩
theorem sz_of_strip {o : O} {z : W} (h : o.strip = z.o) : z.sz = o.sz := by rw [← W.osz, ← h, strip_sz]
theorem Lw.sz {H : Hp} {v : V} {z : W} (h : Lw H v z) : z.sz ≤ 8000 := by
  obtain ⟨⟨o, a, b, c⟩, d⟩ := h
  rw [sz_of_strip c]
  exact a.sz
/-- v is no word, no atom -/
def NoW (H : Hp) (v : V) : Prop := ∃ o, Rd H v o ∧ o.fitW = false
theorem NoW.ext {H G : Hp} {v : V} (e : Ex H G) (h : NoW H v) : NoW G v := by
  obtain ⟨o, a, b⟩ := h
  exact ⟨o, a.ext e, b⟩
theorem numL_map : ∀ p : List Nat, numL (p.map fun i : Nat => O.int (i : Nat)) = some p
  | [] => rfl
  | i :: p => by
    show numL (O.int (i : Nat) :: _) = _
    unfold numL
    rw [if_pos (Int.natCast_nonneg i), numL_map p]
    rfl
theorem nums_ov {H : Hp} : ∀ p : List Nat, OVs H (nums p) (p.map fun i : Nat => O.int (i : Nat))
  | [] => rfl
  | i :: p => ⟨_, _, rfl, rfl, nums_ov p⟩
theorem nums_sz : ∀ p : List Nat, O.szs (p.map fun i : Nat => O.int (i : Nat)) = p.length
  | [] => rfl
  | i :: p => by show 1 + O.szs (p.map _) = p.length + 1; rw [nums_sz p]; omega
theorem place_ov {H : Hp} {b : Bool} {a : Addr} {p : List Nat} (h : SqB H b a (nums p)) : OV H (.ref a) (O.seq b (p.map fun i : Nat => O.int (i : Nat))) := by
  cases b with
  | true => exact ⟨a, _, rfl, h, nums_ov p⟩
  | false => exact ⟨a, _, rfl, h, nums_ov p⟩
theorem place_good {z : W} {b : Bool} {p : List Nat} : goodP z (O.seq b (p.map fun i : Nat => O.int (i : Nat))) = (z.at p).isSome := by
  have : (O.seq b (p.map fun i : Nat => O.int (i : Nat))).numQ = some p := by
    cases b with
    | true => exact numL_map p
    | false => exact numL_map p
  unfold goodP
  rw [this]
section
variable {P : Program} {w : World} {K : PySem.W.Frag} {mg : Str → Option Value} {base : Heap}
/-- the checked word, then what follows -/
theorem cw_go {σ : L2.St} {H : Hp} {te : TE} {v : V} {z : W} {E : L2.St → XK} {Q : VK} (h : Ev te σ H v) (hw : Lw H v z) (k : ∀ u G, Ex H G → WV G u z → Q u G) : tCallS (spCw K) E (tCons te tNil) σ H Q := by
  obtain ⟨⟨o, rd, hf, hs⟩, _⟩ := hw
  exact h H (Ex.refl H) _ fun H1 e1 => ⟨v, o, rfl, rd.ext e1, fun _ u G e2 hu => k u G (e1.trans e2) (by rw [hs] at hu; exact hu), fun q => by rw [hf] at q; cases q⟩
theorem cw_bad {σ : L2.St} {H : Hp} {te : TE} {v : V} {E : L2.St → XK} {Q : VK} (h : Ev te σ H v) (hw : NoW H v) (k : Bad K "BadWord" v H (E σ)) : tCallS (spCw K) E (tCons te tNil) σ H Q := by
  obtain ⟨o, rd, hf⟩ := hw
  exact h H (Ex.refl H) _ fun H1 e1 => ⟨v, o, rfl, rd.ext e1, (fun q => by rw [hf] at q; cases q), fun _ d G e2 hd => k d G (e1.trans e2) hd⟩
theorem cp_go {σ : L2.St} {H : Hp} {t1 t2 : TE} {u : V} {a : Addr} {b : Bool} {z : W} {p : List Nat} {E : L2.St → XK} {Q : VK} (h1 : Ev t1 σ H u) (h2 : Ev t2 σ H (.ref a)) (hw : WV H u z) (ha : SqB H b a (nums p)) (hl : p.length ≤ 900) (hat : (z.at p).isSome = true) (k : ∀ G, Ex H G → Q .non G) :
    tCallS (spCp K) E (tCons t1 (tCons t2 tNil)) σ H Q :=
  h1 H (Ex.refl H) _ fun H1 e1 => h2 H1 e1 _ fun H2 e2 => ⟨u, .ref a, z, _, rfl, hw.ext (e1.trans e2), place_ov (ha.ext (e1.trans e2)), by rw [O.seq_sz, nums_sz]; omega, fun _ G e3 => k G ((e1.trans e2).trans e3), fun q => by rw [place_good, hat] at q; cases q⟩
theorem cp_bad {σ : L2.St} {H : Hp} {t1 t2 : TE} {u v : V} {z : W} {o : O} {E : L2.St → XK} {Q : VK} (h1 : Ev t1 σ H u) (h2 : Ev t2 σ H v) (hw : WV H u z) (ho : OV H v o) (hz : o.sz ≤ 9000) (hg : goodP z o = false) (k : Bad K "BadPlace" v H (E σ)) :
    tCallS (spCp K) E (tCons t1 (tCons t2 tNil)) σ H Q :=
  h1 H (Ex.refl H) _ fun H1 e1 => h2 H1 e1 _ fun H2 e2 => ⟨u, v, z, o, rfl, hw.ext (e1.trans e2), ho.ext (e1.trans e2), hz, (fun q => by rw [hg] at q; cases q), fun _ d G e3 hd => k d G ((e1.trans e2).trans e3) hd⟩
theorem Bad.mono {x : Str} {v : V} {H G : Hp} {E : XK} (h : Bad K x v H E) (e : Ex H G) : Bad K x v G E := fun d G2 e2 hd => h d G2 (e.trans e2) hd
def spP1 (K : PySem.W.Frag) (T : W → Hp → VK → Prop) : Sp := fun vs H Q E => ∃ v, vs = [v] ∧ ((∃ z, Lw H v z ∧ T z H Q) ∨ (NoW H v ∧ Bad K "BadWord" v H E))
theorem spP1_len {T : W → Hp → VK → Prop} {vs : List V} {H : Hp} {Q : VK} {E : XK} (h : spP1 K T vs H Q E) : vs.length = 1 := by
  obtain ⟨v, rfl, _⟩ := h
  rfl
def tPlaces : W → Hp → VK → Prop := fun z H Q => ∀ p xs H', H p = none → Ex H H' → H' p = some (.lst xs) → A2 (PlV (fun l => H l = none ∧ l ≠ p) H') xs (plc z) → Q (.ref p) H'
def tDepth : W → Hp → VK → Prop := fun z H Q => RetV (.int (z.de : Nat)) H Q
def tVars : W → Hp → VK → Prop := fun z H Q => ∀ p H', H p = none → Ex H H' → H' p = some (.lst (sVs z.vars)) → Q (.ref p) H'
/-- a place: right, or what is none -/
inductive PlOk (H : Hp) (z : W) (v : V) : Option (List Nat) → Prop
  | yes {a : Addr} {b : Bool} {p : List Nat} : v = .ref a → SqB H b a (nums p) → p.length ≤ 30 → (z.at p).isSome = true → PlOk H z v (some p)
  | no {o : O} : OV H v o → o.sz ≤ 9000 → goodP z o = false → PlOk H z v none
def spWa (K : PySem.W.Frag) : Sp := fun vs H Q E => ∃ v x, vs = [v, x] ∧ ((NoW H v ∧ Bad K "BadWord" v H E) ∨ ∃ z, Lw H v z ∧ ((PlOk H z x none ∧ Bad K "BadPlace" x H E) ∨ ∃ p y, PlOk H z x (some p) ∧ z.at p = some y ∧ ∀ (r : V) (G : Hp), Ex H G → WV G r y → Q r G))
end
end K24

set_option Elab.async false
set_option linter.all false
set_option maxRecDepth 100000
set_option maxHeartbeats 4000000
/-! word_put. -/
namespace K24
open PySem PySem.Spec PyProof.Rows L2 Evl
def W.noEq : W → Bool
  | .v _ => true
  | .n s _ => !(s == "=")
theorem strip_str {x : O} {s : Str} (h : x.strip = .str s) : x = .str s := by
  cases x with
  | str t => exact h
  | _ => cases h
theorem eq_of_noEqL {xs : List O} {s : Str} {ys : List O} (h : O.strips xs = .str s :: ys) (k : (s == "=") = false) : eqL xs = false := by
  match xs, h with
  | x :: r, h =>
    have h1 : x.strip = .str s := (List.cons.inj h).1
    rw [strip_str h1]
    unfold eqL
    split
    · rename_i t a b e
      obtain rfl : s = t := by
        have := (List.cons.inj e).1
        exact O.str.inj this
      exact k
    · rfl
theorem eq_of_noEq {o : O} {z : W} (h : o.strip = z.o) (k : z.noEq = true) : o.eqB = false := by
  cases z with
  | v s => rw [strip_str h]; rfl
  | n s as =>
    have k2 : (s == "=") = false := by simpa [W.noEq] using k
    cases o with
    | lst xs => exact eq_of_noEqL (O.tup.inj h) k2
    | tup xs => exact eq_of_noEqL (O.tup.inj h) k2
    | _ => cases h
section
variable {P : Program} {w : World} {K : PySem.W.Frag} {mg : Str → Option Value} {base : Heap}
def spWu (K : PySem.W.Frag) : Sp := fun vs H Q E => ∃ v x q, vs = [v, x, q] ∧ ((NoW H v ∧ Bad K "BadWord" v H E) ∨ ∃ z, Lw H v z ∧ ((PlOk H z x none ∧ Bad K "BadPlace" x H E) ∨ ∃ p, PlOk H z x (some p) ∧
  ((p = [] ∧ NoW H q ∧ Bad K "BadWord" q H E) ∨ ∃ y, Lw H q y ∧ y.noEq = true ∧ ∀ (r : V) (G : Hp), Ex H G → WV G r (z.put p y) → Q r G)))
abbrev nWu : List Str := ["word", "place", "part", "told"]
theorem sc_wu : FnScope nWu ["word", "place", "part"] (defScope s_word_put) := ⟨rfl, rfl, rfl, by decide +kernel, rfl, by decide +kernel, by decide +kernel⟩
theorem ok_word_put (T : T24 P w K mg base) : Ok P w K mg base (L2.CX P w) "word_put" ["word", "place", "part"] 33 (spWu K) := by
  obtain ⟨fC, dC, GC, bC, kC, mC⟩ := (ok_checked_word T).ex
  obtain ⟨fP, dP, GP, bP, kP, mP⟩ := (ok_check_place T).ex
  obtain ⟨fE, dE, GE, bE, kE, mE⟩ := (ok_is_equality T).ex
  obtain ⟨fR, dR, GR, bR, kR, mR⟩ := (ok_with_part T 31).ex
  refine T.okX 22 rfl sc_wu (fun vs H Q E h => ?_) (fun kV doc pm an cdv ct us hl => match us, hl with | [_, _, _], _ => rfl) (fun f cdv A outer s H vs Q E hr h => ?_)
  · obtain ⟨v, x, q, rfl, _⟩ := h
    rfl
  obtain ⟨v, x, q, rfl, h⟩ := h
  refine ⟨_, pss_cons (ps_set (i := 3) sc_wu.nd rfl (Or.inl rfl) (pe_callS GC (hr.mono (by decide)) (by rfl) mC kC bC (fun σ => passAt (takes_of rfl rfl rfl rfl) σ) (pa_cons (pv 0) pa_nil)))
    (pss_cons (ps_expr (pe_callS GP (hr.mono (by decide)) (by rfl) mP kP bP (fun σ => passAt (takes_of rfl rfl rfl rfl) σ) (pa_cons (pv 3) (pa_cons (pv 1) pa_nil))))
    (pss_cons (ps_if (PW.pt (pw_and (pt_cmpR op_gt (pe_callB call_len (by rfl) T.len PySem.boot_len (pa_cons (pv 1) pa_nil)) pe_int (nomark _)) (pw_and1 (pt_val (pe_call GE (hr.mono (by decide)) (by rfl) mE kE bE .nil pass0 (pa_cons (pv 2) pa_nil))))))
      (pss_one (ps_raiseE rfl T.bw (takes_of rfl rfl rfl rfl) (hr.mono (by decide)) (pv 2))) pss_nil)
    (pss_one (ps_ret (pe_call GR hr (by rfl) mR kR bR .nil pass0 (pa_cons (pv 3) (pa_cons (pv 1) (pa_cons (pe_callS GC (hr.mono (by decide)) (by rfl) mC kC bC (fun σ => passAt (takes_of rfl rfl rfl rfl) σ) (pa_cons (pv 2) pa_nil)) pa_nil)))))))), ?_⟩
  rcases h with ⟨hn, k⟩ | ⟨z, hw, ⟨hp, k⟩ | ⟨p, hp, h⟩⟩
  · exact cw_bad (ev_var rfl) hn k
  · refine cw_go (ev_var rfl) hw fun u G e hu => ?_
    cases hp with
    | no ho hz hg => exact cp_bad (ev_var rfl) (ev_var rfl) hu (ho.ext e) hz hg (k.mono e)
  · refine cw_go (ev_var rfl) hw fun u G e hu => ?_
    cases hp with
    | @yes a b p ex ha hl hat =>
      subst ex
      refine cp_go (ev_var rfl) (ev_var rfl) hu (ha.ext e) (by omega) hat fun G2 e2 => ?_
      have e02 := e.trans e2
      have hlen : Ev (tLen K (tVar 1)) [some v, some (.ref a), some q, some u] G2 (.int ((nums p).length : Nat)) := ev_lenQ (ev_var rfl) (ha.ext e02)
      rw [nums_len] at hlen
      rcases h with ⟨rfl, hn, k⟩ | ⟨y, hy, hne, k⟩
      · refine q_when (b := false) (et_is (et_and (a := false) (b := false) (et_is (et_test (ev_op hlen ev_c rv_I0)) (by decide)) fun z => nomatch z) rfl) (fun z => nomatch z) fun _ G3 e3 => ?_
        refine ⟨u, rfl, .ref a, rfl, ?_⟩
        exact cw_bad (E := WE (fun cls d _ H => E cls d H)) (ev_var rfl) (hn.ext (e02.trans e3)) (k.mono (e02.trans e3))
      · obtain ⟨⟨o, rd, hf, hs⟩, hd⟩ := hy
        have heq := eq_of_noEq hs hne
        refine q_when (b := decide (0 < p.length) && false) (et_and (a := decide (0 < p.length)) (et_is (et_test (ev_op hlen ev_c rv_I0)) (by
            by_cases q : 0 < p.length
            · rw [decide_eq_true q, decide_eq_true (by omega)]
            · rw [decide_eq_false q, decide_eq_false (by omega)])) fun _ => et_is (et_B (ev_call (ea_cons (ev_var rfl) ea_nil) (spv_F0 (rd.ext e02).ov rd.ss rd.sz rd.e3))) heq) (fun z => by rw [Bool.and_false] at z; cases z) fun _ G3 e3 => ?_
        refine ⟨u, rfl, .ref a, rfl, ?_⟩
        have e03 := e02.trans e3
        refine cw_go (E := WE (fun cls d _ H => E cls d H)) (ev_var rfl) (Lw.ext e03 ⟨⟨o, rd, hf, hs⟩, hd⟩) fun r G4 e4 hr4 => ?_
        have hsz := hw.sz
        exact ⟨u, r, a, b, z, y, p, rfl, (hu.ext (e2.trans e3)).ext e4, ha.ext (e03.trans e4), hr4, by omega, by decide, by omega, hat, fun r5 G5 e5 h5 => k r5 G5 ((e03.trans e4).trans e5) h5⟩
end
end K24

set_option Elab.async false
set_option linter.all false
set_option maxRecDepth 100000
set_option maxHeartbeats 4000000
/-! The law's spring of draws. -/
namespace K24
open PySem PySem.Spec PyProof.Rows
open L2 Evl
/-- the spring at p: the cells left at q, what is left of a great one, how many were drawn, what all of them mix -/
structure Stm (H : Hp) (p q : Addr) (L : List Int) (a n t : Int) : Prop where
  hp : H p = some (.lst [.ref q, .int a, .int n, .int t])
  hq : H q = some (.lst (L.map V.int))
  ne : p ≠ q
  a0 : 0 ≤ a
  n0 : 0 ≤ n
  t0 : 0 ≤ t
  t1 : t < 2147483647
/-- all but two objects stay -/
def But (p q : Addr) (H G : Hp) : Prop := ∀ b o, b ≠ p → b ≠ q → H b = some o → G b = some o
def spDraw : Sp := fun vs H Q _ => ∃ (p q : Addr) (L : List Int) (a n t m : Int), vs = [.ref p, .int m] ∧ Stm H p q L a n t ∧ n < 100000 ∧ 1 ≤ m ∧ m ≤ 1000 ∧
  ∀ (r : Int) (G : Hp) (L' : List Int) (a' t' : Int), 0 ≤ r → r < m → Stm G p q L' a' (n + 1) t' → But p q H G → Q (.int r) G
theorem scD : FnScope ["_law_stream", "_law_many", "_law_cell", "_law_digit", "_law_mixed_here"] ["_law_stream", "_law_many"] (defScope s__law_draw) := ⟨rfl, rfl, rfl, by decide +kernel, rfl, by decide +kernel, by decide +kernel⟩
theorem dp_ints {K : PySem.W.Frag} {H : Hp} : ∀ L : List Int, DpAll K H (L.map V.int) (L.map PyData.int)
  | [] => .nil
  | i :: r => .cons (.int i) (dp_ints r)
theorem lay_ints : ∀ L : List Int, PyData.canLayAll0 (L.map PyData.int) = true
  | [] => rfl
  | _ :: r => by
    show (PyData.canLay0 (.int _) && PyData.canLayAll0 (r.map PyData.int)) = true
    rw [lay_ints r]
    rfl
theorem depth_ints : ∀ L : List Int, PyData.depthAll (L.map PyData.int) ≤ 1
  | [] => Nat.zero_le _
  | _ :: r => by
    show max (PyData.depth (.int _)) (PyData.depthAll (r.map PyData.int)) ≤ 1
    exact Nat.max_le.mpr ⟨Nat.zero_le _, depth_ints r⟩
theorem shaped_ints (L : List Int) : SeqAt.shaped (.list (L.map PyData.int)) = true := by
  unfold SeqAt.shaped
  rw [Bool.and_eq_true]
  refine ⟨lay_ints L, decide_eq_true ?_⟩
  have h := depth_ints L
  show PyData.depthAll (L.map PyData.int) + 1 ≤ 64
  omega
/-! ### reading and storing at places of a list -/
theorem ixr {K : PySem.W.Frag} {σ : L2.St} {H : Hp} {Q : VK} {i j : Nat} {z : Int} {p : Addr} {xs : List V} {v : V} (hs : σ[i]? = some (some (.ref p))) (hp : H p = some (.lst xs)) (hz : z = (j : Int)) (hj : xs[j]? = some v) (h : Q v H) :
    tOp (rIxL K) (tVar i) (tC (V.int z)) σ H Q := by
  subst hz
  exact ⟨_, hs, p, xs, _, v, rfl, rfl, SqL.of hp, atI_nat hj, h⟩
theorem ixn {m j : Nat} (hj : j < m) : ixN m (j : Int) = some j := by
  unfold ixN
  rw [if_pos (Int.natCast_nonneg j), if_pos (Int.ofNat_lt.mpr hj), Int.toNat_natCast]
theorem setr {σ : L2.St} {H : Hp} {Q : L2.St → Hp → Prop} {i j : Nat} {z : Int} {p : Addr} {xs : List V} {v : V} (hs : σ[i]? = some (some (.ref p))) (hp : H p = some (.lst xs)) (hz : z = (j : Int)) (hj : j < xs.length)
    (h : Q σ (upd H p (.lst (xs.set j v)))) : gSub (tVar i) (tC (V.int z)) rSetL v σ H Q := by
  subst hz
  exact ⟨_, hs, p, xs, _, j, rfl, rfl, hp, ixn hj, h⟩
theorem But.refl {p q : Addr} {H : Hp} : But p q H H := fun _ _ _ _ e => e
theorem But.trans {p q : Addr} {H G J : Hp} (a : But p q H G) (b : But p q G J) : But p q H J := fun c o n1 n2 e => b c o n1 n2 (a c o n1 n2 e)
theorem But.l {p q : Addr} {H : Hp} {o : HO} : But p q H (upd H p o) := fun b u n1 _ e => by rw [upd_ne n1]; exact e
theorem But.r {p q : Addr} {H : Hp} {o : HO} : But p q H (upd H q o) := fun b u _ n2 e => by rw [upd_ne n2]; exact e
theorem But.of {p q : Addr} {H G : Hp} (k : Ex H G) : But p q H G := fun b o _ _ e => k b o e
section
variable {H G : Hp} {p q : Addr} {L : List Int} {a n t : Int}
theorem Stm.ext (S : Stm H p q L a n t) (k : Ex H G) : Stm G p q L a n t := ⟨k _ _ S.hp, k _ _ S.hq, S.ne, S.a0, S.n0, S.t0, S.t1⟩
theorem Stm.put (S : Stm H p q L a n t) {a' n' t' : Int} (h1 : 0 ≤ a') (h2 : 0 ≤ n') (h3 : 0 ≤ t') (h4 : t' < 2147483647) : Stm (upd H p (.lst [.ref q, .int a', .int n', .int t'])) p q L a' n' t' :=
  ⟨upd_same, by rw [upd_ne S.ne.symm]; exact S.hq, S.ne, h1, h2, h3, h4⟩
theorem Stm.cut (S : Stm H p q L a n t) (L' : List Int) : Stm (upd H q (.lst (L'.map V.int))) p q L' a n t :=
  ⟨by rw [upd_ne S.ne]; exact S.hp, upd_same, S.ne, S.a0, S.n0, S.t0, S.t1⟩
end
/-! ### the readings -/
def dIx (K : PySem.W.Frag) (j : Int) : TE := tOp (rIxL K) (tVar 0) (tC (.int j))
def dNum (t : TE) : TE := tCB (fun xs H Q => (∃ i, xs = [V.int i] ∧ Q (.int i) H) ∨ ∃ k, xs = [V.bl k] ∧ Q (.int (if k = true then 1 else 0)) H) (tCons t tNil)
abbrev dAdd : TE → TE → TE := tOp (rI0 fun i j => .int (i + j))
abbrev dMul : TE → TE → TE := tOp (rI CMul fun i j => .int (i * j))
abbrev dMod : TE → TE → TE := tOp (rI (fun _ j => 0 < j) fun i j => .int (i % j))
abbrev dPow : TE → TE → TE := tOp (rI CPow fun i j => .int (i ^ j.toNat))
abbrev nC (i : Int) : TE := tC (.int i)
def dSet (j : Int) (te : TE) : TS := tAsg te (gSub (tVar 0) (nC j) rSetL)
def dTest (K : PySem.W.Frag) : TT := tAnd (tTest (tOp rEq (dIx K 1) (nC 0))) (tTest (tOp (rNeD K) (dIx K 0) (tLst tNil)))
def dTurn (K : PySem.W.Frag) : TS := tSeq (tAsg (tBM K "list" rPopAt (dIx K 0) (tCons (nC 0) tNil)) (gName 2))
  (tSeq (dSet 3 (dMod (dNum (dAdd (dAdd (dMul (dIx K 3) (nC 8191)) (tVar 2)) (nC 3))) (nC 2147483647)))
  (dSet 1 (tIf (tTest (tOp (rI0 fun i j => .bl (decide (j ≤ i))) (tVar 2) (dPow (nC 10) (nC 18)))) (tVar 2) (nC 0))))
def dEnd (K : PySem.W.Frag) : TS := tSeq (tIfS (tTest (tOp (rI0 fun i j => .bl (decide (j < i))) (dIx K 1) (nC 0)))
    (tSeq (tAsg (dMod (dNum (dIx K 1)) (tVar 1)) (gName 3)) (tSeq (dSet 1 (tOp (rI CDivN fun i j => .int (i.fdiv j)) (dIx K 1) (tVar 1))) (tRet (tVar 3)))) tNext)
  (tSeq (tAsg (dMod (dNum (dPow (dAdd (dAdd (dIx K 3) (dMul (nC 7919) (dIx K 2))) (nC 104729)) (nC 5))) (nC 2147483629)) (gName 4))
  (tRet (dMod (dMod (dNum (dPow (dAdd (dAdd (dMul (tVar 4) (nC 48271)) (dMul (nC 30011) (dIx K 2))) (nC 29)) (nC 3))) (nC 1000000007)) (tVar 1))))
def dAll (K : PySem.W.Frag) : TS := tSeq (dSet 2 (dAdd (dIx K 2) (nC 1))) (tSeq (tWhile (dTest K) (dTurn K)) (dEnd K))
section
variable {K : PySem.W.Frag}
theorem turn_ok {D : Ends} {σ : L2.St} {H : Hp} {p q : Addr} {c a n t : Int} {L : List Int} (S : Stm H p q (c :: L) a n t) (s0 : σ[0]? = some (some (.ref p))) (sl : σ.length = 5)
    (h : ∀ (G : Hp) (a' t' : Int), Stm G p q L a' n t' → But p q H G → D.nx (σ.set 2 (some (.int c))) G) : dTurn K D σ H := by
  have e0 : (σ.set 2 (some (V.int c)))[0]? = some (some (.ref p)) := by rw [List.getElem?_set_ne (by decide)]; exact s0
  have e2 : (σ.set 2 (some (V.int c)))[2]? = some (some (.int c)) := List.getElem?_set_self (by omega)
  refine ixr (j := 0) s0 S.hp rfl rfl ⟨.inl ⟨rfl, _, SqL.of S.hq⟩, q, _, 0, 0, .int c, rfl, rfl, S.hq, by decide, by decide, ?_, rfl, ?_⟩
  · unfold seqIndex?
    simp
  have S1 : Stm (upd H q (.lst (L.map V.int))) p q L a n t := S.cut L
  have t0 := S.t0
  have t1 := S.t1
  -- what all of them mix
  refine ixr (j := 3) e0 S1.hp rfl rfl ⟨_, _, rfl, rfl, .inl ⟨by omega, by omega⟩, _, e2, _, _, rfl, rfl, _, _, rfl, rfl, .inl ⟨_, rfl, _, _, rfl, rfl, (show (0 : Int) < 2147483647 by decide), ?_⟩⟩
  refine setr (j := 3) e0 S1.hp rfl (by show 3 < 4; omega) ?_
  have m0 := Int.emod_nonneg (t * 8191 + c + 3) (show (2147483647 : Int) ≠ 0 by decide)
  have m1 := Int.emod_lt_of_pos (t * 8191 + c + 3) (show (0 : Int) < 2147483647 by decide)
  have S2 := S1.put (a' := a) (n' := n) (t' := (t * 8191 + c + 3) % 2147483647) S.a0 S.n0 m0 m1
  have B2 : But p q H (upd (upd H q (.lst (L.map V.int))) p (.lst [.ref q, .int a, .int n, .int ((t * 8191 + c + 3) % 2147483647)])) := But.trans But.r But.l
  refine ⟨_, e2, _, _, rfl, rfl, ⟨by decide, by decide, by decide⟩, _, _, rfl, rfl, _, rfl, ?_⟩
  by_cases hc : (10 : Int) ^ (18 : Int).toNat ≤ c
  · rw [decide_eq_true hc]
    refine iteT ⟨_, e2, ?_⟩
    refine setr (j := 1) e0 S2.hp rfl (by show 1 < 4; omega) (h _ _ _ (S2.put (a' := c) ?_ S.n0 m0 m1) (B2.trans But.l))
    have z : (0 : Int) ≤ 10 ^ (18 : Int).toNat := by decide
    omega
  · rw [decide_eq_false hc]
    refine iteF ?_
    exact setr (j := 1) e0 S2.hp rfl (by show 1 < 4; omega) (h _ _ _ (S2.put (a' := 0) (by decide) S.n0 m0 m1) (B2.trans But.l))
theorem fin_ok {D : Ends} {σ : L2.St} {H : Hp} {p q : Addr} {a n t m k : Int} {L : List Int} (S : Stm H p q L a n t) (s0 : σ[0]? = some (some (.ref p))) (s1 : σ[1]? = some (some (.int m))) (sl : σ.length = 5)
    (hn : n ≤ 100000) (hm : 1 ≤ m) (hm2 : m ≤ 1000) (k0 : 0 ≤ k) (k1 : k < 2147483629)
    (h : ∀ (r : Int) (G : Hp) (L' : List Int) (a' t' : Int), 0 ≤ r → r < m → Stm G p q L' a' n t' → But p q H G → D.rt (.int r) G) :
    tRet (dMod (dMod (dNum (dPow (dAdd (dAdd (dMul (tVar 4) (nC 48271)) (dMul (nC 30011) (dIx K 2))) (nC 29)) (nC 3))) (nC 1000000007)) (tVar 1)) D (σ.set 4 (some (V.int k))) H := by
  have n0 := S.n0
  have e0 : (σ.set 4 (some (V.int k)))[0]? = some (some (.ref p)) := by rw [List.getElem?_set_ne (by decide)]; exact s0
  have e1 : (σ.set 4 (some (V.int k)))[1]? = some (some (.int m)) := by rw [List.getElem?_set_ne (by decide)]; exact s1
  have e4 : (σ.set 4 (some (V.int k)))[4]? = some (some (.int k)) := List.getElem?_set_self (by omega)
  refine ⟨_, e4, _, _, rfl, rfl, .inl ⟨by omega, by omega⟩, ?_⟩
  refine ixr (j := 2) e0 S.hp rfl rfl ⟨_, _, rfl, rfl, .inl ⟨by decide, by decide⟩, _, _, rfl, rfl, _, _, rfl, rfl, _, _, rfl, rfl, ⟨by decide, by decide, by omega⟩,
    .inl ⟨_, rfl, _, _, rfl, rfl, (show (0 : Int) < 1000000007 by decide), _, e1, _, _, rfl, rfl, by omega, ?_⟩⟩
  exact h _ _ _ _ _ (Int.emod_nonneg _ (by omega)) (Int.emod_lt_of_pos _ (by omega)) S But.refl
theorem end_ok {Q : VK} {nx : L2.St → Hp → Prop} {σ : L2.St} {H : Hp} {p q : Addr} {a n t m : Int} {L : List Int} (S : Stm H p q L a n t) (s0 : σ[0]? = some (some (.ref p))) (s1 : σ[1]? = some (some (.int m))) (sl : σ.length = 5)
    (hn : n ≤ 100000) (hm : 1 ≤ m) (hm2 : m ≤ 1000)
    (h : ∀ (r : Int) (G : Hp) (L' : List Int) (a' t' : Int), 0 ≤ r → r < m → Stm G p q L' a' n t' → But p q H G → Q (.int r) G) : dEnd K { nx := nx, rt := Q } σ H := by
  have n0 := S.n0
  have t0 := S.t0
  have t1 := S.t1
  have a0 := S.a0
  refine ixr (j := 1) s0 S.hp rfl rfl ⟨_, _, rfl, rfl, _, rfl, ?_⟩
  by_cases ha : 0 < a
  · rw [decide_eq_true ha]
    refine iteT ?_
    have e0 : (σ.set 3 (some (V.int (a % m))))[0]? = some (some (.ref p)) := by rw [List.getElem?_set_ne (by decide)]; exact s0
    have e1 : (σ.set 3 (some (V.int (a % m))))[1]? = some (some (.int m)) := by rw [List.getElem?_set_ne (by decide)]; exact s1
    have e3 : (σ.set 3 (some (V.int (a % m))))[3]? = some (some (.int (a % m))) := List.getElem?_set_self (by omega)
    refine ixr (j := 1) s0 S.hp rfl rfl (.inl ⟨_, rfl, _, s1, _, _, rfl, rfl, by omega, ?_⟩)
    refine ixr (j := 1) e0 S.hp rfl rfl ⟨_, e1, _, _, rfl, rfl, ⟨by omega, by omega⟩, ?_⟩
    refine setr (j := 1) e0 S.hp rfl (by show 1 < 4; omega) ⟨_, e3, ?_⟩
    exact h _ _ _ _ _ (Int.emod_nonneg a (by omega)) (Int.emod_lt_of_pos a (by omega)) (S.put (a' := a.fdiv m) (n' := n) (t' := t) (by rw [Int.fdiv_eq_ediv_of_nonneg _ (by omega)]; exact Int.ediv_nonneg a0 (by omega)) n0 t0 t1) But.l
  · rw [decide_eq_false ha]
    refine iteF ?_
    refine ixr (j := 3) s0 S.hp rfl rfl ?_
    refine ixr (j := 2) s0 S.hp rfl rfl ⟨_, _, rfl, rfl, .inl ⟨by decide, by decide⟩, _, _, rfl, rfl, _, _, rfl, rfl, _, _, rfl, rfl, ⟨by decide, by decide, by omega⟩, .inl ⟨_, rfl, _, _, rfl, rfl, (show (0 : Int) < 2147483629 by decide), ?_⟩⟩
    exact fin_ok S s0 s1 sl hn hm hm2 (Int.emod_nonneg _ (by decide)) (Int.emod_lt_of_pos _ (by decide)) h
theorem all_ok (vs : List V) (H : Hp) (Q : VK) (E : XK) (hs : spDraw vs H Q E) : dAll K { nx := fun _ H' => Q .non H', rt := Q } (L2.start ["_law_stream", "_law_many", "_law_cell", "_law_digit", "_law_mixed_here"] vs) H := by
  obtain ⟨p, q, L, a, n, t, m, rfl, S, hn, hm, hm2, k⟩ := hs
  -- one more was drawn
  refine ixr (j := 2) rfl S.hp rfl rfl ⟨_, _, rfl, rfl, ?_⟩
  refine setr (j := 2) rfl S.hp rfl (by show 2 < 4; omega) ?_
  have S1 := S.put (a' := a) (n' := n + 1) (t' := t) S.a0 (by have := S.n0; omega) S.t0 S.t1
  refine while_by (fun σ G => ∃ L' a' t', Stm G p q L' a' (n + 1) t' ∧ But p q H G ∧ σ[0]? = some (some (.ref p)) ∧ σ[1]? = some (some (.int m)) ∧ σ.length = 5)
    (fun _ G => match G q with | some (.lst xs) => xs.length | _ => 0) ⟨L, a, t, S1, But.l, rfl, rfl, rfl⟩ ?_ ?_
  · rintro σ G ⟨L', a', t', Z, B, s0, s1, sl⟩
    have fin : ∀ (G' : Hp) (L2 : List Int), Stm G' p q L2 a' (n + 1) t' → But p q H G' → dEnd K { nx := fun _ H' => Q .non H', rt := Q } σ G' := fun G' L2 Z' B' =>
      end_ok Z' s0 s1 sl (by omega) hm hm2 fun r G2 L3 a3 t3 r0 r1 z b => k r G2 L3 a3 t3 r0 r1 z (B'.trans b)
    refine ixr (j := 1) s0 Z.hp rfl rfl ⟨rfl, _, rfl, ?_⟩
    by_cases ha : a' = 0
    · subst ha
      rw [decide_eq_true (rfl : V.int 0 = V.int 0)]
      refine iteT ?_
      refine ixr (j := 0) s0 Z.hp rfl rfl ⟨Nat.zero_le _, fun l hl => ?_⟩
      have Zl := Z.ext (Ex.new (o := .lst []) hl)
      have Bl : But p q H (upd G l (.lst [])) := B.trans (But.of (Ex.new hl))
      refine ⟨.list (L'.map PyData.int), .list [], .lst (SqL.of Zl.hq) (dp_ints L'), .lst (SqL.of upd_same) .nil, shaped_ints L', by decide +kernel, _, rfl, ?_⟩
      cases L' with
      | nil =>
        refine iteF ?_
        exact fin _ [] Zl Bl
      | cons c L' =>
        refine iteT ?_
        refine turn_ok Zl s0 sl fun G2 a2 t2 z b => ⟨⟨L', a2, t2, z, Bl.trans b, by rw [List.getElem?_set_ne (by decide)]; exact s0, by rw [List.getElem?_set_ne (by decide)]; exact s1, by simpa using sl⟩, ?_⟩
        rw [z.hq, Z.hq]
        simp
    · rw [decide_eq_false (fun z => ha (V.int.inj z))]
      exact iteF (fin _ L' Z B)
  · rintro σ G Q1 Q2 hq h
    obtain ⟨v, e1, p1, xs, i, z, y1, y2, y3, y4, y5, kk, y6, h⟩ := h
    refine ⟨v, e1, p1, xs, i, z, y1, y2, y3, y4, y5, kk, y6, ?_⟩
    cases kk with
    | false =>
      rw [if_neg Bool.false_ne_true] at h ⊢
      exact hq _ _ h
    | true =>
      rw [if_pos rfl] at h ⊢
      obtain ⟨v, e1, p1, xs, i, z, y1, y2, y3, y4, y5, y6⟩ := h
      refine ⟨v, e1, p1, xs, i, z, y1, y2, y3, y4, y5, fun l n => ?_⟩
      obtain ⟨d, e, d1, d2, d3, d4, k2, y, z⟩ := y6 l n
      exact ⟨d, e, d1, d2, d3, d4, k2, y, hq _ _ z⟩
end
section
variable {P : Program} {w : World} {K : PySem.W.Frag} {mg : Str → Option Value} {base : Heap}
theorem ok_draw {f : Addr} {fd : FuncData} (F : FnP K "_law_draw" s__law_draw f fd) (mI : mg "int" = none) : FnOk P w K mg base CX0 1 f fd ["_law_stream", "_law_many"] spDraw := by
  refine F.ok scD (fun vs H Q E h => ?_) (fun cdv A outer s H vs Q E hr h => ⟨dAll K, PSs.nox ?_, all_ok vs H Q E h⟩)
  · obtain ⟨p, q, L, a, n, t, m, rfl, _⟩ := h
    rfl
  · exact pss_cons (ps_asg (pe_op op_add (pe_ix ix_list (pv 0) pe_int (fun _ _ => rfl)) pe_int) (pg_sub (pv 0) pe_int set_list))
      (pss_cons (ps_while PassesOwn.never (PW.pt (pw_and (pt_cmpR op_eq (pe_ix ix_list (pv 0) pe_int (fun _ _ => rfl)) pe_int (nomark _))
          (pw_and1 (pt_cmpR (op_neD hr.units) (pe_ix ix_list (pv 0) pe_int (fun _ _ => rfl)) (pe_lst pa_nil) (nomark _)))))
        (pss_cons (ps_set (i := 2) scD.nd rfl (.inl rfl) (pe_bm PySem.F.plainAttrs_list PySem.F.slot_list_pop PySem.F.type_list_pop mt_popAt (pe_ix ix_list (pv 0) pe_int (fun _ _ => rfl)) (pa_cons pe_int pa_nil)))
        (pss_cons (ps_asg (pe_op op_mod (pe_callTy call_int1 (by rfl) mI PySem.Pv.boot_int (pa_cons (pe_op op_add (pe_op op_add (pe_op op_mul (pe_ix ix_list (pv 0) pe_int (fun _ _ => rfl)) pe_int) (pv 2)) pe_int) pa_nil)) pe_int)
          (pg_sub (pv 0) pe_int set_list))
        (pss_one (ps_asg (pe_ifExp (pt_cmpR op_ge (pv 2) (pe_op op_pow pe_int pe_int) (nomark _)) (pv 2) pe_int) (pg_sub (pv 0) pe_int set_list))))))
      (pss_cons (ps_if (pt_cmpR op_gt (pe_ix ix_list (pv 0) pe_int (fun _ _ => rfl)) pe_int (nomark _))
        (pss_cons (ps_set (i := 3) scD.nd rfl (.inl rfl) (pe_op op_mod (pe_callTy call_int1 (by rfl) mI PySem.Pv.boot_int (pa_cons (pe_ix ix_list (pv 0) pe_int (fun _ _ => rfl)) pa_nil)) (pv 1)))
        (pss_cons (ps_asg (pe_op op_fdivN (pe_ix ix_list (pv 0) pe_int (fun _ _ => rfl)) (pv 1)) (pg_sub (pv 0) pe_int set_list))
        (pss_one (ps_ret (pv 3))))) pss_nil)
      (pss_cons (ps_set (i := 4) scD.nd rfl (.inl rfl) (pe_op op_mod (pe_callTy call_int1 (by rfl) mI PySem.Pv.boot_int (pa_cons (pe_op op_pow (pe_op op_add (pe_op op_add (pe_ix ix_list (pv 0) pe_int (fun _ _ => rfl))
          (pe_op op_mul pe_int (pe_ix ix_list (pv 0) pe_int (fun _ _ => rfl)))) pe_int) pe_int) pa_nil)) pe_int))
      (pss_one (ps_ret (pe_op op_mod (pe_op op_mod (pe_callTy call_int1 (by rfl) mI PySem.Pv.boot_int (pa_cons (pe_op op_pow (pe_op op_add (pe_op op_add (pe_op op_mul (pv 4) pe_int)
          (pe_op op_mul pe_int (pe_ix ix_list (pv 0) pe_int (fun _ _ => rfl)))) pe_int) pe_int) pa_nil)) pe_int) (pv 1)))))))
end
end K24

set_option Elab.async false
set_option linter.all false
set_option maxRecDepth 100000
set_option maxHeartbeats 4000000
/-! Draws: start, pick, mixed. -/
namespace K24
open PySem PySem.Spec PyProof.Rows L2 Evl
/-- the spring at p, its cells at q, n drawn -/
def Spr (H : Hp) (p q : Addr) (n : Int) : Prop := ∃ L a t, Stm H p q L a n t
theorem Spr.ext {H G : Hp} {p q : Addr} {n : Int} (e : Ex H G) (h : Spr H p q n) : Spr G p q n := let ⟨L, a, t, s⟩ := h; ⟨L, a, t, s.ext e⟩
theorem Spr.keep {H G : Hp} {p q : Addr} {n : Int} (h : Spr H p q n) (e1 : ∀ o, H p = some o → G p = some o) (e2 : ∀ o, H q = some o → G q = some o) : Spr G p q n := let ⟨L, a, t, s⟩ := h; ⟨L, a, t, e1 _ s.hp, e2 _ s.hq, s.ne, s.a0, s.n0, s.t0, s.t1⟩
theorem Spr.lst {H : Hp} {p q : Addr} {n : Int} (h : Spr H p q n) : ∃ xs ys, H p = some (.lst xs) ∧ H q = some (.lst ys) := let ⟨L, a, t, s⟩ := h; ⟨_, _, s.hp, s.hq⟩
section
variable {P : Program} {w : World} {K : PySem.W.Frag} {mg : Str → Option Value} {base : Heap} {C : Addr}
def spDr : Sp := fun vs H Q _ => ∃ (p q : Addr) (n m : Int), vs = [.ref p, .int m] ∧ Spr H p q n ∧ n < 100000 ∧ 1 ≤ m ∧ m ≤ 1000 ∧
  ∀ (r : Int) (G : Hp), 0 ≤ r → r < m → Spr G p q (n + 1) → But p q H G → Q (.int r) G
theorem ok_dr (T : T24 P w K mg base) : Ok P w K mg base CX0 "_law_draw" ["_law_stream", "_law_many"] 1 spDr := by
  obtain ⟨⟨fd, F⟩, m⟩ := T.df 38 "_law_draw" s__law_draw rfl
  have G := ok_draw (P := P) (w := w) (mg := mg) (base := base) F T.int
  refine ⟨_, fd, ?_, F.bindsN fun kV doc pm an cdv ct us hl => match us, hl with | [_, _], _ => rfl, F.kp, m⟩
  exact FnOk.imp G fun vs H Q E ⟨p, q, n, m, h1, ⟨L, a, t, S⟩, h2, h3, h4, k⟩ => ⟨p, q, L, a, n, t, m, h1, S, h2, h3, h4, fun r G L' a' t' r0 r1 S' B => k r G r0 r1 ⟨L', a', t', S'⟩ B⟩
def spStart (K : PySem.W.Frag) : Sp := fun vs H Q _ => ∃ (a : Addr) (ns : List Int), vs = [.ref a] ∧ SqL K H a (ns.map V.int) ∧ ∀ p q G, H p = none → H q = none → Ex H G → Spr G p q 0 → Q (.ref p) G
theorem sc_start : FnScope ["_law_script"] ["_law_script"] (defScope s__law_start) := ⟨rfl, rfl, rfl, by decide +kernel, rfl, by decide +kernel, by decide +kernel⟩
theorem ok_start (T : T24 P w K mg base) : Ok P w K mg base CX0 "_law_start" ["_law_script"] 1 (spStart K) := by
  refine T.ok 37 rfl sc_start (fun vs H Q E h => ?_) (fun kV doc pm an cdv ct us hl => match us, hl with | [_], _ => rfl) (fun f cdv A outer s H vs Q E hr h => ?_)
  · obtain ⟨a, ns, rfl, _⟩ := h
    rfl
  · obtain ⟨a, ns, rfl, hS, k⟩ := h
    refine ⟨_, pss_one (ps_ret (pe_lst (pa_cons (pe_callTy call_list_of (by rfl) T.list PyProof.Rows.boot_list (pa_cons (pv 0) pa_nil)) (pa_cons pe_int (pa_cons pe_int (pa_cons pe_int pa_nil)))))), ?_⟩
    refine ⟨_, rfl, a, _, rfl, .inl hS, fun l nl => ⟨by show 4 ≤ sizeLine; rw [sizeLine_eq]; omega, fun p np => ?_⟩⟩
    have ne : l ≠ p := fun z => by
      rw [z, upd_same] at np
      cases np
    exact k p l _ (fresh_back (Ex.new nl) np) nl ((Ex.new nl).trans (Ex.new np)) ⟨ns, 0, 11, upd_same, by rw [upd_ne ne, upd_same], ne.symm, Int.le_refl _, Int.le_refl _, by decide, by decide⟩
def spPick (K : PySem.W.Frag) : Sp := fun vs H Q _ => ∃ (p q c : Addr) (n : Int) (xs : List V), vs = [.ref p, .ref c] ∧ Spr H p q n ∧ n < 100000 ∧ H c = some (.lst xs) ∧ c ≠ p ∧ c ≠ q ∧ xs ≠ [] ∧ xs.length ≤ 1000 ∧
  ∀ (y : V) (G : Hp), y ∈ xs → Spr G p q (n + 1) → But p q H G → Q y G
theorem sc_pick : FnScope ["_law_stream", "_law_some"] ["_law_stream", "_law_some"] (defScope s__law_pick) := ⟨rfl, rfl, rfl, by decide +kernel, rfl, by decide +kernel, by decide +kernel⟩
theorem ok_pick (T : T24 P w K mg base) : Ok P w K mg base CX0 "_law_pick" ["_law_stream", "_law_some"] 2 (spPick K) := by
  obtain ⟨fD, dD, GD, bD, kD, mD⟩ := (ok_dr T).ex
  refine T.ok 39 rfl sc_pick (fun vs H Q E h => ?_) (fun kV doc pm an cdv ct us hl => match us, hl with | [_, _], _ => rfl) (fun f cdv A outer s H vs Q E hr h => ?_)
  · obtain ⟨p, q, c, n, xs, rfl, _⟩ := h
    rfl
  · obtain ⟨p, q, c, n, xs, rfl, S, hn, hc, n1, n2, hne, hl, k⟩ := h
    refine ⟨_, pss_one (ps_ret (pe_ix ix_list (pv 1) (pe_call GD hr (by rfl) mD kD bD .nil pass0 (pa_cons (pv 0) (pa_cons (pe_callB call_len (by rfl) T.len PySem.boot_len (pa_cons (pv 1) pa_nil)) pa_nil))) (fun _ _ => rfl))), ?_⟩
    have hpos : 0 < xs.length := List.length_pos_iff.mpr hne
    refine ⟨_, rfl, _, rfl, _, rfl, _, xs.length, rfl, .inl ⟨xs, sq_of hc, rfl⟩, p, q, n, _, rfl, S, hn, by omega, by omega, fun r G r0 r1 S' B => ?_⟩
    obtain ⟨j, rfl⟩ : ∃ j : Nat, r = (j : Int) := ⟨r.toNat, by omega⟩
    have hj : j < xs.length := by omega
    exact ⟨c, xs, _, xs[j], rfl, rfl, sq_of (B _ _ n1 n2 hc), atI_nat (by simp [hj]), k _ G (List.getElem_mem _) S' B⟩
end
end K24

set_option Elab.async false
set_option linter.all false
set_option maxRecDepth 100000
set_option maxHeartbeats 4000000
/-! Several except clauses, each with the same name for what it catches. -/
namespace K24
open PySem PySem.Spec PyProof.Rows L2 Evl
/-- what the clauses wish of what the body lets out, one behind another; slot i is their name's -/
def wNam (K : PySem.W.Frag) (i : Nat) (Wo : WX) (D : Ends) : List (Value × (Addr → Value → Option Addr → TS)) → WX
  | [] => Wo
  | p :: r => fun cl dc τ G => ∃ y, PySem.W.exmOne K cl p.1 = some y ∧ (y = true → ∀ ae, G ae = none → p.2 ae cl dc { nx := fun τ1 G1 => D.nx (τ1.set i none) G1, rt := D.rt, bk := fun τ1 G1 => D.bk (τ1.set i none) G1, ct := fun τ1 G1 => D.ct (τ1.set i none) G1 } (τ.set i (some (.ref ae))) G) ∧
      (y = false → wNam K i Wo D r cl dc τ G)
inductive HNam (X : Cx) (n : Str) : List ExceptHandler → List (Value × (Addr → Value → Option Addr → TS)) → Prop
  | nil : HNam X n [] []
  | cons {x : Str} {cv : Value} {tu : Addr → Value → Option Addr → TS} {st : Stmt} {sts : List Stmt} {p1 p2 : Pos} {hs : List ExceptHandler} {l : List (Value × (Addr → Value → Option Addr → TS))} (hcl : Names X x cv)
      (hbd : ∀ (ae : Addr) (ob : Obj) (cl : Value) (dc : Option Addr) (pn : List (Addr × Obj)), Zc cl dc ob → (∃ vs, ob.data = .fields vs) → PSs (X.suite ae ((ae, ob) :: pn)) (st :: sts) (tu ae cl dc)) (r : HNam X n hs l) :
      HNam X n (.ExceptHandler (some (.Name x p1)) (some n) (st :: sts) p2 :: hs) ((cv, tu) :: l)
section
variable {X : Cx} {body : List Stmt} {h1 : ExceptHandler} {hds : List ExceptHandler} {l : List (Value × (Addr → Value → Option Addr → TS))} {pos : Pos} {tb : WX → TS} {Wo : WX} {i : Nat} {n : Str}
theorem ps_tryN (hst : X.stack = X.env :: X.outer) (hfm : X.env.frame = some X.env.locals) (hN : X.N.Nodup) (hni : X.N[i]? = some n) (hnl : X.env.kindOf n = some .local) (tk : Takes X Wo)
    (hbody : ∀ (W : WX) (pn : List (Addr × Obj)) (xe : Value → Shared → Prop), Takes (X.tr pn xe) W → PassesOwn (model X.prog X.w) X.A X.env xe → PSs (X.tr pn xe) body (tb W))
    (hh : HNam X n (h1 :: hds) l) : PS X (.Try body (h1 :: hds) [] [] pos) (fun D τ G => tb (wNam X.K i Wo D l) D τ G) := by
  refine ⟨fun pins s τ G D I hw => ?_⟩
  have ok := I.ok
  have frs0 : X.A.frames = some (X.env :: X.outer) := by rw [ok.frames, hst]
  have locn : Loc X.env.scope n := .inl hnl
  refine wpAny_Try_except ?_
  refine wpAny_mono ((hbody (wNam X.K i Wo D l) (X.pn ++ pins) (fun e1 t1 => wpAny (model X.prog X.w) X.A (noteFrame e1 X.env) (fun _ t2 => wpAny (model X.prog X.w) X.A (setFlight e1 none) (fun _ t3 =>
    wpAny (model X.prog X.w) X.A (handleBy e1 X.env (h1 :: hds)) (SP X pins D) X.xe t3) X.xe t2) X.xe t1) (fun u t' xx => ?_) PassesOwn.looking).run [] s τ G D (I.toTry _) hw) (fun f t1 hsp => ?_) (fun e1 t1 he => he)
  · obtain ⟨ae, Bk, sK, pins', τ', G', cl, dc, rfl, J', nbk, upk, skk, nae, osk, agk, wish⟩ := xx
    have J : Inv X pins τ' G' sK := J'.ofTry ok
    have sk2 : Sky Bk (X.env :: X.outer) ae (Zc cl dc) X.env.locals t'.heap := by rw [← hst]; exact skk
    show wpAny (model X.prog X.w) X.A (noteFrame (.ref ae) X.env) _ _ _
    refine Sky.land Zc.steady frs0 hfm sk2 fun hp3 fl3 up3 => ?_
    have J3 : Inv X pins τ' G' { t' with heap := hp3 } := J.landed nbk fl3.1 (upk.trans up3) osk agk
    obtain ⟨ob3, vs3, at3, z3, dat3⟩ := fl3.there
    have offFr : ∀ {hq : Heap} {oq : Obj} {vq : Array Value}, hq.FunFrames Bk (X.env :: X.outer) → hq.get? ae = some oq → oq.data = .fields vq → ae ∉ frs (X.env :: X.outer) := fun {hq oq vq} ff eq dq hm => by
      obtain ⟨_, oz, ez, hnf⟩ := ff.mem hm
      rw [eq] at ez
      cases ez
      exact hnf _ dq
    have off3 := offFr fl3.2.2.1 at3 dat3
    have notL : ae ≠ X.env.locals := fun z => off3 (List.mem_filterMap.mpr ⟨X.env, List.mem_cons_self, by rw [hfm, z]⟩)
    have notF : ae ∉ X.fs := fun hm => by
      obtain ⟨ev, hev, qv⟩ := List.mem_filterMap.mp hm
      exact off3 (List.mem_filterMap.mpr ⟨ev, List.mem_cons_of_mem _ hev, qv⟩)
    have S3 := J3.suite at3 dat3 nae notL notF
    have walk : ∀ {hq : List ExceptHandler} {lq : List (Value × (Addr → Value → Option Addr → TS))}, HNam X n hq lq → wNam X.K i Wo D lq cl dc τ' G' →
        wpAny (model X.prog X.w) X.A (handleBy (.ref ae) X.env hq) (SP X pins D) X.xe { t' with heap := hp3 } := by
      intro hq lq hk
      induction hk with
      | nil =>
        intro ww
        refine wpAny_handleBy_nil ?_
        obtain ⟨b1, b2, b3, obj, fvs, Tc, oTc, tz, b4, b5, b6, b7, b8⟩ := id fl3
        unfold PySem.passOn
        refine wpAny_bind (wpAny_field b4 b6 b7 ?_)
        rw [if_neg (show ¬((Value.ref Tc == Value.none) = true) from by simp)]
        have out : wpAny (model X.prog X.w) X.A (setFlight (.ref ae) X.env.frame) (fun _ t4 => wpAny (model X.prog X.w) X.A (throw (.ref ae) : Sem Flow) (SP X pins D) X.xe t4) X.xe { t' with heap := hp3 } := by
          rw [hfm]
          refine HandSPX.setFlight_upZ fl3 fun hp4 hh4 up4 => wpAny_throw (tk _ _ ?_)
          exact ⟨ae, Bk, sK, pins, τ', G', cl, dc, rfl, J, nbk, (upk.trans up3).trans up4, .inr (.inr (by rw [hst]; exact hh4)), nae, osk, agk, ww⟩
        first
          | exact wpAny_bind (wpAny_pure (wpAny_bind out))
          | exact wpAny_bind out
      | @cons x cv tu st sts p1 p2 hq2 l2 hcl hbd r ih =>
        intro ww
        obtain ⟨y, hy, yes, no⟩ := ww
        refine wpAny_handleBy_cons (codeAny_handlers_test ?_) (by intro q; cases q)
        have lookT : PySem.W.Looks (model X.prog X.w) hp3 (typeOf (.ref ae)) cl := fun A2 Q2 E2 s2 k2 q2 => wpAny_typeOf_ref (k2 _ _ at3) (by rw [z3.1]; exact q2)
        have lookM := PySem.W.exm_one (M := model X.prog X.w) (J3.kIn) lookT hy
        have nameV : ∀ {Q2 : Value → Shared → Prop} {E2 : Value → Shared → Prop}, Q2 cv { t' with heap := hp3 } → wpAny (model X.prog X.w) (X.A.mark (some (.ref ae))) (eval (.Name x p1) X.env) Q2 E2 { t' with heap := hp3 } := fun {Q2 E2} q2 => by
          obtain ⟨g1, g2, g3 | ⟨g3, g4, g5⟩⟩ := hcl
          · exact ld_glob (X := X.suite ae ((ae, ob3) :: (X.pn ++ pins))) S3 g1 g3 q2 g2
          · exact ld_blt (X := X.suite ae ((ae, ob3) :: (X.pn ++ pins))) S3 g1 g3 g4 q2 g5 g2
        refine nameV (lookM.here ?_)
        cases y with
        | true =>
          refine codeAny_handlers_suite_as ?_
          refine HandSPX.lands_againZ fl3 fun hp4 fl4 up4 => ?_
          have J4 : Inv X pins τ' G' { t' with heap := hp4 } := J.landed nbk fl4.1 ((upk.trans up3).trans up4) osk agk
          obtain ⟨ob4, vs4, at4, z4, dat4⟩ := fl4.there
          have S4 := J4.suite at4 dat4 nae notL notF
          refine store_ok (X := X.suite ae ((ae, ob4) :: (X.pn ++ pins))) (v := .ref ae) S4 hN hni locn rfl (fun t5 S5 => ?_) (.inr hnl)
          refine wpAny_mono ((hbd ae ob4 cl dc (X.pn ++ pins) z4 ⟨_, dat4⟩).run [] t5 _ G' _ S5 (yes rfl ae nae)) (fun f t6 hsp => ?_) (fun _ _ z => False.elim z)
          have fin : ∀ {τ6 : L2.St} {G6 : Hp} {Q6 : Shared → Prop}, Inv (X.suite ae ((ae, ob4) :: (X.pn ++ pins))) [] τ6 G6 t6 → (∀ t7, Inv X pins (τ6.set i none) G6 t7 → Q6 t7) →
              wpAny (model X.prog X.w) X.A (do bindName X.env n .none; unbindBehindTheSuite X.env n p2) (fun _ t7 => Q6 t7) X.xe t6 := fun {τ6 G6 Q6} S6 q6 => gone_ok (S6.unsuite ok) hN hni hnl q6
          cases f with
          | next =>
            obtain ⟨τ6, G6, S6, w6⟩ := hsp
            exact fin S6 fun _ J7 => ⟨_, _, J7, w6⟩
          | brk =>
            obtain ⟨τ6, G6, S6, w6⟩ := hsp
            exact fin S6 fun _ J7 => ⟨_, _, J7, w6⟩
          | cont =>
            obtain ⟨τ6, G6, S6, w6⟩ := hsp
            exact fin S6 fun _ J7 => ⟨_, _, J7, w6⟩
          | ret u6 =>
            obtain ⟨v6, τ6, G6, S6, r6, w6⟩ := hsp
            exact fin S6 fun _ J7 => ⟨_, _, _, J7, r6, w6⟩
        | false =>
          show wpAny _ X.A (handleBy (.ref ae) X.env hq2) _ _ _
          exact ih (no rfl)
    exact walk hh wish
  · cases f with
    | next =>
      obtain ⟨τ2, G2, J2, w2⟩ := hsp
      exact wpAny_execs_nil ⟨τ2, G2, J2.ofTry ok, w2⟩
    | brk =>
      obtain ⟨τ2, G2, J2, w2⟩ := hsp
      exact ⟨τ2, G2, J2.ofTry ok, w2⟩
    | cont =>
      obtain ⟨τ2, G2, J2, w2⟩ := hsp
      exact ⟨τ2, G2, J2.ofTry ok, w2⟩
    | ret u2 =>
      obtain ⟨v2, τ2, G2, J2, r2, w2⟩ := hsp
      exact ⟨v2, τ2, G2, J2.ofTry ok, r2, w2⟩
end
end K24

set_option Elab.async false
set_option linter.all false
set_option maxRecDepth 100000
set_option maxHeartbeats 4000000
/-! What is met: told, or the thing of an error. -/
namespace K24
open PySem PySem.Spec PyProof.Rows L2 Evl LamX
/-- a new pair of a text and v -/
def Pr (s : Str) (v : V) (H : Hp) (Q : VK) : Prop := 2 ≤ sizeLine ∧ ∀ p, H p = none → Q (.ref p) (upd H p (.tup [.str s, v]))
def Emet (K : PySem.W.Frag) (Q : VK) : XK := fun cl dc G => (cl = .ref (He.ga K "BadWord") ∧ ∃ dd v, dc = some dd ∧ G dd = some (.xd [("thing", v)]) ∧ Pr "word" v G Q) ∨ (cl = .ref (He.ga K "BadPlace") ∧ ∃ dd v, dc = some dd ∧ G dd = some (.xd [("thing", v)]) ∧ Pr "place" v G Q) ∨ (cl = .ref (He.ga K "BadSubstitution") ∧ ∃ dd v, dc = some dd ∧ G dd = some (.xd [("thing", v)]) ∧ Pr "put" v G Q)
def TTmet (K : PySem.W.Frag) : (XK → Hp → VK → Prop) → Hp → VK → Prop := fun tl H Q => tl (Emet K Q) H (fun v G => Pr "told" v G Q)
def tuX (K : PySem.W.Frag) (x : Str) (s : Str) : Addr → Value → Option Addr → TS := fun ae cl dc => tRet (tTup (tCons (tC (.str s)) (tCons (tXf ae cl dc (He.ga K x) "thing" (tVar 1)) tNil)))
def tuN : Addr → Value → Option Addr → TS := fun _ _ _ _ _ _ => False
def hlist (K : PySem.W.Frag) : List (Value × (Addr → Value → Option Addr → TS)) :=
  [(.ref (He.ga K "BadWord"), tuX K "BadWord" "word"), (.ref (He.ga K "BadPlace"), tuX K "BadPlace" "place"), (.ref (He.ga K "BadSubstitution"), tuX K "BadSubstitution" "put"), (.ref (He.ga K "BadPairs"), tuN), (.ref (He.ga K "BadClause"), tuN), (.ref (He.ga K "BadClauses"), tuN), (.ref (He.ga K "BadTaken"), tuN), (.ref (He.ga K "BadTruth"), tuN), (.ref (He.ga K "BadRows"), tuN), (.ref (He.ga K "BadOrder"), tuN), (.ref (He.ga K "NotOrdered"), tuN), (.ref (He.ga K "BadNumber"), tuN), (.ref (He.ga K "BadArities"), tuN), (.ref (He.ga K "NotGround"), tuN)]
abbrev nMe : List Str := ["_law_ask", "e"]
theorem sc_me : FnScope nMe ["_law_ask"] (defScope s__law_d_met) := ⟨rfl, rfl, rfl, by decide +kernel, rfl, by decide +kernel, by decide +kernel⟩
theorem met_gives {X : Cx} (T : T24 X.prog X.w X.K X.mg X.base) {g : Addr} {cdg : Value} {q : Str} :
    GivesTo X nMe "_law_d_met" (defScope s__law_d_met) g cdg (defBody s__law_d_met) "_law_ask" q (TTmet X.K) := by
  intro f c' s H Q tl act hc h
  have nm : ∀ x : Str, x ∈ cnms → (defScope s__law_d_met).names.lookup x = some .globalImplicit → (x == ("__debug__" : Str)) = false → Names (cxOf C8.CX0 X.prog X.w X.K X.mg X.base nMe "_law_d_met" (defScope s__law_d_met) g cdg X.A X.stack s H C8.E0).nox x (.ref (He.ga X.K x)) :=
    fun x hx hl hd => ⟨hl, hd, .inl (T.cl x hx)⟩
  refine ⟨_, pss_one (ps_tryN (X := (cxOf C8.CX0 X.prog X.w X.K X.mg X.base nMe "_law_d_met" (defScope s__law_d_met) g cdg X.A X.stack s H C8.E0).nox) (i := 1) (n := "e") (l := hlist X.K)
    (tb := fun W D σ G => ∃ Ech : XK, (∀ cl dc (σ' : L2.St) G', σ'.length = 2 → Ech cl dc G' → W cl dc σ' G') ∧ σ[0]? = some (some (.ref f)) ∧ G c' = some (CodeO c' q) ∧ tl Ech G (fun v G1 => 2 ≤ sizeLine ∧ ∀ p, G1 p = none → D.rt (.ref p) (upd G1 p (.tup [.str "told", v]))))
    rfl rfl sc_me.nd rfl rfl L2.takes0 (fun W pn xe tk _ => ?_) ?_), ?_⟩
  · refine ⟨fun pins s' σ G D I h' => ?_⟩
    obtain ⟨Ech, hW, h1, h2, h3⟩ := h'
    have tk2 : Takes ((cxOf C8.CX0 X.prog X.w X.K X.mg X.base nMe "_law_d_met" (defScope s__law_d_met) g cdg X.A X.stack s H C8.E0).nox.tr pn xe) (fun cl dc σ' G' => σ'.length = 2 → W cl dc σ' G') := fun u t' ⟨b1, b2, b3, b4, σ', G', cl, dc, b5, b6, b7, b8, b9, b10, b11, b12, b13⟩ =>
      tk u t' ⟨b1, b2, b3, b4, σ', G', cl, dc, b5, b6, b7, b8, b9, b10, b11, b12, b13 b6.len⟩
    have hp := fun p1 p2 => act (fun cl dc σ' G' => σ'.length = 2 → W cl dc σ' G') pn xe Ech p1 p2 tk2 (fun cl dc σ' G' a b => hW cl dc σ' G' b a)
    exact (pss_one (ps_ret (pe_tup (pa_cons pe_str (pa_cons (hp _ _) pa_nil))))).run pins s' σ G D I ⟨h1, h2, h3⟩
  · refine .cons (nm "BadWord" (by decide) (by decide +kernel) (by decide)) (fun ae ob cl dc pn hz hf => pss_one (ps_ret (pe_tup (pa_cons pe_str (pa_cons (pe_xf T.bw.xf T.bw.no hz hf (pv 1)) pa_nil))))) ?_
    refine .cons (nm "BadPlace" (by decide) (by decide +kernel) (by decide)) (fun ae ob cl dc pn hz hf => pss_one (ps_ret (pe_tup (pa_cons pe_str (pa_cons (pe_xf T.bp.xf T.bp.no hz hf (pv 1)) pa_nil))))) ?_
    refine .cons (nm "BadSubstitution" (by decide) (by decide +kernel) (by decide)) (fun ae ob cl dc pn hz hf => pss_one (ps_ret (pe_tup (pa_cons pe_str (pa_cons (pe_xf T.bs.xf T.bs.no hz hf (pv 1)) pa_nil))))) ?_
    refine .cons (nm "BadPairs" (by decide) (by decide +kernel) (by decide)) (fun ae ob cl dc pn hz hf => pss_one ps_never) ?_
    refine .cons (nm "BadClause" (by decide) (by decide +kernel) (by decide)) (fun ae ob cl dc pn hz hf => pss_one ps_never) ?_
    refine .cons (nm "BadClauses" (by decide) (by decide +kernel) (by decide)) (fun ae ob cl dc pn hz hf => pss_one ps_never) ?_
    refine .cons (nm "BadTaken" (by decide) (by decide +kernel) (by decide)) (fun ae ob cl dc pn hz hf => pss_one ps_never) ?_
    refine .cons (nm "BadTruth" (by decide) (by decide +kernel) (by decide)) (fun ae ob cl dc pn hz hf => pss_one ps_never) ?_
    refine .cons (nm "BadRows" (by decide) (by decide +kernel) (by decide)) (fun ae ob cl dc pn hz hf => pss_one ps_never) ?_
    refine .cons (nm "BadOrder" (by decide) (by decide +kernel) (by decide)) (fun ae ob cl dc pn hz hf => pss_one ps_never) ?_
    refine .cons (nm "NotOrdered" (by decide) (by decide +kernel) (by decide)) (fun ae ob cl dc pn hz hf => pss_one ps_never) ?_
    refine .cons (nm "BadNumber" (by decide) (by decide +kernel) (by decide)) (fun ae ob cl dc pn hz hf => pss_one ps_never) ?_
    refine .cons (nm "BadArities" (by decide) (by decide +kernel) (by decide)) (fun ae ob cl dc pn hz hf => pss_one ps_never) ?_
    refine .cons (nm "NotGround" (by decide) (by decide +kernel) (by decide)) (fun ae ob cl dc pn hz hf => pss_one ps_never) ?_
    exact .nil
  · refine ⟨Emet X.K Q, fun cl dc σ' G' hl hE => ?_, rfl, hc, ?_⟩
    · rcases hE with ⟨rfl, dd, v, rfl, hdd, k⟩ | ⟨rfl, dd, v, rfl, hdd, k⟩ | ⟨rfl, dd, v, rfl, hdd, k⟩
      · refine ⟨true, T.bw.te, fun _ ae hae => ?_, fun z => nomatch z⟩
        exact ⟨_, by rw [List.getElem?_set_self (by omega)], rfl, rfl, dd, _, v, rfl, hdd, rfl, k⟩
      · refine ⟨false, T.xpw, (fun z => nomatch z), fun _ => ⟨true, T.bp.te, fun _ ae hae => ?_, fun z => nomatch z⟩⟩
        exact ⟨_, by rw [List.getElem?_set_self (by omega)], rfl, rfl, dd, _, v, rfl, hdd, rfl, k⟩
      · refine ⟨false, T.xsw, (fun z => nomatch z), fun _ => ⟨false, T.xsp, (fun z => nomatch z), fun _ => ⟨true, T.bs.te, fun _ ae hae => ?_, fun z => nomatch z⟩⟩⟩
        exact ⟨_, by rw [List.getElem?_set_self (by omega)], rfl, rfl, dd, _, v, rfl, hdd, rfl, k⟩
    · exact h
end K24

set_option Elab.async false
set_option linter.all false
set_option maxRecDepth 100000
set_option maxHeartbeats 4000000
/-! Drawn words: what holds of them. -/
namespace K24
open PySem PySem.Spec PyProof.Rows L2 Evl LamX
mutual
def W.nd : W → Nat
  | .v _ => 1
  | .n _ as => W.nds as + 1
def W.nds : List W → Nat
  | [] => 0
  | x :: xs => x.nd + W.nds xs
end
mutual
theorem W.sz_nd : ∀ w : W, w.sz ≤ 2 * w.nd
  | .v _ => by show 1 ≤ 2 * 1; decide
  | .n _ as => by have := W.szs_nd as; show W.szs as + 2 ≤ 2 * (W.nds as + 1); omega
theorem W.szs_nd : ∀ ws : List W, W.szs ws ≤ 2 * W.nds ws
  | [] => Nat.le_refl _
  | x :: xs => by have h1 := W.sz_nd x; have h2 := W.szs_nd xs; show x.sz + W.szs xs ≤ 2 * (x.nd + W.nds xs); omega
end
mutual
theorem W.parts_nd : ∀ w : W, w.parts.length = w.nd
  | .v _ => rfl
  | .n _ as => by show (W.partsL 0 as).length + 1 = W.nds as + 1; rw [W.partsL_nd 0 as]
theorem W.partsL_nd : ∀ (i : Nat) (ws : List W), (W.partsL i ws).length = W.nds ws
  | _, [] => rfl
  | i, x :: xs => by
    show ((x.parts.map _) ++ W.partsL (i + 1) xs).length = x.nd + W.nds xs
    rw [List.length_append, List.length_map, W.parts_nd x, W.partsL_nd (i + 1) xs]
end
theorem headB_strip (h : O) (n : Nat) : headB h.strip n = headB h n := by cases h <;> rfl
theorem strips_len (xs : List O) : (O.strips xs).length = xs.length := by rw [strips_eq, List.length_map]
mutual
theorem strip_fit : ∀ o : O, o.strip.fit = o.fit
  | .non => rfl | .bl _ => rfl | .int _ => rfl | .str _ => rfl | .dct => rfl
  | .lst xs => strip_fitL xs
  | .tup xs => strip_fitL xs
theorem strip_fitL : ∀ xs : List O, O.fitL (O.strips xs) = O.fitL xs
  | [] => rfl
  | h :: as => by
    show (headB h.strip (O.strips as).length && O.fits (O.strips as)) = (headB h as.length && O.fits as)
    rw [headB_strip, strips_len, strip_fits as]
theorem strip_fits : ∀ xs : List O, O.fits (O.strips xs) = O.fits xs
  | [] => rfl
  | x :: xs => by
    show (x.strip.fit && O.fits (O.strips xs)) = (x.fit && O.fits xs)
    rw [strip_fit x, strip_fits xs]
end
mutual
theorem strip_ss : ∀ o : O, o.strip.ss = o.ss
  | .non => rfl | .bl _ => rfl | .int _ => rfl | .str _ => rfl | .dct => rfl
  | .lst xs => strip_sss xs
  | .tup xs => strip_sss xs
theorem strip_sss : ∀ xs : List O, O.sss (O.strips xs) = O.sss xs
  | [] => rfl
  | x :: xs => by
    show (x.strip.ss && O.sss (O.strips xs)) = (x.ss && O.sss xs)
    rw [strip_ss x, strip_sss xs]
end
theorem eqL_strip (xs : List O) : eqL (O.strips xs) = eqL xs := by
  match xs with
  | [] => rfl
  | [a] => cases a <;> rfl
  | [a, b] => cases a <;> rfl
  | [a, b, c] => cases a <;> rfl
  | a :: b :: c :: d :: r => cases a <;> rfl
theorem e3L_strip (xs : List O) : e3L (O.strips xs) = e3L xs := by
  match xs with
  | [] => rfl
  | [a] => rfl
  | [a, b] => rfl
  | [a, b, c] => cases a <;> rfl
  | a :: b :: c :: d :: r => rfl
theorem placesL_strip (xs : List O) : placesL (O.strips xs) = placesL xs := by
  cases xs with
  | nil => rfl
  | cons h as =>
    show headB h.strip (O.strips as).length = headB h as.length
    rw [headB_strip, strips_len]
theorem tailL_strip (xs : List O) : tailL (O.strips xs) = tailL xs := by
  cases xs with
  | nil => rfl
  | cons h as => exact strip_fits as
theorem strip_fitA (o : O) : o.strip.fitA = o.fitA := by
  cases o with
  | lst xs => show ((eqL (O.strips xs) || placesL (O.strips xs)) && tailL (O.strips xs)) = _; rw [eqL_strip, placesL_strip, tailL_strip]; rfl
  | tup xs => show ((eqL (O.strips xs) || placesL (O.strips xs)) && tailL (O.strips xs)) = _; rw [eqL_strip, placesL_strip, tailL_strip]; rfl
  | _ => rfl
theorem strip_fitW (o : O) : o.strip.fitW = o.fitW := by
  unfold O.fitW
  rw [strip_fit, strip_fitA]
theorem strip_e3 (o : O) : o.strip.e3 = o.e3 := by
  cases o with
  | lst xs => exact e3L_strip xs
  | tup xs => exact e3L_strip xs
  | _ => rfl
theorem W.e3 (z : W) : z.o.e3 = true := by
  cases z with
  | v s => rfl
  | n s as =>
    match as with
    | [] => rfl
    | [_] => rfl
    | [_, _] => rfl
    | _ :: _ :: _ :: _ => rfl
/-- a right word or atom, not too great -/
structure Dz (z : W) : Prop where
  fit : z.o.fitW = true
  ss : z.o.ss = true
  nd : z.nd ≤ 400
  dp : z.dp < 12
theorem Dz.lw {z : W} (h : Dz z) {H : Hp} {v : V} {o : O} (ov : OV H v o) (e : o.strip = z.o) : Lw H v z := by
  refine ⟨⟨o, ⟨ov, by rw [← strip_ss, e]; exact h.ss, ?_, by rw [← strip_e3, e]; exact z.e3⟩, by rw [← strip_fitW, e]; exact h.fit, e⟩, h.dp⟩
  have := sz_of_strip e
  have := W.sz_nd z
  have := h.nd
  omega
/-- a drawn word, of so many levels -/
def nN : Nat → Nat
  | 0 => 1
  | L + 1 => 3 * nN L + 1
structure Dw (L : Nat) (z : W) : Prop where
  fit : z.o.fit = true
  ss : z.o.ss = true
  nd : z.nd ≤ nN L
  dp : z.dp ≤ L + 1
  eq : z.noEq = true
theorem nN_pos (L : Nat) : 1 ≤ nN L := by cases L <;> simp [nN]
theorem nN_mono {L M : Nat} (h : L ≤ M) : nN L ≤ nN M := by
  induction M with
  | zero => rw [Nat.le_zero.mp h]; exact Nat.le_refl _
  | succ M ih =>
    rcases Nat.lt_or_ge M L with q | q
    · rw [show L = M + 1 by omega]; exact Nat.le_refl _
    · have := ih q
      show nN L ≤ 3 * nN M + 1
      omega
theorem nN4 : nN 4 = 121 := rfl
def SV : List Str := ["X", "Y", "Z", "U", "W1"]
/-- what may be picked: a variable, a constant -/
inductive Lf : W → Prop
  | v {s : Str} : s ∈ SV → Lf (.v s)
  | c {s : Str} : s ∈ (["a", "b", "c"] : List Str) → Lf (.n s [])
theorem sv_fit : ∀ s ∈ SV, varB s = true ∧ SS.contains s = true := by decide +kernel
theorem cc_fit : ∀ s ∈ (["a", "b", "c"] : List Str), nameB s = true ∧ SS.contains s = true ∧ (s == "=") = false := by decide +kernel
theorem ff_fit : ∀ s ∈ (["f", "g", "h"] : List Str), nameB s = true ∧ SS.contains s = true ∧ (s == "=") = false := by decide +kernel
theorem Lf.dw {z : W} (h : Lf z) (L : Nat) : Dw L z := by
  cases h with
  | v hs => exact ⟨(sv_fit _ hs).1, (sv_fit _ hs).2, nN_pos L, Nat.zero_le _, rfl⟩
  | @c s hs =>
    obtain ⟨h1, h2, h3⟩ := cc_fit _ hs
    refine ⟨?_, ?_, nN_pos L, Nat.le_add_left _ _, ?_⟩
    · show (headB (.str s) 0 && true) = true
      rw [Bool.and_true]
      show (decide (0 ≤ 6) && nameB s) = true
      rw [h1]
      rfl
    · show (SS.contains s && true) = true
      rw [h2]
      rfl
    · show (!(s == "=")) = true
      rw [h3]
      rfl
theorem os_len (as : List W) : (W.os as).length = as.length := by rw [W.os_map, List.length_map]
theorem Dw.node {L : Nat} {s : Str} {as : List W} (hs : s ∈ (["f", "g", "h"] : List Str)) (hl : as.length ≤ 3) (h : ∀ x ∈ as, Dw L x) : Dw (L + 1) (.n s as) := by
  obtain ⟨h1, h2, h3⟩ := ff_fit _ hs
  have key : ∀ l : List W, (∀ x ∈ l, Dw L x) → O.fits (W.os l) = true ∧ O.sss (W.os l) = true ∧ W.nds l ≤ l.length * nN L ∧ W.dps l ≤ L + 1 := by
    intro l
    induction l with
    | nil => intro _; exact ⟨rfl, rfl, Nat.zero_le _, Nat.zero_le _⟩
    | cons x l ih =>
      intro h
      obtain ⟨a, b, c, d⟩ := ih fun y hy => h y (List.mem_cons_of_mem _ hy)
      have hx := h x (List.mem_cons_self ..)
      refine ⟨?_, ?_, ?_, ?_⟩
      · show (x.o.fit && O.fits (W.os l)) = true
        rw [hx.fit, a]
        rfl
      · show (x.o.ss && O.sss (W.os l)) = true
        rw [hx.ss, b]
        rfl
      · show x.nd + W.nds l ≤ (l.length + 1) * nN L
        have := hx.nd
        rw [Nat.add_mul, Nat.one_mul]
        omega
      · exact Nat.max_le.mpr ⟨hx.dp, d⟩
  obtain ⟨a, b, c, d⟩ := key as h
  refine ⟨?_, ?_, ?_, ?_, ?_⟩
  · show (headB (.str s) (W.os as).length && O.fits (W.os as)) = true
    rw [a, Bool.and_true, os_len]
    show (decide (as.length ≤ 6) && nameB s) = true
    rw [h1, decide_eq_true (by omega)]
    rfl
  · show (SS.contains s && O.sss (W.os as)) = true
    rw [h2, b]
    rfl
  · show W.nds as + 1 ≤ 3 * nN L + 1
    have : as.length * nN L ≤ 3 * nN L := Nat.mul_le_mul_right _ hl
    omega
  · show W.dps as + 1 ≤ L + 1 + 1
    omega
  · show (!(s == "=")) = true
    rw [h3]
    rfl
theorem Dw.dz {L : Nat} {z : W} (h : Dw L z) (hL : L ≤ 4) : Dz z := by
  refine ⟨?_, h.ss, ?_, ?_⟩
  · unfold O.fitW
    rw [h.fit]
    rfl
  · have h1 := h.nd
    have h2 := nN_mono hL
    rw [nN4] at h2
    omega
  · have := h.dp
    omega
end K24

set_option Elab.async false
set_option linter.all false
set_option maxRecDepth 100000
set_option maxHeartbeats 4000000
/-! Words drawn. -/
namespace K24
open PySem PySem.Spec PyProof.Rows L2 Evl
theorem But.tx {p q : Addr} {H G : Hp} (B : But p q H G) (hp : ∃ xs, H p = some (.lst xs)) (hq : ∃ xs, H q = some (.lst xs)) : Tx H G := fun a xs h => B _ _ (fun z => by
  obtain ⟨ys, e⟩ := hp
  rw [z, e] at h
  cases h) (fun z => by
  obtain ⟨ys, e⟩ := hq
  rw [z, e] at h
  cases h) h
theorem Spr.tx {p q : Addr} {H G : Hp} {n : Int} (S : Spr H p q n) (B : But p q H G) : Tx H G := by
  obtain ⟨xs, ys, h1, h2⟩ := S.lst
  exact B.tx ⟨_, h1⟩ ⟨_, h2⟩
theorem Spr.nep {p q : Addr} {H : Hp} {n : Int} (S : Spr H p q n) {a : Addr} (h : H a = none) : a ≠ p ∧ a ≠ q := by
  obtain ⟨xs, ys, h1, h2⟩ := S.lst
  exact ⟨(ne_of_none h1 h).symm, (ne_of_none h2 h).symm⟩
section
variable {K : PySem.W.Frag} {σ : L2.St} {H : Hp} {te ta tb : TE}
def AllP (R : V → Hp → Prop) (m : Nat) (xs : List V) (G : Hp) : Prop := xs.length ≤ m ∧ ∀ y ∈ xs, R y G
theorem elp_cat {P1 P2 : List V → Hp → Prop} (ha : EvLP ta σ H P1) (hb : EvLP tb σ H P2) (u1 : ∀ xs, Up (P1 xs)) (u2 : ∀ xs, Up (P2 xs)) (hl : ∀ xs ys G, P1 xs G → P2 ys G → xs.length + ys.length ≤ 100000) :
    EvLP (tOp rCat ta tb) σ H (fun zs G => ∃ xs ys, zs = xs ++ ys ∧ P1 xs G ∧ P2 ys G) := fun H1 e Q q =>
  ha H1 e _ fun p1 xs H2 n1 e2 h1 q1 => hb H2 (e.trans e2) _ fun p2 ys H3 n2 e3 h2 q2 => ⟨p1, p2, xs, ys, rfl, rfl, e3 _ _ h1, h2, sz_of (hl _ _ _ (u1 _ _ _ e3 q1) q2),
    fun p hp => q p (xs ++ ys) _ (fresh_back (e2.trans e3) hp) ((e2.trans e3).trans (Ex.new hp)) upd_same ⟨xs, ys, rfl, u1 _ _ _ (e3.trans (Ex.new hp)) q1, u2 _ _ _ (Ex.new hp) q2⟩⟩
theorem EvLP.of {xs : List V} (h : EvL te σ H xs) : EvLP te σ H (fun ys _ => ys = xs) := fun H1 e Q q => h H1 e _ fun p H2 n e2 h2 => q p xs H2 n e2 h2 rfl
theorem EvLP.imp {P1 P2 : List V → Hp → Prop} (h : EvLP te σ H P1) (k : ∀ xs G, Ex H G → P1 xs G → P2 xs G) : EvLP te σ H P2 := fun H1 e Q q => h H1 e _ fun p xs H2 n e2 h2 h3 => q p xs H2 n e2 h2 (k xs H2 (e.trans e2) h3)
/-- a constant's word, in a list alone -/
theorem elp_c1 {s : Str} : EvLP (tLst (tCons (tTup (tCons (tC (.str s)) tNil)) tNil)) σ H (fun xs G => ∃ y, xs = [y] ∧ WV G y (.n s [])) := fun H1 e Q q =>
  ⟨by show 1 ≤ sizeLine; decide, fun t ht => ⟨by show 1 ≤ sizeLine; decide, fun p hp => q p _ _ (fresh_back (Ex.new ht) hp) ((Ex.new ht).trans (Ex.new hp)) upd_same ⟨_, rfl, WV.of (us := []) (Ex.new hp _ _ upd_same) rfl⟩⟩⟩
theorem elp_c2 {s1 s2 : Str} : EvLP (tLst (tCons (tTup (tCons (tC (.str s1)) tNil)) (tCons (tTup (tCons (tC (.str s2)) tNil)) tNil))) σ H (fun xs G => ∃ y1 y2, xs = [y1, y2] ∧ WV G y1 (.n s1 []) ∧ WV G y2 (.n s2 [])) := fun H1 e Q q =>
  ⟨by show 1 ≤ sizeLine; decide, fun t ht => ⟨by show 1 ≤ sizeLine; decide, fun t2 ht2 => ⟨by show 2 ≤ sizeLine; decide, fun p hp => q p _ _ (fresh_back ((Ex.new ht).trans (Ex.new ht2)) hp) (((Ex.new ht).trans (Ex.new ht2)).trans (Ex.new hp)) upd_same
    ⟨_, _, rfl, WV.of (us := []) (((Ex.new ht2).trans (Ex.new hp)) _ _ upd_same) rfl, WV.of (us := []) (Ex.new hp _ _ upd_same) rfl⟩⟩⟩⟩
theorem elp_rep {P : List V → Hp → Prop} {k : Int} (ha : EvLP ta σ H P) (u : ∀ xs, Up (P xs)) (hb : Ev tb σ H (.int k)) (hk : 0 ≤ k ∧ k ≤ 1) (hl : ∀ xs G, P xs G → xs.length ≤ 1000) : EvLP (tOp rRep ta tb) σ H (fun zs G => zs = [] ∨ P zs G) := fun H1 e Q q =>
  ha H1 e _ fun p1 xs H2 n1 e2 h1 q1 => hb H2 (e.trans e2) _ fun H3 e3 => by
    have q3 := u _ _ _ e3 q1
    have hz : xs.length * k.toNat ≤ 1000 := by
      have h2 := hl _ _ q3
      have h3 : k.toNat ≤ 1 := by omega
      calc xs.length * k.toNat ≤ xs.length * 1 := Nat.mul_le_mul_left _ h3
        _ ≤ 1000 := by omega
    refine ⟨p1, k, xs, rfl, rfl, e3 _ _ h1, by omega, by omega, sz_of (by omega), fun p hp => q p _ _ (fresh_back (e2.trans e3) hp) ((e2.trans e3).trans (Ex.new hp)) upd_same ?_⟩
    rcases (by omega : k = 0 ∨ k = 1) with rfl | rfl
    · exact .inl rfl
    · right
      show P (List.replicate 1 xs).flatten _
      simp
      exact u _ _ _ (Ex.new hp) q3
end
def kk : Nat → Nat
  | 0 => 2
  | L + 1 => 3 * kk L + 2
section
variable {P : Program} {w : World} {K : PySem.W.Frag} {mg : Str → Option Value} {base : Heap}
def spDw (L : Nat) : Sp := fun vs H Q _ => ∃ (p q va : Addr) (n : Int) (xs : List Str), vs = [.ref p, .int (L : Nat), .ref va] ∧ Spr H p q n ∧ n + (kk L : Nat) ≤ 90000 ∧ H va = some (.lst (sVs xs)) ∧ va ≠ p ∧ va ≠ q ∧ xs.length ≤ 4 ∧ (∀ s ∈ xs, s ∈ SV) ∧
  ∀ (r : V) (G : Hp) (n' : Int) (z : W), Spr G p q n' → n' ≤ n + (kk L : Nat) → But p q H G → WV G r z → Dw L z → Q r G
abbrev nDw : List Str := ["_law_stream", "_law_level", "_law_variables", "_law_kind", "_law_many", "_law_k"]
theorem sc_dw : FnScope nDw ["_law_stream", "_law_level", "_law_variables"] (defScope s__law_d_word) := ⟨rfl, rfl, rfl, by decide +kernel, rfl, by decide +kernel, by decide +kernel⟩
abbrev rMin2 : List V → Hp → VK → Prop := fun xs H Q => ∃ i j, xs = [.int i, .int j] ∧ Q (.int (if j < i then j else i)) H
/-- what may be picked -/
def tLeaf (K : PySem.W.Frag) : TE := tOp rCat (tOp rCat (tCB (rListS K) (tCons (tVar 2) tNil)) (tLst (tCons (tTup (tCons (tC (.str "a")) tNil)) (tCons (tTup (tCons (tC (.str "b")) tNil)) tNil))))
  (tOp rRep (tLst (tCons (tTup (tCons (tC (.str "c")) tNil)) tNil)) (tOp (rI0 fun i j => .int (i - j)) (tC (.int 1)) (tCB rMin2 (tCons (tC (.int 1)) (tCons (tLen K (tVar 2)) tNil)))))
theorem elp_leaf {σ : L2.St} {H : Hp} {va : Addr} {xs : List Str} (hs : σ[2]? = some (some (.ref va))) (hv : H va = some (.lst (sVs xs))) (hl : xs.length ≤ 4) (hS : ∀ s ∈ xs, s ∈ SV) :
    EvLP (tLeaf K) σ H (fun ys G => ys ≠ [] ∧ ys.length ≤ 10 ∧ ∀ y ∈ ys, ∃ z, WV G y z ∧ Lf z) := by
  have hlen : (sVs xs).length = xs.length := by unfold sVs; rw [List.length_map]
  have hmin : Ev (tOp (rI0 fun i j => .int (i - j)) (tC (.int 1)) (tCB rMin2 (tCons (tC (.int 1)) (tCons (tLen K (tVar 2)) tNil)))) σ H (.int (1 - (if ((xs.length : Nat) : Int) < 1 then ((xs.length : Nat) : Int) else 1))) :=
    ev_op (y := .int (if ((xs.length : Nat) : Int) < 1 then ((xs.length : Nat) : Int) else 1)) ev_c (fun H1 e Q q => ⟨.ref va, hs, _, xs.length, rfl, .inl ⟨_, sq_of (e _ _ hv), hlen.symm⟩, _, _, rfl, q H1 (Ex.refl _)⟩) rv_I0
  refine (elp_cat (elp_cat (EvLP.of (el_list (ev_var hs) (sq_of hv))) elp_c2 (fun _ _ _ _ h => h) (fun xs G1 G2 e h => by
      obtain ⟨y1, y2, h1, h2, h3⟩ := h
      exact ⟨y1, y2, h1, h2.ext e, h3.ext e⟩) (fun a b G h1 h2 => by
      obtain ⟨y1, y2, h3, _⟩ := h2
      rw [h1, h3, hlen]
      simp
      omega)) (elp_rep elp_c1 (fun xs G1 G2 e h => by
      obtain ⟨y, h1, h2⟩ := h
      exact ⟨y, h1, h2.ext e⟩) hmin (by split <;> omega) (fun xs G h => by
      obtain ⟨y, h1, _⟩ := h
      rw [h1]
      simp)) (fun xs G1 G2 e h => by
      obtain ⟨a, b, h1, h2, y1, y2, h3, h4, h5⟩ := h
      exact ⟨a, b, h1, h2, y1, y2, h3, h4.ext e, h5.ext e⟩) (fun xs G1 G2 e h => by
      rcases h with h | ⟨y, h1, h2⟩
      · exact .inl h
      · exact .inr ⟨y, h1, h2.ext e⟩) (fun a b G h1 h2 => by
      obtain ⟨a1, b1, h3, h4, y1, y2, h5, _⟩ := h1
      rw [h3, h4, h5, List.length_append, hlen]
      rcases h2 with h | ⟨y, h, _⟩ <;> rw [h] <;> simp <;> omega)).imp fun ys G e h => ?_
  obtain ⟨a, b, h0, ⟨a1, b1, h3, h4, y1, y2, h5, h6, h7⟩, h2⟩ := h
  have hb : b.length ≤ 1 := by rcases h2 with h | ⟨y, h, _⟩ <;> rw [h] <;> simp
  refine ⟨by rw [h0, h3, h5]; simp, by rw [h0, h3, h4, h5, List.length_append, List.length_append, hlen]; simp; omega, fun y hy => ?_⟩
  rw [h0] at hy
  rcases List.mem_append.mp hy with hy | hy
  · rw [h3] at hy
    rcases List.mem_append.mp hy with hy | hy
    · rw [h4] at hy
      obtain ⟨s, hs1, rfl⟩ := List.mem_map.mp hy
      exact ⟨.v s, rfl, .v (hS s hs1)⟩
    · rw [h5] at hy
      rcases List.mem_cons.mp hy with rfl | hy
      · exact ⟨_, h6, .c (by decide)⟩
      · obtain rfl : y = y2 := by simpa using hy
        exact ⟨_, h7, .c (by decide)⟩
  · rcases h2 with h | ⟨y', h, hw⟩
    · rw [h] at hy
      exact absurd hy (by simp)
    · rw [h] at hy
      obtain rfl : y = y' := by simpa using hy
      exact ⟨_, hw, .c (by decide)⟩
theorem ret_opU {σ : L2.St} {H : Hp} {D : Ends} {r : R2} {ta tb : TE} {xs : List V} (h : EvU ta σ H xs) (k : ∀ p H1, H p = none → Ex H H1 → H1 p = some (.tup xs) → tb σ H1 (fun y H2 => r (.ref p) y H2 D.rt)) : tRet (tOp r ta tb) D σ H := h H (Ex.refl H) _ k
/-- x = _law_draw(_law_stream, m) -/
theorem q_draw {σ : L2.St} {H : Hp} {D : Ends} {tz : TS} {i j : Nat} {p q : Addr} {n m : Int} (hs : σ[j]? = some (some (.ref p))) (S : Spr H p q n) (hn : n < 100000) (hm : 1 ≤ m ∧ m ≤ 1000) (k : ∀ r G, 0 ≤ r → r < m → Spr G p q (n + 1) → But p q H G → tz D (σ.set i (some (.int r))) G) :
    tSeq (tAsg (tCall spDr [] E0 (tCons (tVar j) (tCons (tC (.int m)) tNil))) (gName i)) tz D σ H := ⟨.ref p, hs, p, q, n, m, rfl, S, hn, hm.1, hm.2, fun r G r0 r1 S' B => k r G r0 r1 S' B⟩
theorem ok_d_word (T : T24 P w K mg base) : ∀ L, Ok P w K mg base CX0 "_law_d_word" ["_law_stream", "_law_level", "_law_variables"] (L + 3) (spDw L) := by
  intro L
  obtain ⟨fD, dD, GD, bD, kD, mD⟩ := (ok_dr T).ex
  obtain ⟨fP, dP, GP, bP, kP, mP⟩ := (ok_pick T).ex
  induction L with
  | zero =>
    refine T.ok 29 rfl sc_dw (fun vs H Q E h => ?_) (fun kV doc pm an cdv ct us hl => match us, hl with | [_, _, _], _ => rfl) (fun f cdv A outer s H vs Q E hr h => ?_)
    · obtain ⟨p, q, va, n, xs, rfl, _⟩ := h
      rfl
    · obtain ⟨p, q, va, n, xs, rfl, S, hn, hv, n1, n2, hl, hS, k⟩ := h
      refine ⟨_, pss_cons (ps_set (i := 3) sc_dw.nd rfl (Or.inl rfl) (pe_call GD (hr.mono (by decide)) (by rfl) mD kD bD .nil pass0 (pa_cons (pv 0) (pa_cons pe_int pa_nil))))
        (pss_cons (ps_if (PW.pt (pw_or (pt_cmpR op_eq (pv 1) pe_int (nomark _)) (pw_or1 (pt_cmpR op_lt (pv 3) pe_int (nomark _)))))
          (pss_one (ps_ret (pe_call GP hr (by rfl) mP kP bP .nil pass0 (pa_cons (pv 0) (pa_cons (pe_op op_cat (pe_op op_cat (pe_callTy call_list_of (by rfl) T.list PyProof.Rows.boot_list (pa_cons (pv 2) pa_nil)) (pe_lst (pa_cons (pe_tup (pa_cons pe_str pa_nil)) (pa_cons (pe_tup (pa_cons pe_str pa_nil)) pa_nil))))
            (pe_op op_rep (pe_lst (pa_cons (pe_tup (pa_cons pe_str pa_nil)) pa_nil)) (pe_op op_sub pe_int (pe_callB (call_min2 rfl) (by rfl) T.min (by decide +kernel) (pa_cons pe_int (pa_cons (pe_callB call_len (by rfl) T.len PySem.boot_len (pa_cons (pv 2) pa_nil)) pa_nil)))))) pa_nil))))) pss_nil)
        (pss_cons ps_never (pss_one ps_never))), ?_⟩
      have hk : kk 0 = 2 := rfl
      refine q_draw rfl S (by omega) (by decide) fun r G r0 r1 S1 B1 => ?_
      refine q_when (b := true) (et_is (et_or (a := true) (b := true) (et_is (et_test (ev_op (ev_var rfl) ev_c (rv_eq rfl))) rfl) fun z => nomatch z) rfl) (fun _ G1 e1 => ?_) fun z => nomatch z
      have S2 := S1.ext e1
      have hv2 : G1 va = some (.lst (sVs xs)) := e1 _ _ (B1 _ _ n1 n2 hv)
      refine ⟨.ref p, rfl, ?_⟩
      refine elp_leaf (K := K) (σ := [some (.ref p), some (.int 0), some (.ref va), some (.int r), none, none]) rfl hv2 hl hS G1 (Ex.refl _) _ fun c ys G2 nc e2 hc hys => ?_
      obtain ⟨hne, hlen, hall⟩ := hys
      obtain ⟨c1, c2⟩ := S2.nep nc
      refine ⟨p, q, c, n + 1, ys, rfl, S2.ext e2, by omega, hc, c1, c2, hne, by omega, fun y G3 hy S3 B3 => ?_⟩
      obtain ⟨z, hz, hf⟩ := hall y hy
      exact k y G3 _ z S3 (by omega) (((B1.trans (But.of e1)).trans (But.of e2)).trans B3) (hz.tx ((S2.ext e2).tx B3)) (hf.dw 0)
  | succ L ih =>
    obtain ⟨fR, dR, GR, bR, kR, mR⟩ := ih.ex
    refine T.ok 29 rfl sc_dw (fun vs H Q E h => ?_) (fun kV doc pm an cdv ct us hl => match us, hl with | [_, _, _], _ => rfl) (fun f cdv A outer s H vs Q E hr h => ?_)
    · obtain ⟨p, q, va, n, xs, rfl, _⟩ := h
      rfl
    · obtain ⟨p, q, va, n, xs, rfl, S, hn, hv, n1, n2, hl, hS, k⟩ := h
      refine ⟨_, pss_cons (ps_set (i := 3) sc_dw.nd rfl (Or.inl rfl) (pe_call GD (hr.mono (by omega)) (by rfl) mD kD bD .nil pass0 (pa_cons (pv 0) (pa_cons pe_int pa_nil))))
        (pss_cons (ps_if (PW.pt (pw_or (pt_cmpR op_eq (pv 1) pe_int (nomark _)) (pw_or1 (pt_cmpR op_lt (pv 3) pe_int (nomark _)))))
          (pss_one (ps_ret (pe_call GP (hr.mono (by omega)) (by rfl) mP kP bP .nil pass0 (pa_cons (pv 0) (pa_cons (pe_op op_cat (pe_op op_cat (pe_callTy call_list_of (by rfl) T.list PyProof.Rows.boot_list (pa_cons (pv 2) pa_nil)) (pe_lst (pa_cons (pe_tup (pa_cons pe_str pa_nil)) (pa_cons (pe_tup (pa_cons pe_str pa_nil)) pa_nil))))
            (pe_op op_rep (pe_lst (pa_cons (pe_tup (pa_cons pe_str pa_nil)) pa_nil)) (pe_op op_sub pe_int (pe_callB (call_min2 rfl) (by rfl) T.min (by decide +kernel) (pa_cons pe_int (pa_cons (pe_callB call_len (by rfl) T.len PySem.boot_len (pa_cons (pv 2) pa_nil)) pa_nil)))))) pa_nil))))) pss_nil)
        (pss_cons (ps_set (i := 4) sc_dw.nd rfl (Or.inl rfl) (pe_ix ix_list (pe_lst (pa_cons pe_int (pa_cons pe_int (pa_cons pe_int (pa_cons pe_int (pa_cons pe_int pa_nil)))))) (pe_op op_sub (pv 3) pe_int) (fun _ _ => rfl)))
        (pss_one (ps_ret (pe_op op_catT (pe_tup (pa_cons (pe_ix ix_list (pe_lst (pa_cons pe_str (pa_cons pe_str (pa_cons pe_str pa_nil)))) (pe_op op_sub (pv 4) pe_int) (fun _ _ => rfl)) pa_nil))
          (pe_callTy call_tuple_of (by rfl) T.tuple PyProof.Rows.boot_tuple (pa_cons (pe_lc (own := [("_law_k", 5)]) (g := gName 5) (tt := tYes) (te := tCall (spDw L) [] E0 (tCons (tVar 0) (tCons (tOp (rI0 fun i j => .int (i - j)) (tVar 1) (tC (.int 1))) (tCons (tVar 2) tNil)))) rfl sc_dw.nd (pi_range1 (by rfl) T.range (pa_cons (pv 4) pa_nil))
            (blkOk_by (N := nDw) (sc := defScope s__law_d_word) (by decide +kernel)) (fun _ _ _ _ _ => pg_name (i := 5) sc_dw.nd rfl (Or.inl rfl)) (fun _ _ _ _ _ => pts_nil) (fun _ _ _ _ _ => pe_call GR hr (by rfl) mR kR bR .nil pass0 (pa_cons (pv 0) (pa_cons (pe_op op_sub (pv 1) pe_int) (pa_cons (pv 2) pa_nil))))) pa_nil))))))), ?_⟩
      have hk : kk (L + 1) = 3 * kk L + 2 := rfl
      refine q_draw rfl S (by omega) (by decide) fun r G r0 r1 S1 B1 => ?_
      have hv1 : G va = some (.lst (sVs xs)) := B1 _ _ n1 n2 hv
      refine q_when (b := decide (r < 3)) (et_is (et_or (a := false) (et_is (et_test (ev_op (ev_var rfl) ev_c (rv_eq rfl))) (decide_eq_false (fun z => by have := V.int.inj z; omega))) fun _ => et_test (ev_op (ev_var rfl) ev_c rv_I0)) (Bool.false_or _)) (fun _ G1 e1 => ?_) fun hb G1 e1 => ?_
      · have S2 := S1.ext e1
        have hv2 : G1 va = some (.lst (sVs xs)) := e1 _ _ hv1
        refine ⟨.ref p, rfl, ?_⟩
        refine elp_leaf (K := K) (σ := [some (.ref p), some (.int ((L + 1 : Nat) : Int)), some (.ref va), some (.int r), none, none]) rfl hv2 hl hS G1 (Ex.refl _) _ fun c ys G2 nc e2 hc hys => ?_
        obtain ⟨hne, hlen, hall⟩ := hys
        obtain ⟨c1, c2⟩ := S2.nep nc
        refine ⟨p, q, c, n + 1, ys, rfl, S2.ext e2, by omega, hc, c1, c2, hne, by omega, fun y G3 hy S3 B3 => ?_⟩
        obtain ⟨z, hz, hf⟩ := hall y hy
        exact k y G3 _ z S3 (by omega) (((B1.trans (But.of e1)).trans (But.of e2)).trans B3) (hz.tx ((S2.ext e2).tx B3)) (hf.dw (L + 1))
      · have hr3 : 3 ≤ r := by have := of_decide_eq_false hb; omega
        have S2 := S1.ext e1
        have hv2 : G1 va = some (.lst (sVs xs)) := e1 _ _ hv1
        have hmany : ∃ m : Nat, (m = 1 ∨ m = 2 ∨ m = 3) ∧ atI [V.int 1, V.int 1, V.int 2, V.int 2, V.int 3] (r - 3) = some (.int (m : Nat)) := by
          rcases (by omega : r = 3 ∨ r = 4 ∨ r = 5 ∨ r = 6 ∨ r = 7) with rfl | rfl | rfl | rfl | rfl
          · exact ⟨1, .inl rfl, rfl⟩
          · exact ⟨1, .inl rfl, rfl⟩
          · exact ⟨2, .inr (.inl rfl), rfl⟩
          · exact ⟨2, .inr (.inl rfl), rfl⟩
          · exact ⟨3, .inr (.inr rfl), rfl⟩
        obtain ⟨m, hm, hat⟩ := hmany
        refine q_asg (v := .int (m : Nat)) (ev_opL1 (y := .int (r - 3)) (el_lst (ea_cons ev_c (ea_cons ev_c (ea_cons ev_c (ea_cons ev_c (ea_cons ev_c ea_nil))))) (by show 5 ≤ 100000; decide)) (fun H1 _ => ev_op (ev_var rfl) ev_c rv_I0) fun pl H1 hpl _ => rv_ixL (sq_of hpl) hat) fun G2 e2 => ?_
        have hname : ∃ sn, sn ∈ (["f", "g", "h"] : List Str) ∧ atI [V.str "f", V.str "g", V.str "h"] ((m : Int) - 1) = some (.str sn) := by
          rcases hm with rfl | rfl | rfl
          · exact ⟨"f", by decide, rfl⟩
          · exact ⟨"g", by decide, rfl⟩
          · exact ⟨"h", by decide, rfl⟩
        obtain ⟨sn, hsn, hats⟩ := hname
        have hm3 : m ≤ 3 := by omega
        -- the name's tuple
        have en : Ev (tOp (rIxL K) (tLst (tCons (tC (.str "f")) (tCons (tC (.str "g")) (tCons (tC (.str "h")) tNil)))) (tOp (rI0 fun i j => .int (i - j)) (tVar 4) (tC (.int 1)))) [some (.ref p), some (.int ((L + 1 : Nat) : Int)), some (.ref va), some (.int r), some (.int (m : Nat)), none] G2 (.str sn) :=
          ev_opL1 (y := .int ((m : Int) - 1)) (el_lst (ea_cons ev_c (ea_cons ev_c (ea_cons ev_c ea_nil))) (by show 3 ≤ 100000; decide)) (fun H1 _ => ev_op (ev_var rfl) ev_c rv_I0) fun pl H1 hpl _ => rv_ixL (sq_of hpl) hats
        refine ret_opU (eu_tup (ea_cons en ea_nil) (by show 1 ≤ 100000; decide)) fun pt G3 npt e3 hpt => ?_
        have S4 := (S2.ext e2).ext e3
        have hv4 : G3 va = some (.lst (sVs xs)) := e3 _ _ (e2 _ _ hv2)
        refine ⟨.int (m : Nat), rfl, _, rfl, by omega, by omega, fun Dl hD => ?_⟩
        obtain ⟨d1, d2⟩ := S4.nep hD
        have x4 : Ex G3 (upd G3 Dl (.lst [])) := Ex.new hD
        refine lc_range (lo := 0) (fun i J => ∃ acc n', Spr J p q n' ∧ n' ≤ n + 1 + ((i * kk L : Nat) : Int) ∧ J Dl = some (.lst acc) ∧ acc.length = i ∧ (∃ zs : List W, WVs J acc zs ∧ ∀ z ∈ zs, Dw L z) ∧ But p q G3 J) ?_ ?_ ?_
        · exact ⟨[], n + 1, S4.ext x4, by simp, upd_same, rfl, ⟨[], rfl, fun z hz => nomatch hz⟩, But.of x4⟩
        · rintro i J hi ⟨acc, n', SJ, hnJ, hJ, hal, ⟨zs, hzs, hdw⟩, BJ⟩
          refine ⟨rfl, ?_⟩
          unfold tYes
          dsimp only
          rw [if_pos (rfl : true = true)]
          have hi' : i < m := by simpa using hi
          have hik : i * kk L + kk L ≤ 3 * kk L := by
            have : (i + 1) * kk L ≤ 3 * kk L := Nat.mul_le_mul_right _ (by omega)
            rw [Nat.add_mul, Nat.one_mul] at this
            exact this
          have hvJ : J va = some (.lst (sVs xs)) := BJ _ _ n1 n2 hv4
          have hvD : va ≠ Dl := ne_of_none hv4 hD
          refine ⟨.ref p, rfl, .int ((L + 1 : Nat) : Int), rfl, _, _, rfl, rfl, .ref va, rfl, ?_⟩
          refine ⟨p, q, va, n', xs, ?_, SJ, by omega, hvJ, n1, n2, hl, hS, fun y J2 n2' z SJ2 hn2 BJ2 hz hdz => ?_⟩
          · have e : (((L + 1 : Nat) : Int)) - 1 = (L : Nat) := by omega
            show [V.ref p, V.int (((L + 1 : Nat) : Int) - 1), V.ref va] = _
            rw [e]
          · have hJ2 : J2 Dl = some (.lst acc) := BJ2 _ _ d1 d2 hJ
            have tJ : Tx J2 (upd J2 Dl (.lst (acc ++ [y]))) := Tx.lst hJ2
            refine ⟨acc, hJ2, sz_lt (by omega), acc ++ [y], n2', SJ2.keep (fun o h => by rw [upd_ne d1.symm]; exact h) (fun o h => by rw [upd_ne d2.symm]; exact h), ?_, upd_same, by simp [hal], ⟨zs ++ [z], ?_, fun z' hz' => ?_⟩, ?_⟩
            · rw [Nat.add_mul, Nat.one_mul]
              omega
            · unfold WVs
              rw [W.os_map, List.map_append, ← W.os_map]
              exact OVs.append (WVs.tx tJ (WVs.tx (SJ.tx BJ2) hzs)) (.cons (hz.tx tJ) .nil)
            · rcases List.mem_append.mp hz' with h | h
              · exact hdw z' h
              · obtain rfl : z' = z := by simpa using h
                exact hdz
            · intro b o nb1 nb2 e
              rw [upd_ne (ne_of_none e hD)]
              exact BJ2 _ _ nb1 nb2 (BJ _ _ nb1 nb2 e)
        · rintro J ⟨acc, n', SJ, hnJ, hJ, hal, ⟨zs, hzs, hdw⟩, BJ⟩
          have hm' : ((m : Nat) : Int).toNat = m := rfl
          rw [hm'] at hnJ hal
          refine ⟨Dl, acc, rfl, .inl ⟨sq_of hJ, fun pu hpu => ?_⟩⟩
          have hptJ : J pt = some (.tup [.str sn]) := (S4.tx BJ) _ _ hpt
          have x5 : Ex J (upd J pu (.tup acc)) := Ex.new hpu
          have hacc : acc ≠ [] := by intro z; rw [z] at hal; simp at hal; omega
          refine ⟨pt, pu, [.str sn], acc, rfl, rfl, st_of (x5 _ _ hptJ), st_of upd_same, by simp, sz_of (by simp; omega), fun z => absurd z hacc, fun _ pr hpr => ?_⟩
          have x6 : Ex (upd J pu (.tup acc)) (upd (upd J pu (.tup acc)) pr (.tup ([.str sn] ++ acc))) := Ex.new hpr
          have x56 := x5.trans x6
          have hzl : zs.length = m := by rw [← WVs.length hzs]; exact hal
          have hk3 : m * kk L ≤ 3 * kk L := Nat.mul_le_mul_right _ hm3
          refine k (.ref pr) _ n' (.n sn zs) (SJ.ext x56) (by omega) ((((((B1.trans (But.of e1)).trans (But.of e2)).trans (But.of e3)).trans BJ)).trans (But.of x56)) (WV.of upd_same (WVs.ext x56 hzs)) (Dw.node hsn (by omega) hdw)
end
end K24

set_option Elab.async false
set_option linter.all false
set_option maxRecDepth 100000
set_option maxHeartbeats 4000000
/-! Atoms drawn. -/
namespace K24
open PySem PySem.Spec PyProof.Rows L2 Evl
def nmAr : List (Str × Nat) := [("p", 1), ("q", 1), ("r", 2), ("s", 0)]
theorem pick_nm {y : V} (h : y ∈ [V.str "p", V.str "p", V.str "q", V.str "r", V.str "s"]) : ∃ s m, y = .str s ∧ (s, m) ∈ nmAr := by
  simp only [List.mem_cons, List.not_mem_nil, or_false] at h
  rcases h with rfl | rfl | rfl | rfl | rfl
  · exact ⟨_, 1, rfl, by simp [nmAr]⟩
  · exact ⟨_, 1, rfl, by simp [nmAr]⟩
  · exact ⟨_, 1, rfl, by simp [nmAr]⟩
  · exact ⟨_, 2, rfl, by simp [nmAr]⟩
  · exact ⟨_, 0, rfl, by simp [nmAr]⟩
theorem nm_fit : ∀ x ∈ nmAr, nameB x.1 = true ∧ SS.contains x.1 = true ∧ (x.1 == "=") = false ∧ x.2 ≤ 2 := by decide +kernel
def nmKvs : List (Key × V) := [(Sum.inr "p", .int 1), (Sum.inr "q", .int 1), (Sum.inr "r", .int 2), (Sum.inr "s", .int 0)]
theorem nm_val : ∀ x ∈ nmAr, valV (mergeK [] nmKvs) (Sum.inr x.1 : Key) = some (.int (x.2 : Nat)) := by
  intro x hx
  simp only [nmAr, List.mem_cons, List.not_mem_nil, or_false] at hx
  rcases hx with rfl | rfl | rfl | rfl <;> decide +kernel
theorem kids (L : Nat) : ∀ l : List W, (∀ x ∈ l, Dw L x) → O.fits (W.os l) = true ∧ O.sss (W.os l) = true ∧ W.nds l ≤ l.length * nN L ∧ W.dps l ≤ L + 1 := by
  intro l
  induction l with
  | nil => intro _; exact ⟨rfl, rfl, Nat.zero_le _, Nat.zero_le _⟩
  | cons x l ih =>
    intro h
    obtain ⟨a, b, c, d⟩ := ih fun y hy => h y (List.mem_cons_of_mem _ hy)
    have hx := h x (List.mem_cons_self ..)
    refine ⟨?_, ?_, ?_, ?_⟩
    · show (x.o.fit && O.fits (W.os l)) = true
      rw [hx.fit, a]
      rfl
    · show (x.o.ss && O.sss (W.os l)) = true
      rw [hx.ss, b]
      rfl
    · show x.nd + W.nds l ≤ (l.length + 1) * nN L
      have := hx.nd
      rw [Nat.add_mul, Nat.one_mul]
      omega
    · exact Nat.max_le.mpr ⟨hx.dp, d⟩
theorem Dz.atom {s : Str} {m : Nat} {as : List W} (hs : (s, m) ∈ nmAr) (hl : as.length = m) (h : ∀ x ∈ as, Dw 3 x) : Dz (.n s as) ∧ (W.n s as).nd ≤ 81 ∧ (W.n s as).o.fit = true ∧ (W.n s as).dp ≤ 6 := by
  obtain ⟨h1, h2, h3, h4⟩ := nm_fit _ hs
  obtain ⟨a, b, c, d⟩ := kids 3 as h
  have hm : m ≤ 2 := h4
  have hnd : (W.n s as).nd ≤ 81 := by
    show W.nds as + 1 ≤ 81
    have : as.length * nN 3 ≤ 2 * nN 3 := Nat.mul_le_mul_right _ (by omega)
    have e : nN 3 = 40 := rfl
    omega
  refine ⟨⟨?_, ?_, by omega, ?_⟩, hnd, ?_, ?_⟩
  · unfold O.fitW
    have : (W.n s as).o.fitA = true := by
      show ((eqL (.str s :: W.os as) || headB (.str s) (W.os as).length) && O.fits (W.os as)) = true
      rw [a, Bool.and_true, os_len]
      show (eqL (.str s :: W.os as) || (decide (as.length ≤ 6) && nameB s)) = true
      rw [show nameB s = true from h1, decide_eq_true (by omega)]
      simp
    rw [this, Bool.or_true]
  · show (SS.contains s && O.sss (W.os as)) = true
    rw [show SS.contains s = true from h2, b]
    rfl
  · show W.dps as + 1 < 12
    omega
  · show (headB (.str s) (W.os as).length && O.fits (W.os as)) = true
    rw [a, Bool.and_true, os_len]
    show (decide (as.length ≤ 6) && nameB s) = true
    rw [show nameB s = true from h1, decide_eq_true (by omega)]
    rfl
  · show W.dps as + 1 ≤ 6
    omega
theorem Dz.eq {x y : W} (hx : Dz x) (hx2 : x.o.fit = true) (hn : x.nd ≤ 81) (hd : x.dp ≤ 6) (hy : Dw 2 y) : Dz (.n "=" [x, y]) ∧ (W.n "=" [x, y]).nd ≤ 95 := by
  have e : nN 2 = 13 := rfl
  have h1 := hy.nd
  have hnd : (W.n "=" [x, y]).nd ≤ 95 := by
    show x.nd + (y.nd + 0) + 1 ≤ 95
    omega
  refine ⟨⟨?_, ?_, by omega, ?_⟩, hnd⟩
  · unfold O.fitW
    have : (W.n "=" [x, y]).o.fitA = true := by
      show ((eqL [.str "=", x.o, y.o] || headB (.str "=") 2) && (x.o.fit && (y.o.fit && true))) = true
      rw [hx2, hy.fit]
      rfl
    rw [this, Bool.or_true]
  · show (SS.contains "=" && (x.o.ss && (y.o.ss && true))) = true
    rw [hx.ss, hy.ss]
    decide +kernel
  · have := hy.dp
    show max x.dp (max y.dp 0) + 1 < 12
    omega
section
variable {P : Program} {w : World} {K : PySem.W.Frag} {mg : Str → Option Value} {base : Heap}
def spAt : Sp := fun vs H Q _ => ∃ (p q va : Addr) (n : Int) (xs : List Str), vs = [.ref p, .int 3, .ref va] ∧ Spr H p q n ∧ n + 400 ≤ 90000 ∧ H va = some (.lst (sVs xs)) ∧ va ≠ p ∧ va ≠ q ∧ xs.length ≤ 4 ∧ (∀ s ∈ xs, s ∈ SV) ∧
  ∀ (r : V) (G : Hp) (n' : Int) (z : W), Spr G p q n' → n' ≤ n + 400 → But p q H G → WV G r z → Dz z → (z.nd ≤ 81 ∧ z.o.fit = true ∧ z.dp ≤ 6) → Q r G
abbrev nAt : List Str := ["_law_stream", "_law_level", "_law_variables", "_law_name", "_law_many", "_law_k"]
theorem sc_at : FnScope nAt ["_law_stream", "_law_level", "_law_variables"] (defScope s__law_d_atom) := ⟨rfl, rfl, rfl, by decide +kernel, rfl, by decide +kernel, by decide +kernel⟩
theorem ev_nm {σ : L2.St} {H : Hp} {i : Nat} {s : Str} {m : Nat} (hs : σ[i]? = some (some (.str s))) (h : (s, m) ∈ nmAr) :
    Ev (tDGet (tDisp [(tC (.str "p"), tC (.int 1)), (tC (.str "q"), tC (.int 1)), (tC (.str "r"), tC (.int 2)), (tC (.str "s"), tC (.int 0))]) (tVar i)) σ H (.int (m : Nat)) := fun H1 e Q q pd hpd =>
  ⟨upd_same, nmKvs, rfl, by decide, .str s, hs, pd, _, rfl, by
    have g := DGet.k (H := upd (upd H1 pd (.dK [])) pd (.dK (mergeK [] nmKvs))) (k := (Sum.inr s : Key)) upd_same
    rw [nm_val _ h] at g
    exact g, q _ (Ex.mut (Ex.new hpd) hpd)⟩
theorem ok_d_atom (T : T24 P w K mg base) : Ok P w K mg base CX0 "_law_d_atom" ["_law_stream", "_law_level", "_law_variables"] 7 spAt := by
  obtain ⟨fP, dP, GP, bP, kP, mP⟩ := (ok_pick T).ex
  obtain ⟨fR, dR, GR, bR, kR, mR⟩ := (ok_d_word T 3).ex
  refine T.ok 30 rfl sc_at (fun vs H Q E h => ?_) (fun kV doc pm an cdv ct us hl => match us, hl with | [_, _, _], _ => rfl) (fun f cdv A outer s H vs Q E hr h => ?_)
  · obtain ⟨p, q, va, n, xs, rfl, _⟩ := h
    rfl
  · obtain ⟨p, q, va, n, xs, rfl, S, hn, hv, n1, n2, hl, hS, k⟩ := h
    refine ⟨_, pss_cons (ps_set (i := 3) sc_at.nd rfl (Or.inl rfl) (pe_call GP (hr.mono (by decide)) (by rfl) mP kP bP .nil pass0 (pa_cons (pv 0) (pa_cons (pe_lst (pa_cons pe_str (pa_cons pe_str (pa_cons pe_str (pa_cons pe_str (pa_cons pe_str pa_nil)))))) pa_nil))))
      (pss_cons (ps_set (i := 4) sc_at.nd rfl (Or.inl rfl) (pe_dget (hu_of hr) (pe_disp (pps_cons pe_str pe_int (pps_cons pe_str pe_int (pps_cons pe_str pe_int (pps_cons pe_str pe_int pps_nil)))) (by rfl) (by rfl) (fun z => by cases z) (by decide)) (pv 3) (fun _ _ => rfl)))
      (pss_one (ps_ret (pe_op op_catT (pe_tup (pa_cons (pv 3) pa_nil))
        (pe_callTy call_tuple_of (by rfl) T.tuple PyProof.Rows.boot_tuple (pa_cons (pe_lc (own := [("_law_k", 5)]) (g := gName 5) (tt := tYes) (te := tCall (spDw 3) [] E0 (tCons (tVar 0) (tCons (tVar 1) (tCons (tVar 2) tNil)))) rfl sc_at.nd (pi_range1 (by rfl) T.range (pa_cons (pv 4) pa_nil))
          (blkOk_by (N := nAt) (sc := defScope s__law_d_atom) (by decide +kernel)) (fun _ _ _ _ _ => pg_name (i := 5) sc_at.nd rfl (Or.inl rfl)) (fun _ _ _ _ _ => pts_nil) (fun _ _ _ _ _ => pe_call GR hr (by rfl) mR kR bR .nil pass0 (pa_cons (pv 0) (pa_cons (pv 1) (pa_cons (pv 2) pa_nil))))) pa_nil)))))), ?_⟩
    have hk3 : kk 3 = 80 := rfl
    refine ⟨.ref p, rfl, by show 5 ≤ sizeLine; decide, fun c hc => ?_⟩
    have xc : Ex H (upd H c (.lst [V.str "p", V.str "p", V.str "q", V.str "r", V.str "s"])) := Ex.new hc
    obtain ⟨c1, c2⟩ := S.nep hc
    refine ⟨p, q, c, n, _, rfl, S.ext xc, by omega, upd_same, c1, c2, by simp, by simp, fun y G hy S1 B1 => ?_⟩
    have B1' := (But.of (p := p) (q := q) xc).trans B1
    have hv1 : G va = some (.lst (sVs xs)) := B1' _ _ n1 n2 hv
    obtain ⟨sn, m, rfl, hsm⟩ := pick_nm hy
    obtain ⟨g1, g2, g3, g4⟩ := nm_fit _ hsm
    have hm2 : m ≤ 2 := g4
    refine q_asg (v := .int (m : Nat)) (ev_nm rfl hsm) fun G2 e2 => ?_
    refine ret_opU (eu_tup (ea_cons (ev_var rfl) ea_nil) (by show 1 ≤ 100000; decide)) fun pt G3 npt e3 hpt => ?_
    have S4 := (S1.ext e2).ext e3
    have hv4 : G3 va = some (.lst (sVs xs)) := e3 _ _ (e2 _ _ hv1)
    refine ⟨.int (m : Nat), rfl, _, rfl, by omega, by omega, fun Dl hD => ?_⟩
    obtain ⟨d1, d2⟩ := S4.nep hD
    have x4 : Ex G3 (upd G3 Dl (.lst [])) := Ex.new hD
    refine lc_range (lo := 0) (fun i J => ∃ acc n', Spr J p q n' ∧ n' ≤ n + 1 + ((i * 80 : Nat) : Int) ∧ J Dl = some (.lst acc) ∧ acc.length = i ∧ (∃ zs : List W, WVs J acc zs ∧ ∀ z ∈ zs, Dw 3 z) ∧ But p q G3 J) ?_ ?_ ?_
    · exact ⟨[], n + 1, S4.ext x4, by simp, upd_same, rfl, ⟨[], rfl, fun z hz => nomatch hz⟩, But.of x4⟩
    · rintro i J hi ⟨acc, n', SJ, hnJ, hJ, hal, ⟨zs, hzs, hdw⟩, BJ⟩
      refine ⟨rfl, ?_⟩
      unfold tYes
      dsimp only
      rw [if_pos (rfl : true = true)]
      have hi' : i < m := by simpa using hi
      have hvJ : J va = some (.lst (sVs xs)) := BJ _ _ n1 n2 hv4
      refine ⟨.ref p, rfl, .int 3, rfl, .ref va, rfl, ?_⟩
      refine ⟨p, q, va, n', xs, rfl, SJ, by omega, hvJ, n1, n2, hl, hS, fun y J2 n2' z SJ2 hn2 BJ2 hz hdz => ?_⟩
      have hJ2 : J2 Dl = some (.lst acc) := BJ2 _ _ d1 d2 hJ
      have tJ : Tx J2 (upd J2 Dl (.lst (acc ++ [y]))) := Tx.lst hJ2
      refine ⟨acc, hJ2, sz_lt (by omega), acc ++ [y], n2', SJ2.keep (fun o h => by rw [upd_ne d1.symm]; exact h) (fun o h => by rw [upd_ne d2.symm]; exact h), by omega, upd_same, by simp [hal], ⟨zs ++ [z], ?_, fun z' hz' => ?_⟩, ?_⟩
      · unfold WVs
        rw [W.os_map, List.map_append, ← W.os_map]
        exact OVs.append (WVs.tx tJ (WVs.tx (SJ.tx BJ2) hzs)) (.cons (hz.tx tJ) .nil)
      · rcases List.mem_append.mp hz' with h | h
        · exact hdw z' h
        · obtain rfl : z' = z := by simpa using h
          exact hdz
      · intro b o nb1 nb2 e
        rw [upd_ne (ne_of_none e hD)]
        exact BJ2 _ _ nb1 nb2 (BJ _ _ nb1 nb2 e)
    · rintro J ⟨acc, n', SJ, hnJ, hJ, hal, ⟨zs, hzs, hdw⟩, BJ⟩
      have hm' : ((m : Nat) : Int).toNat = m := rfl
      rw [hm'] at hnJ hal
      have hzl : zs.length = m := by rw [← WVs.length hzs]; exact hal
      obtain ⟨hdz, hnd⟩ := Dz.atom hsm hzl hdw
      refine ⟨Dl, acc, rfl, .inl ⟨sq_of hJ, fun pu hpu => ?_⟩⟩
      have hptJ : J pt = some (.tup [.str sn]) := (S4.tx BJ) _ _ hpt
      have x5 : Ex J (upd J pu (.tup acc)) := Ex.new hpu
      have Ball := ((((B1'.trans (But.of e2)).trans (But.of e3)).trans BJ))
      refine ⟨pt, pu, [.str sn], acc, rfl, rfl, st_of (x5 _ _ hptJ), st_of upd_same, by simp, sz_of (by simp; omega), fun z => ?_, fun _ pr hpr => ?_⟩
      · subst z
        have hz0 : zs = [] := List.length_eq_zero_iff.mp (by rw [← WVs.length hzs]; rfl)
        subst hz0
        exact k (.ref pt) _ n' (.n sn []) (SJ.ext x5) (by omega) (Ball.trans (But.of x5)) (WV.of (us := []) (x5 _ _ hptJ) rfl) hdz hnd
      · have x6 : Ex (upd J pu (.tup acc)) (upd (upd J pu (.tup acc)) pr (.tup ([.str sn] ++ acc))) := Ex.new hpr
        have x56 := x5.trans x6
        exact k (.ref pr) _ n' (.n sn zs) (SJ.ext x56) (by omega) (Ball.trans (But.of x56)) (WV.of upd_same (WVs.ext x56 hzs)) hdz hnd
end
end K24

set_option Elab.async false
set_option linter.all false
set_option maxRecDepth 100000
set_option maxHeartbeats 4000000
/-! The law's parts of words. -/
namespace K24
open PySem PySem.Spec PyProof.Rows L2 Evl
def PaV (B : Addr → Prop) (H : Hp) (x : V) (p : List Nat × W) : Prop := ∃ t l u, x = .ref t ∧ H t = some (.tup [.ref l, u]) ∧ B l ∧ H l = some (.lst (nums p.1)) ∧ WV H u p.2
theorem PaV.mut {B B' : Addr → Prop} {H G : Hp} {x : V} {p : List Nat × W} (h : PaV B H x p) (tx : Tx H G) (l : ∀ a o, B a → H a = some o → G a = some o) (b : ∀ a, B a → B' a) : PaV B' G x p := by
  obtain ⟨t, a, u, rfl, h1, h2, h3, h4⟩ := h
  exact ⟨t, a, u, rfl, tx _ _ h1, b _ h2, l _ _ h2 h3, h4.tx tx⟩
def prtL (as : List W) : List (List Nat × W) := W.partsL 0 as
theorem prtL_snoc (xs : List W) (x : W) : prtL (xs ++ [x]) = prtL xs ++ x.parts.map fun q => (xs.length :: q.1, q.2) := by
  unfold prtL
  rw [W.partsL_snoc, Nat.zero_add]
section
variable {P : Program} {w : World} {K : PySem.W.Frag} {mg : Str → Option Value} {base : Heap}
def spDp (m : Nat) : Sp := fun vs H Q _ => ∃ v z, vs = [v] ∧ WV H v z ∧ z.dp < m ∧ m ≤ 40 ∧ z.sz ≤ 9000 ∧
  ∀ p xs H', H p = none → Ex H H' → H' p = some (.lst xs) → A2 (PaV (fun l => H l = none ∧ l ≠ p) H') xs z.parts → Q (.ref p) H'
abbrev nDp : List Str := ["_law_word", "_law_found", "_law_index", "_law_part", "_law_place", "_law_deep"]
theorem sc_dp : FnScope nDp ["_law_word"] (defScope s__law_d_parts) := ⟨rfl, rfl, rfl, by decide +kernel, rfl, by decide +kernel, by decide +kernel⟩
theorem ok_d_parts (T : T24 P w K mg base) : ∀ m, Ok P w K mg base CX0 "_law_d_parts" ["_law_word"] (m + 1) (spDp m)
  | 0 => T.ok 32 rfl sc_dp (fun vs H Q E h => by obtain ⟨v, z, rfl, _⟩ := h; rfl) (fun kV doc pm an cdv ct us hl => match us, hl with | [_], _ => rfl) (fun f cdv A outer s H vs Q E hr h => by obtain ⟨v, z, _, _, h0, _⟩ := h; exact absurd h0 (Nat.not_lt_zero _))
  | m + 1 => by
    obtain ⟨fR, dR, GR, bR, kR, mR⟩ := (ok_d_parts T m).ex
    refine T.ok 32 rfl sc_dp (fun vs H Q E h => ?_) (fun kV doc pm an cdv ct us hl => match us, hl with | [_], _ => rfl) (fun f cdv A outer s H vs Q E hr h => ?_)
    · obtain ⟨v, z, rfl, _⟩ := h
      rfl
    · obtain ⟨v, z, rfl, hw, hz, hm, hs, k⟩ := h
      refine ⟨_, pss_cons (ps_set (i := 1) sc_dp.nd rfl (Or.inl rfl) (pe_lst (pa_cons (pe_tup (pa_cons (pe_lst pa_nil) (pa_cons (pv 0) pa_nil))) pa_nil)))
        (pss_cons (ps_if (pt_not (pt_val (pe_isiB T.isi T.str PyProof.Rows.boot_str (pv 0))))
          (pss_one (ps_for PassesOwn.never rfl (pi_enumT (by rfl) T.enumerate (pa_cons (pe_slice sl_tup (pv 0) (po_some pe_int) po_none) pa_nil)) (pg_tup rfl (pgs_cons (pg_name (i := 2) sc_dp.nd rfl (Or.inr rfl)) (pgs_cons (pg_name (i := 3) sc_dp.nd rfl (Or.inl rfl)) pgs_nil)))
            (pss_one (ps_expr (pe_bm PySem.F.plainAttrs_list PySem.F.slot_list_extend PySem.F.type_list_extend mt_extend (pv 1) (pa_cons
              (pe_lc (own := [("_law_place", 4), ("_law_deep", 5)]) (g := gPair K 4 5) (tt := tYes) (te := tTup (tCons (tOp rCat (tLst (tCons (tVar 2) tNil)) (tVar 4)) (tCons (tVar 5) tNil))) rfl sc_dp.nd (pi_list (pe_call GR hr (by rfl) mR kR bR .nil pass0 (pa_cons (pv 3) pa_nil))) (blkOk_by (N := nDp) (sc := defScope s__law_d_parts) (by decide +kernel))
                (fun _ _ _ _ _ => pg_tup rfl (pgs_cons (pg_name (i := 4) sc_dp.nd rfl (Or.inl rfl)) (pgs_cons (pg_name (i := 5) sc_dp.nd rfl (Or.inl rfl)) pgs_nil))) (fun _ _ _ _ _ => pts_nil)
                (fun _ _ _ _ _ => pe_tup (pa_cons (pe_op op_cat (pe_lst (pa_cons (pv 2) pa_nil)) (pv 4)) (pa_cons (pv 5) pa_nil)))) pa_nil)))))) pss_nil)
        (pss_one (ps_ret (pv 1)))), ?_⟩
      refine ⟨Nat.zero_le _, fun l hl => ⟨_, rfl, by show 2 ≤ sizeLine; decide, fun t ht => ⟨by show 1 ≤ sizeLine; decide, fun p hp => ?_⟩⟩⟩
      have e1 : Ex H (upd H l (.lst [])) := Ex.new hl
      have e2 := e1.trans (Ex.new (o := .tup [.ref l, v]) ht)
      have e3 := e2.trans (Ex.new (o := .lst [.ref t]) hp)
      have hp0 : H p = none := fresh_back e2 hp
      have hlp : l ≠ p := by
        intro q
        have q2 := (Ex.new (H := upd H l (.lst [])) (o := .tup [.ref l, v]) ht) l _ upd_same
        rw [q] at q2
        rw [q, q2] at hp
        cases hp
      have htp : t ≠ p := by
        intro q
        rw [← q, upd_same] at hp
        cases hp
      have first : PaV (fun l => H l = none ∧ l ≠ p) (upd (upd (upd H l (.lst [])) t (.tup [.ref l, v])) p (.lst [.ref t])) (.ref t) ([], z) :=
        ⟨t, l, v, rfl, by rw [upd_ne htp, upd_same], ⟨hl, hlp⟩, by rw [upd_ne hlp]; exact (Ex.new (o := .tup [.ref l, v]) ht) l _ upd_same, hw.ext e3⟩
      have keep : ∀ {G1 G2 : Hp} {xs : List V} {L : List (List Nat × W)}, A2 (PaV (fun l => H l = none ∧ l ≠ p) G1) xs L → Tx G1 G2 → (∀ a o, a ≠ p → G1 a = some o → G2 a = some o) → A2 (PaV (fun l => H l = none ∧ l ≠ p) G2) xs L :=
        fun h tx e => h.mono fun a b q => q.mut tx (fun c o q1 q2 => e c o q1.2 q2) fun _ q => q
      cases z with
      | v sv =>
        obtain rfl : v = .str sv := hw
        refine q_when (b := false) (et_not (a := true) (et_B (ev_isStr (o := .str sv) (ev_var rfl) rfl))) (fun z => nomatch z) fun _ H1 e4 => ?_
        refine s_ret (ev_var rfl) fun H2 e5 => k p [.ref t] H2 hp0 ((e3.trans e4).trans e5) (e5 _ _ (e4 _ _ upd_same)) ?_
        exact keep ⟨first, trivial⟩ (Tx.of (e4.trans e5)) fun a o _ q => e5 _ _ (e4 _ _ q)
      | n sn as =>
        obtain ⟨r, us, rfl, hr1, hu⟩ := hw.tup
        have hul := hu.length
        have hdp : W.dps as < m := by have : (W.n sn as).dp = W.dps as + 1 := rfl; omega
        have hsz : W.szs as + 2 ≤ 9000 := hs
        refine q_when (b := true) (et_not (a := false) (et_B (ev_isStr (o := (W.n sn as).o) (ev_var rfl) (hw.ext e3)))) (fun _ H1 e4 => ?_) (fun z => nomatch z)
        have e04 := e3.trans e4
        refine s_forEnumNT (eu_tail (ev_var rfl) (st_of (e04 _ _ hr1))) (fun i σ' H' => Ex H H' ∧ (∃ a b : Option V, σ' = [some (.ref r), some (.ref p), a, b, none, none]) ∧ ∃ xs, H' p = some (.lst xs) ∧ A2 (PaV (fun l => H l = none ∧ l ≠ p) H') xs (([], W.n sn as) :: prtL (as.take i))) ?_ ?_ ?_
        · intro H2 e5
          refine ⟨e04.trans e5, ⟨none, none, rfl⟩, [.ref t], e5 _ _ (e4 _ _ upd_same), ?_⟩
          exact keep ⟨first, trivial⟩ (Tx.of (e4.trans e5)) fun a o _ q => e5 _ _ (e4 _ _ q)
        · rintro i x σ' H' H2 hx ⟨e5, ⟨a, b, rfl⟩, xs, h5, hP⟩ e6 N hN
          have e06 := e5.trans e6
          have h6 := e6 _ _ h5
          obtain ⟨y, hy, hwy⟩ := (hu.ext e06).getv hx
          have hyd := W.lt_dp hy
          have hys := W.lt_sz hy
          have hlenx := hP.length
          have hpl := W.partsL_len 0 (as.take i)
          have htk := szs_take as i
          have hxl : xs.length ≤ 9001 := by
            rw [hlenx]
            show (prtL (as.take i)).length + 1 ≤ 9001
            unfold prtL
            omega
          refine s_extLP (P := fun zs G => A2 (PaV (fun l => H2 l = none) G) zs (y.parts.map fun q => (i :: q.1, q.2))) h6 (ev_var rfl) ?_ (fun zs G q => ?_) fun zs H3 e7 q => ?_
          · intro H3 e7 Q3 q3
            refine ⟨x, rfl, x, y, rfl, hwy.ext e7, by omega, by omega, by omega, fun pq ps H5 hpq e9 h9 hparts => ?_⟩
            have hpln := hparts.length
            have hpl2 := W.parts_len y
            refine ⟨pq, rfl, ⟨ps, sq_of h9⟩, fun Dl hD => lc_it walk_list (Cwp H5 (fun _ => true) (fun j v G => ∃ q, y.parts[j]? = some q ∧ PaV (fun l => H2 l = none ∧ l ≠ Dl) G v (i :: q.1, q.2)) Dl) (cwp0 hD) (fun i G _ c => sq_of (c.2.1 _ _ h9)) ?_ ?_⟩
            · rintro j v G G' hj c ⟨rfl, hv⟩
              obtain ⟨q5, hq5, t5, l5, u5, rfl, k1, k2, k3, k5⟩ := hparts.get hv
              have eG := c.2.1
              obtain ⟨acc, hacc, _⟩ := c.2.2
              refine ⟨t5, _, rfl, st_of (eG _ _ k1), rfl, _, _, rfl, _, _, rfl, rfl, rfl, cwp_turn (fun _ v => ?_) c (Ex.refl _) (by omega) et_yes (fun _ G3 e10 => ?_)⟩
              · intro G1 G2 xs1 a0 a1 a2 a3 ⟨q, hq, hp⟩
                have tx : Tx G1 G2 := fun a ys q => a3 a _ (ne_of q a0 (by intro z; cases z)) q
                exact ⟨q, hq, hp.mut tx (fun a o q1 q2 => a3 a o q1.2 q2) fun _ q => q⟩
              · intro G4 e11 Q4 q4
                have e12 := (eG.trans e10).trans e11
                have hq6 := W.parts_deep y q5 (List.mem_of_getElem? hq5)
                refine ⟨_, rfl, by show 1 ≤ sizeLine; decide, fun l6 hl6 => ⟨_, rfl, l6, l5, _, nums q5.1, rfl, rfl, upd_same, Ex.new hl6 _ _ (e12 _ _ k3), sz_of (by rw [nums_len]; simp; omega), fun l7 hl7 => ⟨_, rfl, by show 2 ≤ sizeLine; decide, fun t8 ht8 => ?_⟩⟩⟩
                have x6 : Ex G4 (upd G4 l6 (.lst [.int i])) := Ex.new hl6
                have x7 := x6.trans (Ex.new (o := .lst ([V.int i] ++ nums q5.1)) hl7)
                have x8 := x7.trans (Ex.new (o := .tup [.ref l7, u5]) ht8)
                have h47 : G4 l7 = none := fresh_back x6 hl7
                refine q4 _ _ x8 ⟨q5, hq5, t8, l7, u5, rfl, upd_same, ⟨fresh_back (((e7.trans e9).trans e12)) h47, fun z => ?_⟩, ?_, k5.ext (e12.trans x8)⟩
                · rw [z, e11 _ _ (e10 _ _ hacc)] at h47
                  cases h47
                · rw [upd_ne (fun z => by rw [z, upd_same] at ht8; cases ht8)]
                  exact upd_same
            · rintro G c
              obtain ⟨acc, hacc, hal, ha2⟩ := c.2.2
              rw [filter_true] at ha2
              refine q3 Dl acc G (fresh_back e9 c.1) (e9.trans c.2.1) hacc ?_
              have h3 : A2 (fun v q => PaV (fun l => H2 l = none ∧ l ≠ Dl) G v (i :: q.1, q.2)) acc y.parts := a2_range hpln ha2
              refine A2.of_get (by rw [List.length_map]; exact h3.length) fun j a b e1 e2 => ?_
              obtain ⟨q, hq, hr⟩ := h3.get e1
              rw [List.getElem?_map, hq] at e2
              obtain rfl : (i :: q.1, q.2) = b := Option.some.inj e2
              exact hr.mut (Tx.refl _) (fun _ _ _ q => q) fun _ q => q.1
          · have := q.length
            rw [List.length_map] at this
            have hpl2 := W.parts_len y
            omega
          · refine hN _ _ ⟨Ex.mut (e06.trans e7) hp0, ⟨_, _, rfl⟩, xs ++ zs, upd_same, ?_⟩ ((Tx.of e7).trans (Tx.lst (e7 _ _ h6)))
            rw [take_snoc hy, prtL_snoc, List.length_take, Nat.min_eq_left (by have := (List.getElem?_eq_some_iff.mp hy).1; omega)]
            have t7 : Tx H3 (upd H3 p (.lst (xs ++ zs))) := Tx.lst (e7 _ _ h6)
            refine A2.append (as := xs) (bs := ([], W.n sn as) :: prtL (as.take i)) ?_ ?_
            · refine keep hP ((Tx.of (e6.trans e7)).trans t7) fun a o nn q => ?_
              rw [upd_ne nn]
              exact e7 _ _ (e6 _ _ q)
            · refine q.mono fun a b q => q.mut t7 (fun c o q1 q2 => ?_) fun c q1 => ⟨fresh_back e06 q1, fun z => ?_⟩
              · rw [upd_ne (fun z => by rw [z, h6] at q1; cases q1)]
                exact q2
              · rw [z, h6] at q1
                cases q1
        · rintro σ' H' ⟨e5, ⟨a, b, rfl⟩, xs, h5, hP⟩
          rw [hul, List.take_length] at hP
          exact s_ret (ev_var rfl) fun H2 e6 => k p xs H2 hp0 (e5.trans e6) (e6 _ _ h5) (keep hP (Tx.of e6) fun a o _ q => e6 _ _ q)
end
end K24

set_option Elab.async false
set_option linter.all false
set_option maxRecDepth 100000
set_option maxHeartbeats 4000000
/-! What is known beside some objects, and beside tables; words handed loosely. -/
namespace K24
open PySem PySem.Spec PyProof.Rows L2 Evl LamX
open Classical in
/-- the heap without the objects of B, without tables -/
noncomputable def Hx (B : Addr → Prop) (H : Hp) : Hp := fun b => if B b then none else match H b with
  | some (.tbl _) => none
  | o => o
theorem hx_of {B : Addr → Prop} {H : Hp} {b : Addr} {o : HO} (n : ¬ B b) (t : ∀ ps, o ≠ .tbl ps) (h : H b = some o) : Hx B H b = some o := by
  unfold Hx
  rw [if_neg n, h]
  split
  · rename_i ps e
    exact absurd (Option.some.inj e) (t ps)
  · rfl
theorem hx_to {B : Addr → Prop} {H : Hp} {b : Addr} {o : HO} (h : Hx B H b = some o) : ¬ B b ∧ (∀ ps, o ≠ .tbl ps) ∧ H b = some o := by
  unfold Hx at h
  by_cases n : B b
  · rw [if_pos n] at h
    cases h
  · rw [if_neg n] at h
    split at h
    · cases h
    · rename_i x hx
      exact ⟨n, fun ps e => hx ps (by rw [h, e]), h⟩
/-- all but the objects of B and the tables stay -/
def Go (B : Addr → Prop) (H G : Hp) : Prop := ∀ b o, ¬ B b → (∀ ps, o ≠ .tbl ps) → H b = some o → G b = some o
theorem Go.ex {B : Addr → Prop} {H G : Hp} (g : Go B H G) : Ex (Hx B H) (Hx B G) := fun b o h => by
  obtain ⟨h1, h2, h3⟩ := hx_to h
  exact hx_of h1 h2 (g b o h1 h2 h3)
theorem hx_ex {B : Addr → Prop} {H : Hp} : Ex (Hx B H) H := fun b o h => (hx_to h).2.2
theorem hx_mono {B B' : Addr → Prop} {H : Hp} (m : ∀ b, B b → B' b) : Ex (Hx B' H) (Hx B H) := fun b o h => by
  obtain ⟨h1, h2, h3⟩ := hx_to h
  exact hx_of (fun z => h1 (m b z)) h2 h3
theorem Go.of {B : Addr → Prop} {H G : Hp} (e : Ex H G) : Go B H G := fun b o _ _ h => e b o h
theorem Go.ofN {B : Addr → Prop} {H G : Hp} (e : ExtN H G) : Go B H G := fun b o _ t h => e b o h t
theorem Go.but {B : Addr → Prop} {p q : Addr} {H G : Hp} (e : But p q H G) (bp : B p) (bq : B q) : Go B H G := fun b o n _ h => e b o (fun z => n (by rw [z]; exact bp)) (fun z => n (by rw [z]; exact bq)) h
theorem Go.trans {B : Addr → Prop} {H G J : Hp} (a : Go B H G) (b : Go B G J) : Go B H J := fun c o n t h => b c o n t (a c o n t h)
theorem Go.upd {B : Addr → Prop} {H : Hp} {p : Addr} {o : HO} (b : B p) : Go B H (upd H p o) := fun c u n _ h => by
  rw [upd_ne (fun z => n (by rw [z]; exact b))]
  exact h
theorem Go.refl {B : Addr → Prop} {H : Hp} : Go B H H := fun _ _ _ _ h => h
theorem Go.new {B : Addr → Prop} {H : Hp} {p : Addr} {o : HO} (n : H p = none) : Go B H (L2.upd H p o) := Go.of (Ex.new n)
def Old (H : Hp) (b : Addr) : Prop := ∃ xs, H b = some (.lst xs)
theorem Old.ex {H G : Hp} (e : Ex H G) {b : Addr} (h : Old H b) : Old G b := by
  obtain ⟨xs, h⟩ := h
  exact ⟨xs, e _ _ h⟩
theorem Old.but {p q : Addr} {H G : Hp} {n : Int} (B : But p q H G) (S : Spr G p q n) {b : Addr} (h : Old H b) : Old G b := by
  obtain ⟨xs, ys, h1, h2⟩ := S.lst
  by_cases e1 : b = p
  · exact ⟨xs, by rw [e1]; exact h1⟩
  · by_cases e2 : b = q
    · exact ⟨ys, by rw [e2]; exact h2⟩
    · obtain ⟨zs, h⟩ := h
      exact ⟨zs, B _ _ e1 e2 h⟩
theorem Spr.old {p q : Addr} {H : Hp} {n : Int} (S : Spr H p q n) : Old H p ∧ Old H q := by
  obtain ⟨xs, ys, h1, h2⟩ := S.lst
  exact ⟨⟨_, h1⟩, ⟨_, h2⟩⟩
theorem not_old {H : Hp} {b : Addr} (h : H b = none) : ¬ Old H b := fun ⟨xs, e⟩ => by
  rw [h] at e
  cases e
theorem But.back {p q : Addr} {H G : Hp} {n : Int} (B : But p q H G) (S : Spr G p q n) {a : Addr} (h : G a = none) : H a = none := by
  obtain ⟨a1, a2⟩ := S.nep h
  cases e : H a with
  | none => rfl
  | some o =>
    have := B a o a1 a2 e
    rw [h] at this
    cases this
theorem asg_opL {σ : L2.St} {H : Hp} {D : Ends} {tz : TS} {r : R2} {ta tb : TE} {xs : List V} {g : TG} (h : EvL ta σ H xs) (k : ∀ p H1, H p = none → Ex H H1 → H1 p = some (.lst xs) → tb σ H1 (fun y H2 => r (.ref p) y H2 (fun x H3 => g x σ H3 (tz D)))) : tSeq (tAsg (tOp r ta tb) g) tz D σ H := h H (Ex.refl H) _ k
theorem lst_tbl {xs : List V} : ∀ ps, HO.lst xs ≠ .tbl ps := fun _ z => nomatch z
theorem tup_tbl {xs : List V} : ∀ ps, HO.tup xs ≠ .tbl ps := fun _ z => nomatch z
section
variable {P : Program} {w : World} {K : PySem.W.Frag} {mg : Str → Option Value} {base : Heap}
def spLo (m : Nat) : Sp := fun vs H Q _ => ∃ (p q : Addr) (u : V) (n : Int) (z : W), vs = [.ref p, u] ∧ Spr H p q n ∧ n + (z.nd : Nat) ≤ 90000 ∧ WV H u z ∧ z.dp < m ∧ m ≤ 40 ∧ z.sz ≤ 9000 ∧
  ∀ (r : V) (G : Hp) (n' : Int) (o : O), Spr G p q n' → n' ≤ n + (z.nd : Nat) → But p q H G → OV (Hx (Old H) G) r o → o.strip = z.o → Q r G
abbrev nLo : List Str := ["_law_stream", "_law_word", "_law_parts", "_law_part"]
theorem sc_lo : FnScope nLo ["_law_stream", "_law_word"] (defScope s__law_d_loose) := ⟨rfl, rfl, rfl, by decide +kernel, rfl, by decide +kernel, by decide +kernel⟩
theorem nds_take {as : List W} {i : Nat} {x : W} (h : as[i]? = some x) : W.nds (as.take (i + 1)) = W.nds (as.take i) + x.nd := by
  rw [take_snoc h]
  have : ∀ (l : List W) (y : W), W.nds (l ++ [y]) = W.nds l + y.nd := by
    intro l y
    induction l with
    | nil => show y.nd + 0 = 0 + y.nd; omega
    | cons c l ih => show c.nd + W.nds (l ++ [y]) = c.nd + W.nds l + y.nd; rw [ih]; omega
  exact this _ _
theorem nds_take_le (as : List W) (n : Nat) : W.nds (as.take n) ≤ W.nds as := by
  induction as generalizing n with
  | nil => simp [W.nds]
  | cons c l ih =>
    cases n with
    | zero => exact Nat.zero_le _
    | succ n =>
      have := ih n
      show c.nd + W.nds (l.take n) ≤ c.nd + W.nds l
      omega
theorem ok_d_loose (T : T24 P w K mg base) : ∀ m, Ok P w K mg base CX0 "_law_d_loose" ["_law_stream", "_law_word"] (m + 2) (spLo m)
  | 0 => T.ok 35 rfl sc_lo (fun vs H Q E h => by obtain ⟨p, q, u, n, z, rfl, _⟩ := h; rfl) (fun kV doc pm an cdv ct us hl => match us, hl with | [_, _], _ => rfl) (fun f cdv A outer s H vs Q E hr h => by obtain ⟨p, q, u, n, z, _, _, _, _, h0, _⟩ := h; exact absurd h0 (Nat.not_lt_zero _))
  | m + 1 => by
    obtain ⟨fR, dR, GR, bR, kR, mR⟩ := (ok_d_loose T m).ex
    obtain ⟨fD, dD, GD, bD, kD, mD⟩ := (ok_dr T).ex
    refine T.ok 35 rfl sc_lo (fun vs H Q E h => ?_) (fun kV doc pm an cdv ct us hl => match us, hl with | [_, _], _ => rfl) (fun f cdv A outer s H vs Q E hr h => ?_)
    · obtain ⟨p, q, u, n, z, rfl, _⟩ := h
      rfl
    · obtain ⟨p, q, u, n, z, rfl, S, hn, hw, hz, hm, hs, k⟩ := h
      refine ⟨_, pss_cons (ps_if (pt_val (pe_isiB T.isi T.str PyProof.Rows.boot_str (pv 1))) (pss_one (ps_ret (pv 1))) pss_nil)
        (pss_cons (ps_set (i := 2) sc_lo.nd rfl (Or.inl rfl) (pe_op op_cat (pe_lst (pa_cons (pe_ix ix_tup (pv 1) pe_int (fun _ _ => rfl)) pa_nil))
          (pe_lc (own := [("_law_part", 3)]) (g := gName 3) (tt := tYes) (te := tCall (spLo m) [] E0 (tCons (tVar 0) (tCons (tVar 3) tNil))) rfl sc_lo.nd (pi_tup (pe_slice sl_tup (pv 1) (po_some pe_int) po_none)) (blkOk_by (N := nLo) (sc := defScope s__law_d_loose) (by decide +kernel))
            (fun _ _ _ _ _ => pg_name (i := 3) sc_lo.nd rfl (Or.inl rfl)) (fun _ _ _ _ _ => pts_nil) (fun _ _ _ _ _ => pe_call GR hr (by rfl) mR kR bR .nil pass0 (pa_cons (pv 0) (pa_cons (pv 3) pa_nil))))))
        (pss_one (ps_ret (pe_ifExp (pt_cmpR op_eq (pe_call GD (hr.mono (by omega)) (by rfl) mD kD bD .nil pass0 (pa_cons (pv 0) (pa_cons pe_int pa_nil))) pe_int (nomark _)) (pv 2) (pe_callTy call_tuple_of (by rfl) T.tuple PyProof.Rows.boot_tuple (pa_cons (pv 2) pa_nil)))))), ?_⟩
      cases z with
      | v sv =>
        obtain rfl : u = .str sv := hw
        refine q_when (b := true) (et_B (ev_isStr (o := .str sv) (ev_var rfl) rfl)) (fun _ H1 e1 => s_ret (ev_var rfl) fun H2 e2 => k (.str sv) H2 n (.str sv) (S.ext (e1.trans e2)) (by omega) (But.of (e1.trans e2)) rfl rfl) fun z => nomatch z
      | n sn as =>
        obtain ⟨r, us, rfl, hr1, hu⟩ := hw.tup
        have hul := hu.length
        have hdp : W.dps as < m := by have : (W.n sn as).dp = W.dps as + 1 := rfl; omega
        have hsz : W.szs as + 2 ≤ 9000 := hs
        have hasl := W.len_szs as
        have hnd : (W.n sn as).nd = W.nds as + 1 := rfl
        refine q_when (b := false) (et_B (ev_isStr (o := (W.n sn as).o) (ev_var rfl) hw)) (fun z => nomatch z) fun _ H1 e1 => ?_
        have S1 := S.ext e1
        refine asg_opL (el_lst (ea_cons (ev_op (z := .str sn) (ev_var rfl) ev_c (rv_ixT (st_of (e1 _ _ hr1)) (atI_nat (j := 0) rfl))) ea_nil) (by show 1 ≤ 100000; decide)) fun p1 H2 np1 e2 hp1 => ?_
        have e12 := e1.trans e2
        refine eu_tail (K := K) (te := tVar 1) (σ := [some (.ref p), some (.ref r), none, none]) (H := H2) (a := r) (x := .str sn) (xs := us) (ev_var rfl) (st_of (e12 _ _ hr1)) H2 (Ex.refl _) _ fun c H3 nc e3 hc => ?_
        have e13 := e12.trans e3
        have S3 := S.ext e13
        refine ⟨c, rfl, ⟨us, st_of hc⟩, fun Dl hD => ?_⟩
        obtain ⟨d1, d2⟩ := S3.nep hD
        have hp13 : H3 p1 = some (.lst [.str sn]) := e3 _ _ hp1
        obtain ⟨q1, q2⟩ := S1.nep np1
        have hDp1 : Dl ≠ p1 := (ne_of_none hp13 hD).symm
        have hDc : Dl ≠ c := (ne_of_none hc hD).symm
        obtain ⟨oP, oQ⟩ := S.old
        refine lc_tup (xs := us) (fun i J => ∃ acc n' os, Spr J p q n' ∧ n' ≤ n + (W.nds (as.take i) : Nat) ∧ J Dl = some (.lst acc) ∧ acc.length = i ∧ OVs (Hx (fun b => Old H b ∨ b = Dl) J) acc os ∧ O.strips os = W.os (as.take i) ∧ But p q H3 J) ?_ ?_ ?_ ?_
        · exact ⟨[], n, [], S3.ext (Ex.new hD), by simp [W.nds], upd_same, rfl, .nil, rfl, But.of (Ex.new hD)⟩
        · rintro i J hi ⟨acc, n', os, SJ, _, _, _, _, _, BJ⟩
          exact st_of ((S3.tx BJ) _ _ hc)
        · rintro i x J hx ⟨acc, n', os, SJ, hnJ, hJ, hal, hov, hst, BJ⟩
          refine ⟨rfl, ?_⟩
          unfold tYes
          dsimp only
          rw [if_pos (rfl : true = true)]
          obtain ⟨y, hy, hwy⟩ := hu.getv hx
          have hyd := W.lt_dp hy
          have hys := W.lt_sz hy
          have hyn := nds_take hy
          have hle := nds_take_le as (i + 1)
          have hil := (List.getElem?_eq_some_iff.mp hy).1
          have hwJ : WV J x y := ((hwy.ext e13).tx (S3.tx BJ))
          refine ⟨.ref p, rfl, x, rfl, p, q, x, n', y, rfl, SJ, by omega, hwJ, by omega, by omega, by omega, fun y' J2 n2 o2 SJ2 hn2 BJ2 hov2 hst2 => ?_⟩
          have hJ2 : J2 Dl = some (.lst acc) := BJ2 _ _ d1 d2 hJ
          refine ⟨acc, hJ2, sz_lt (by omega), acc ++ [y'], n2, os ++ [o2], SJ2.keep (fun o h => by rw [upd_ne d1.symm]; exact h) (fun o h => by rw [upd_ne d2.symm]; exact h), by rw [hyn]; omega, upd_same, by simp [hal], ?_, ?_, ?_⟩
          · have hold : ∀ b, (Old H b ∨ b = Dl) → Old J b := fun b hb => by
              rcases hb with hb | rfl
              · exact Old.but BJ SJ (Old.ex e13 hb)
              · exact ⟨_, hJ⟩
            have g1 : Go (fun b => Old H b ∨ b = Dl) J2 (upd J2 Dl (.lst (acc ++ [y']))) := Go.upd (.inr rfl)
            have g2 : Go (fun b => Old H b ∨ b = Dl) J J2 := Go.but BJ2 (.inl oP) (.inl oQ)
            exact OVs.append ((hov.ext g2.ex).ext g1.ex) (.cons ((hov2.ext (hx_mono hold)).ext g1.ex) .nil)
          · rw [take_snoc hy, strips_eq, W.os_map, List.map_append, List.map_append, ← strips_eq, ← W.os_map, hst]
            show _ ++ [o2.strip] = _ ++ [y.o]
            rw [hst2]
          · intro b o nb1 nb2 e
            rw [upd_ne (ne_of_none e hD)]
            exact BJ2 _ _ nb1 nb2 (BJ _ _ nb1 nb2 e)
        · rintro J ⟨acc, n', os, SJ, hnJ, hJ, hal, hov, hst, BJ⟩
          rw [hul, List.take_length] at hst hnJ
          have hp1J : J p1 = some (.lst [.str sn]) := BJ _ _ q1 q2 hp13
          refine ⟨p1, Dl, [.str sn], acc, rfl, rfl, hp1J, hJ, sz_of (by simp; omega), fun pl hpl => ?_⟩
          have x4 : Ex J (upd J pl (.lst ([.str sn] ++ acc))) := Ex.new hpl
          have npl : H pl = none := fresh_back e13 (BJ.back SJ hpl)
          obtain ⟨l1, l2⟩ := SJ.nep hpl
          have S4 := SJ.ext x4
          refine ⟨.ref p, rfl, p, q, n', 3, rfl, S4, by omega, by decide, by decide, fun rr G r0 r1 S5 B5 => ⟨rfl, _, rfl, ?_⟩⟩
          have hGl : G pl = some (.lst ([.str sn] ++ acc)) := B5 _ _ l1 l2 upd_same
          have Ball : But p q H G := ((But.of e13).trans BJ).trans ((But.of x4).trans B5)
          have hovG : OVs (Hx (Old H) G) acc os := by
            have a1 : OVs (Hx (Old H) J) acc os := hov.ext (hx_mono fun b hb => .inl hb)
            have g1 : Go (Old H) J G := (Go.of x4).trans (Go.but B5 oP oQ)
            exact a1.ext g1.ex
          dsimp only
          by_cases hb : decide (V.int rr = V.int 0) = true
          · rw [if_pos hb]
            refine ⟨.ref pl, rfl, k (.ref pl) G (n' + 1) (.lst (.str sn :: os)) S5 (by omega) Ball ⟨pl, _, rfl, hx_of (not_old npl) lst_tbl hGl, _, _, rfl, rfl, hovG⟩ ?_⟩
            show O.tup (.str sn :: O.strips os) = .tup (.str sn :: W.os as)
            rw [hst]
          · rw [if_neg hb]
            refine ⟨.ref pl, rfl, pl, _, rfl, .inl ⟨sq_of hGl, fun pt hpt => ?_⟩⟩
            have x6 : Ex G (upd G pt (.tup ([.str sn] ++ acc))) := Ex.new hpt
            refine k (.ref pt) _ (n' + 1) (.tup (.str sn :: os)) (S5.ext x6) (by omega) (Ball.trans (But.of x6)) ⟨pt, _, rfl, hx_of (not_old (Ball.back S5 hpt)) tup_tbl upd_same, _, _, rfl, rfl, hovG.ext (Go.of x6).ex⟩ ?_
            show O.tup (.str sn :: O.strips os) = .tup (.str sn :: W.os as)
            rw [hst]
end
end K24

set_option Elab.async false
set_option linter.all false
set_option maxRecDepth 100000
set_option maxHeartbeats 4000000
/-! Data the same. -/
namespace K24
open PySem PySem.Spec PyProof.Rows L2 Evl
mutual
def O.dq : O → Nat
  | .non => 0 | .bl _ => 0 | .int _ => 0 | .str _ => 0 | .dct => 2 | .lst xs => O.dqs xs + 1 | .tup xs => O.dqs xs + 1
def O.dqs : List O → Nat
  | [] => 0
  | x :: xs => max x.dq (O.dqs xs)
end
theorem dqs_le : ∀ {xs : List O} {i : Nat} {x : O}, xs[i]? = some x → x.dq ≤ O.dqs xs
  | [], _, _, e => by simp at e
  | a :: as, 0, x, e => by
    obtain rfl : a = x := by simpa using e
    exact Nat.le_max_left _ _
  | a :: as, i + 1, x, e => Nat.le_trans (dqs_le (xs := as) (i := i) (by simpa using e)) (Nat.le_max_right _ _)
theorem szs_le : ∀ {xs : List O} {i : Nat} {x : O}, xs[i]? = some x → x.sz ≤ O.szs xs
  | [], _, _, e => by simp at e
  | a :: as, 0, x, e => by
    obtain rfl : a = x := by simpa using e
    exact Nat.le_add_right _ _
  | a :: as, i + 1, x, e => Nat.le_trans (szs_le (xs := as) (i := i) (by simpa using e)) (Nat.le_add_left _ _)
section
variable {P : Program} {w : World} {K : PySem.W.Frag} {mg : Str → Option Value} {base : Heap}
theorem all_true (n : Nat) : (List.replicate n true).all id = true := by
  induction n with
  | zero => rfl
  | succ n ih => rw [List.replicate_succ, List.all_cons, ih]; rfl
def spSa (m : Nat) : Sp := fun vs H Q _ => ∃ u v o, vs = [u, v] ∧ OV H u o ∧ OV H v o ∧ o.dq < m ∧ m ≤ 40 ∧ o.sz ≤ 40000 ∧ RetV (.bl true) H Q
theorem spv_sa {m : Nat} {u v : V} {o : O} {H : Hp} (h1 : OV H u o) (h2 : OV H v o) (hd : o.dq < m) (hm : m ≤ 40) (hs : o.sz ≤ 40000) : SpV (spSa m) ([u, v] ++ []) H (.bl true) := fun H1 e Q q E => ⟨u, v, o, rfl, h1.ext e, h2.ext e, hd, hm, hs, q⟩
abbrev nSa : List Str := ["_law_found", "_law_due", "_law_x", "_law_y"]
theorem sc_sa : FnScope nSa ["_law_found", "_law_due"] (defScope s__law_same) := ⟨rfl, rfl, rfl, by decide +kernel, rfl, by decide +kernel, by decide +kernel⟩
theorem boot_dict23 : bootBuiltins "dict" = some (.type "dict") := by decide +kernel
theorem kit_four (o : O) : PySem.W.kitAny K (.type o.ty) (["int", "list", "tuple", "dict"].map Value.type) = some (o.isInt || (o.isLst || (o.isTup || o.isDct))) := by
  refine kitAny_cons (b := o.isInt) (kit_ty (kit_int o)) (fun h1 => ?_) fun h1 => by rw [h1]; rfl
  rw [h1, Bool.false_or]
  refine kitAny_cons (b := o.isLst) (kit_ty (kit_lst o)) (fun h2 => ?_) fun h2 => by rw [h2]; rfl
  rw [h2, Bool.false_or]
  refine kitAny_cons (b := o.isTup) (kit_ty (kit_tup o)) (fun h3 => ?_) fun h3 => by rw [h3]; rfl
  rw [h3, Bool.false_or]
  refine kitAny_cons (b := o.isDct) (kit_ty (kit_dct o)) (fun h4 => ?_) fun h4 => by rw [h4]
  rw [h4]
  exact kitAny_nil
theorem ok_same (T : T24 P w K mg base) : ∀ m, Ok P w K mg base CX0 "_law_same" ["_law_found", "_law_due"] (m + 1) (spSa m)
  | 0 => T.ok 41 rfl sc_sa (fun vs H Q E h => by obtain ⟨u, v, o, rfl, _⟩ := h; rfl) (fun kV doc pm an cdv ct us hl => match us, hl with | [_, _], _ => rfl) (fun f cdv A outer s H vs Q E hr h => by obtain ⟨u, v, o, _, _, _, h0, _⟩ := h; exact absurd h0 (Nat.not_lt_zero _))
  | m + 1 => by
    obtain ⟨fR, dR, GR, bR, kR, mR⟩ := (ok_same T m).ex
    refine T.ok 41 rfl sc_sa (fun vs H Q E h => ?_) (fun kV doc pm an cdv ct us hl => match us, hl with | [_, _], _ => rfl) (fun f cdv A outer s H vs Q E hr h => ?_)
    · obtain ⟨u, v, o, rfl, _⟩ := h
      rfl
    · obtain ⟨u, v, o, rfl, hu, hv, hd, hm, hs, k⟩ := h
      refine ⟨_, pss_cons (ps_if (pt_val (pe_isiLT T.isi T.list T.tuple (pv 1)))
          (pss_cons (ps_if (PW.pt (pw_or (pt_cmpR op_ne (pe_isiB T.isi T.list PyProof.Rows.boot_list (pv 0)) (pe_isiB T.isi T.list PyProof.Rows.boot_list (pv 1)) (nomark _)) (pw_or1 (pt_cmpR op_ne (pe_isiB T.isi T.tuple PyProof.Rows.boot_tuple (pv 0)) (pe_isiB T.isi T.tuple PyProof.Rows.boot_tuple (pv 1)) (nomark _))))) (pss_one ps_never) pss_nil)
          (pss_one (ps_ret (pe_and (pe_cmpR op_eq (pe_callB call_len (by rfl) T.len PySem.boot_len (pa_cons (pv 0) pa_nil)) (pe_callB call_len (by rfl) T.len PySem.boot_len (pa_cons (pv 1) pa_nil)) (nomark _))
            (pe_one (pe_callB (cr_all rfl) (by rfl) T.all (by decide +kernel) (pa_cons (pe_lc (own := [("_law_x", 2), ("_law_y", 3)]) (g := gPair K 2 3) (tt := tYes) (te := tCall (spSa m) [] E0 (tCons (tVar 2) (tCons (tVar 3) tNil))) rfl sc_sa.nd (RZ.pi_zipA (by rfl) T.zip (pa_cons (pv 0) (pa_cons (pv 1) pa_nil))) (blkOk_by (N := nSa) (sc := defScope s__law_same) (by decide +kernel))
              (fun _ _ _ _ _ => pg_tup rfl (pgs_cons (pg_name (i := 2) sc_sa.nd rfl (Or.inl rfl)) (pgs_cons (pg_name (i := 3) sc_sa.nd rfl (Or.inl rfl)) pgs_nil))) (fun _ _ _ _ _ => pts_nil) (fun _ _ _ _ _ => pe_call GR hr (by rfl) mR kR bR .nil pass0 (pa_cons (pv 2) (pa_cons (pv 3) pa_nil)))) pa_nil)))))))
          pss_nil)
        (pss_cons (ps_if (pt_val (pe_isiB T.isi T.dict boot_dict23 (pv 1))) (pss_one (ps_ret (pe_and (pe_isiB T.isi T.dict boot_dict23 (pv 0))
            (pe_one (pe_call GR hr (by rfl) mR kR bR .nil pass0 (pa_cons (LiI.pe_listItems rfl (pv 0) (by rfl) T.list PyProof.Rows.boot_list) (pa_cons (LiI.pe_listItems rfl (pv 1) (by rfl) T.list PyProof.Rows.boot_list) pa_nil))))))) pss_nil)
        (pss_cons (ps_if (pt_val (pe_isiB T.isi T.int PyProof.Rows.boot_int (pv 1))) (pss_one (ps_ret (pe_and (pe_isiB T.isi T.int PyProof.Rows.boot_int (pv 0)) (pe_and (pe_cmpR op_eq (pe_isiB T.isi T.bool PyProof.Rows.boot_bool (pv 0)) (pe_isiB T.isi T.bool PyProof.Rows.boot_bool (pv 1)) (nomark _))
            (pe_one (pe_cmpR op_eq (pv 0) (pv 1) (nomark _))))))) pss_nil)
        (pss_one (ps_ret (pe_and (pe_not (pe_callB call_isiT (by rfl) T.isi PyProof.Rows.boot_isinstance (pa_cons (pv 0) (pa_cons (pe_tup (pa_cons (pe_bltn (v := .ty "int") (by rfl) T.int PyProof.Rows.boot_int rfl) (pa_cons (pe_bltn (v := .ty "list") (by rfl) T.list PyProof.Rows.boot_list rfl) (pa_cons (pe_bltn (v := .ty "tuple") (by rfl) T.tuple PyProof.Rows.boot_tuple rfl) (pa_cons (pe_bltn (v := .ty "dict") (by rfl) T.dict (by decide +kernel) rfl) pa_nil))))) pa_nil))))
          (pe_one (pe_cmpR op_eq (pv 0) (pv 1) (nomark _)))))))), ?_⟩
      have huo := hu
      have hvo := hv
      cases hq : o.isLst || o.isTup with
      | true =>
        obtain ⟨b, xs, rfl⟩ := O.seq_of hq
        obtain ⟨a1, us, rfl, ha1, hus⟩ := hu.seq
        obtain ⟨a2, ws, rfl, ha2, hws⟩ := hv.seq
        have sq1 : SqB H b a1 us := ha1
        have sq2 : SqB H b a2 ws := ha2
        have hul := hus.length
        have hwl := hws.length
        rw [O.seq_sz] at hs
        have hxl := O.len_szs xs
        have hdq : O.dqs xs < m := by
          have : (O.seq b xs).dq = O.dqs xs + 1 := by cases b <;> rfl
          omega
        refine q_if (b := true) (et_is (et_B (ev_isSeq (ev_var rfl) hvo)) hq) (fun _ H1 e1 => ?_) (fun z => nomatch z)
        refine q_when (b := false) (et_is (et_or (a := false) (b := false) (et_is (et_test (ev_op (ev_isLst (ev_var rfl) (huo.ext e1)) (ev_isLst (ev_var rfl) (hvo.ext e1)) rv_neB)) (by simp)) fun _ => et_is (et_test (ev_op (ev_isTup (ev_var rfl) (huo.ext e1)) (ev_isTup (ev_var rfl) (hvo.ext e1)) rv_neB)) (by simp)) rfl) (fun z => nomatch z) fun _ H2 e2 => ?_
        have e02 := e1.trans e2
        have sq12 := sq1.ext e02
        have sq22 := sq2.ext e02
        refine s_ret (ev_andV (a := true) (b := true) (ev_is (ev_op (ev_lenQ (ev_var rfl) sq12) (ev_lenQ (ev_var rfl) sq22) (rv_eq rfl)) (congrArg V.bl (decide_eq_true (by rw [hul, hwl])))) fun _ G1 g1 Q1 q1 => ?_) fun H3 e3 => k H3 (e02.trans e3)
        have turn : ∀ (Dl : Addr) (i : Nat) (x : V) (G G' : Hp), G1 Dl = none → i < us.length → (Ex G1 G ∧ G Dl = some (.lst ((List.replicate i true).map V.bl))) → YPair (fun i => us[i]?) (fun i => ws[i]?) i G x G' → gPair K 2 3 x (wipe [some (.ref a1), some (.ref a2), none, none] [2, 3]) G' fun σ2 H2 => wipe σ2 [2, 3] = wipe [some (.ref a1), some (.ref a2), none, none] [2, 3] ∧ tYes σ2 H2 fun b H3 =>
            if b = true then tCall (spSa m) [] E0 (tCons (tVar 2) (tCons (tVar 3) tNil)) σ2 H3 fun y H4 => ∃ acc, H4 Dl = some (.lst acc) ∧ acc.length < sizeLine ∧ (Ex G1 (upd H4 Dl (.lst (acc ++ [y]))) ∧ (upd H4 Dl (.lst (acc ++ [y]))) Dl = some (.lst ((List.replicate (i + 1) true).map V.bl))) else Ex G1 H3 ∧ H3 Dl = some (.lst ((List.replicate (i + 1) true).map V.bl)) := by
          rintro Dl i x G G' hD hi ⟨c1, c2⟩ ⟨t, x1, x2, rfl, ht, rfl, hx1, hx2⟩
          obtain ⟨y1, hy1, ho1⟩ := hus.get hx1
          obtain ⟨y2, hy2, ho2⟩ := hws.get hx2
          rw [hy1] at hy2
          obtain rfl : y1 = y2 := Option.some.inj hy2
          have eT : Ex G (upd G t (.tup [x1, x2])) := Ex.new ht
          have h3 := dqs_le hy1
          have h4 := szs_le hy1
          refine ⟨t, _, rfl, st_of upd_same, rfl, _, _, rfl, _, _, rfl, rfl, rfl, ?_⟩
          unfold tYes
          dsimp only
          rw [if_pos rfl]
          have eall := ((e02.trans g1).trans c1).trans eT
          refine ⟨_, rfl, _, rfl, x1, x2, y1, rfl, ho1.ext eall, ho2.ext eall, by omega, by omega, by omega, fun G3 g3 => ⟨_, g3 _ _ (eT _ _ c2), sz_lt (by simp; omega), Ex.mut ((c1.trans eT).trans g3) hD, ?_⟩⟩
          rw [upd_same, List.replicate_succ']
          simp
        have fin : ∀ (Dl : Addr) (G : Hp), (Ex G1 G ∧ G Dl = some (.lst ((List.replicate (min us.length ws.length) true).map V.bl))) → ∃ (p : Addr) (bs : List Bool), [V.ref Dl] = [V.ref p] ∧ SqL K G p (bs.map V.bl) ∧ Q1 (.bl (bs.all id)) G := by
          rintro Dl G ⟨c1, c2⟩
          exact ⟨Dl, _, rfl, sq_of c2, by rw [all_true]; exact q1 G c1⟩
        have h1 := sq12.ext g1
        have h2 := sq22.ext g1
        refine ⟨_, rfl, _, rfl, a1, a2, us, ws, rfl, ?_⟩
        cases b with
        | true => exact .inl ⟨sq_of h1, sq_of h2, fun Dl hD => lc_it (walk_zip (K := K) (a := a1) (b := a2) (xs := us) (ys := ws) rfl) (fun i G => Ex G1 G ∧ G Dl = some (.lst ((List.replicate i true).map V.bl))) ⟨Ex.new hD, upd_same⟩ (fun i G _ c => ⟨sq_of (c.1 _ _ h1), sq_of (c.1 _ _ h2)⟩) (fun i x G G' hi c y => turn Dl i x G G' hD (by omega) c y) (fun G c => fin Dl G c)⟩
        | false => exact .inr ⟨st_of h1, st_of h2, fun Dl hD => lc_it (walk_zipT (K := K) (a := a1) (b := a2) (xs := us) (ys := ws) rfl) (fun i G => Ex G1 G ∧ G Dl = some (.lst ((List.replicate i true).map V.bl))) ⟨Ex.new hD, upd_same⟩ (fun i G _ c => ⟨st_of (c.1 _ _ h1), st_of (c.1 _ _ h2)⟩) (fun i x G G' hi c y => turn Dl i x G G' hD (by omega) c y) (fun G c => fin Dl G c)⟩
      | false =>
        have hd1 : o.isLst = false := (Bool.or_eq_false_iff.mp hq).1
        have hd2 : o.isTup = false := (Bool.or_eq_false_iff.mp hq).2
        refine q_when (b := false) (et_is (et_B (ev_isSeq (ev_var rfl) hvo)) hq) (fun z => nomatch z) fun _ H1 e1 => ?_
        cases hdd : o.isDct with
        | true =>
          cases o with
          | dct =>
            obtain ⟨a1, rfl, ha1⟩ := huo
            obtain ⟨a2, rfl, ha2⟩ := hvo
            have hm2 : 2 < m + 1 := hd
            refine q_when (b := true) (et_B (ev_isDct (o := .dct) (ev_var rfl) ⟨a2, rfl, e1 _ _ ha2⟩)) (fun _ H2 e2 => ?_) fun z => nomatch z
            have e02 := e1.trans e2
            refine s_ret (ev_andV (a := true) (b := true) (ev_isDct (o := .dct) (ev_var rfl) ⟨a1, rfl, e02 _ _ ha1⟩) fun _ G1 g1 Q1 q1 => ?_) fun H3 e3 => k H3 (e02.trans e3)
            refine ⟨.ref a1, rfl, a1, [], rfl, g1 _ _ (e02 _ _ ha1), fun G2 p1 ts1 x1 n1 _ _ h1 pr1 => ⟨.ref a2, rfl, a2, [], rfl, x1 _ _ (g1 _ _ (e02 _ _ ha2)), fun G3 p2 ts2 x2 n2 _ _ h2 pr2 => ?_⟩⟩
            cases pr1
            cases pr2
            have x2' : Ex G2 G3 := x2
            have x1' : Ex G1 G2 := x1
            exact ⟨.ref p1, .ref p2, .lst [], rfl, ⟨p1, [], rfl, x2' _ _ h1, rfl⟩, ⟨p2, [], rfl, h2, rfl⟩, by show 1 < m; omega, by omega, by decide, fun G4 g4 => q1 G4 ((x1'.trans x2').trans g4)⟩
          | _ => cases hdd
        | false =>
          refine q_when (b := false) (et_is (et_B (ev_isDct (ev_var rfl) (hvo.ext e1))) hdd) (fun z => nomatch z) fun _ H2 e2 => ?_
          have e02 := e1.trans e2
          cases hii : o.isInt with
          | true =>
            refine q_when (b := true) (et_is (et_B (ev_isInt (ev_var rfl) (hvo.ext e02))) hii) (fun _ H3 e3 => ?_) fun z => nomatch z
            have e03 := e02.trans e3
            refine s_ret (ev_andV (a := true) (b := true) (ev_is (ev_isInt (ev_var rfl) (huo.ext e03)) (by rw [hii])) fun _ => ev_andV (a := true) (b := true) (ev_is (ev_op (ev_isBool (ev_var rfl) (huo.ext e03)) (ev_isBool (ev_var rfl) (hvo.ext e03)) (rv_eq rfl)) (congrArg V.bl (decide_eq_true rfl))) fun _ => ?_) fun H4 e4 => k H4 (e03.trans e4)
            cases o with
            | bl c =>
              obtain rfl : u = .bl c := huo
              obtain rfl : v = .bl c := hvo
              exact ev_is (ev_op (ev_var rfl) (ev_var rfl) (rv_eq rfl)) (congrArg V.bl (decide_eq_true rfl))
            | int c =>
              obtain rfl : u = .int c := huo
              obtain rfl : v = .int c := hvo
              exact ev_is (ev_op (ev_var rfl) (ev_var rfl) (rv_eq rfl)) (congrArg V.bl (decide_eq_true rfl))
            | _ => cases hii
          | false =>
            refine q_when (b := false) (et_is (et_B (ev_isInt (ev_var rfl) (hvo.ext e02))) hii) (fun z => nomatch z) fun _ H3 e3 => ?_
            have e03 := e02.trans e3
            have hu3 := huo.ext e03
            have h4 : PySem.W.kitAny K (.type o.ty) (["int", "list", "tuple", "dict"].map Value.type) = some false := by
              rw [kit_four, hii, hd1, hd2, hdd]
              rfl
            refine s_ret (ev_andV (a := true) (b := true) (ev_notV (a := false) (ev_isiN (m := o.ty) (cs := ["int", "list", "tuple", "dict"]) (ev_var rfl) hu3.tyx h4 (eu_tup (ea_cons ev_c (ea_cons ev_c (ea_cons ev_c (ea_cons ev_c ea_nil)))) (by show 4 ≤ 100000; decide)))) fun _ => ?_) fun H4 e4 => k H4 (e03.trans e4)
            cases o with
            | non =>
              obtain rfl : u = .non := huo
              obtain rfl : v = .non := hvo
              exact ev_is (ev_op (ev_var rfl) (ev_var rfl) (rv_eq rfl)) (congrArg V.bl (decide_eq_true rfl))
            | str c =>
              obtain rfl : u = .str c := huo
              obtain rfl : v = .str c := hvo
              exact ev_is (ev_op (ev_var rfl) (ev_var rfl) (rv_eq rfl)) (congrArg V.bl (decide_eq_true rfl))
            | bl c => cases hii
            | int c => cases hii
            | dct => cases hdd
            | lst c => cases hd1
            | tup c => cases hd2
end
end K24

set_option Elab.async false
set_option linter.all false
set_option maxRecDepth 100000
set_option maxHeartbeats 4000000
/-! Things each once; the variables of words. -/
namespace K24
open PySem PySem.Spec PyProof.Rows L2 Evl
def eo : List Str → List Str → List Str
  | acc, [] => acc
  | acc, x :: xs => eo (if acc.contains x then acc else acc ++ [x]) xs
theorem eo_snoc : ∀ (xs : List Str) (x : Str) (acc : List Str), eo acc (xs ++ [x]) = if (eo acc xs).contains x then eo acc xs else eo acc xs ++ [x]
  | [], x, acc => rfl
  | y :: ys, x, acc => eo_snoc ys x _
theorem eo_app : ∀ (xs ys acc : List Str), eo acc (xs ++ ys) = eo (eo acc xs) ys
  | [], ys, acc => rfl
  | y :: ys, zs, acc => eo_app ys zs _
theorem eo_len : ∀ (xs acc : List Str), (eo acc xs).length ≤ acc.length + xs.length
  | [], acc => Nat.le_refl _
  | x :: xs, acc => by
    have := eo_len xs (if acc.contains x then acc else acc ++ [x])
    show (eo (if acc.contains x then acc else acc ++ [x]) xs).length ≤ _
    by_cases h : acc.contains x = true
    · rw [if_pos h] at this ⊢
      simp at this ⊢
      omega
    · rw [if_neg h] at this ⊢
      simp at this ⊢
      omega
theorem contains_app (a b : List Str) (x : Str) : (a ++ b).contains x = (a.contains x || b.contains x) := by
  induction a with
  | nil => simp
  | cons y ys ih => simp [ih, Bool.or_assoc]
theorem contains_filter (b : List Str) (x : Str) (p : Str → Bool) : (b.filter p).contains x = (b.contains x && p x) := by
  induction b with
  | nil => rfl
  | cons y ys ih =>
    rw [List.filter_cons]
    cases hp : p y with
    | true =>
      rw [if_pos rfl, List.contains_cons, List.contains_cons, ih]
      by_cases h : x = y
      · subst h
        simp [hp]
      · rw [beq_eq_false_iff_ne.mpr h]
        simp
    | false =>
      rw [if_neg (by decide), ih, List.contains_cons]
      by_cases h : x = y
      · subst h
        simp [hp]
      · rw [beq_eq_false_iff_ne.mpr h]
        simp
theorem eo_rel (acc : List Str) : ∀ xs : List Str, eo acc xs = acc ++ (eo [] xs).filter fun s => !acc.contains s := by
  have key : ∀ (n : Nat) (xs : List Str), xs.length = n → eo acc xs = acc ++ (eo [] xs).filter fun s => !acc.contains s := by
    intro n
    induction n with
    | zero =>
      intro xs h
      obtain rfl := List.length_eq_zero_iff.mp h
      simp [eo]
    | succ n ih =>
      intro xs h
      have hne : xs ≠ [] := fun z => by rw [z] at h; cases h
      obtain ⟨ys, y, rfl⟩ : ∃ ys y, xs = ys ++ [y] := ⟨xs.dropLast, xs.getLast hne, (List.dropLast_concat_getLast hne).symm⟩
      have ih := ih ys (by simp at h; omega)
      rw [eo_snoc, eo_snoc, ih, contains_app, contains_filter]
      have e1 : ([y].filter fun s => !acc.contains s) = if acc.contains y = true then [] else [y] := by
        rw [List.filter_cons]
        cases h1 : acc.contains y <;> rfl
      cases h1 : acc.contains y with
      | true =>
        rw [Bool.true_or, if_pos rfl]
        cases h2 : (eo [] ys).contains y with
        | true => rw [if_pos rfl]
        | false => rw [if_neg (by decide), List.filter_append, e1, if_pos h1, List.append_nil]
      | false =>
        rw [Bool.false_or]
        cases h2 : (eo [] ys).contains y with
        | true => rw [if_pos rfl, if_pos (by rfl)]
        | false => rw [if_neg (by decide), if_neg (by decide), List.filter_append, e1, if_neg (by rw [h1]; decide), List.append_assoc]
  exact fun xs => key _ xs rfl
mutual
def W.allv : W → List Str
  | .v s => [s]
  | .n _ as => W.allvs as
def W.allvs : List W → List Str
  | [] => []
  | a :: r => a.allv ++ W.allvs r
end
mutual
theorem W.vars_eo : ∀ w : W, w.vars = eo [] w.allv
  | .v s => rfl
  | .n _ as => W.varsL_eo [] as
theorem W.varsL_eo : ∀ (acc : List Str) (as : List W), W.varsL acc as = eo acc (W.allvs as)
  | acc, [] => rfl
  | acc, a :: r => by
    show W.varsL (acc ++ a.vars.filter fun s => !acc.contains s) r = eo acc (a.allv ++ W.allvs r)
    rw [eo_app, W.varsL_eo, W.vars_eo a, ← eo_rel]
end
def vOf : W → Option Str
  | .v s => some s
  | .n _ _ => none
mutual
theorem W.parts_allv : ∀ w : W, w.parts.filterMap (fun q => vOf q.2) = w.allv
  | .v s => rfl
  | .n s as => by
    show (([], W.n s as) :: W.partsL 0 as).filterMap (fun q => vOf q.2) = _
    rw [List.filterMap_cons]
    exact W.partsL_allv 0 as
theorem W.partsL_allv : ∀ (i : Nat) (as : List W), (W.partsL i as).filterMap (fun q => vOf q.2) = W.allvs as
  | _, [] => rfl
  | i, a :: r => by
    show ((a.parts.map fun q => (i :: q.1, q.2)) ++ W.partsL (i + 1) r).filterMap (fun q => vOf q.2) = a.allv ++ W.allvs r
    rw [List.filterMap_append, W.partsL_allv (i + 1) r, List.filterMap_map, ← W.parts_allv a]
    rfl
end
section
variable {P : Program} {w : World} {K : PySem.W.Frag} {mg : Str → Option Value} {base : Heap}
def spEo : Sp := fun vs H Q _ => ∃ a xs, vs = [.ref a] ∧ H a = some (.lst (sVs xs)) ∧ xs.length ≤ 40000 ∧ ∀ p H', H p = none → Ex H H' → H' p = some (.lst (sVs (eo [] xs))) → Q (.ref p) H'
abbrev nEo : List Str := ["_law_things", "_law_found", "_law_thing"]
theorem sc_eo : FnScope nEo ["_law_things"] (defScope s__law_each_once) := ⟨rfl, rfl, rfl, by decide +kernel, rfl, by decide +kernel, by decide +kernel⟩
theorem sVs_len (xs : List Str) : (sVs xs).length = xs.length := by unfold sVs; rw [List.length_map]
theorem sVs_get {xs : List Str} {i : Nat} {x : V} (h : (sVs xs)[i]? = some x) : ∃ s, xs[i]? = some s ∧ x = .str s := by
  unfold sVs at h
  rw [List.getElem?_map] at h
  obtain ⟨s, a, b⟩ := Option.map_eq_some_iff.mp h
  exact ⟨s, a, b.symm⟩
theorem ok_each (T : T24 P w K mg base) : Ok P w K mg base CX0 "_law_each_once" ["_law_things"] 1 spEo := by
  refine T.ok 42 rfl sc_eo (fun vs H Q E h => ?_) (fun kV doc pm an cdv ct us hl => match us, hl with | [_], _ => rfl) (fun f cdv A outer s H vs Q E hr h => ?_)
  · obtain ⟨a, xs, rfl, _⟩ := h
    rfl
  · obtain ⟨a, xs, rfl, ha, hl, k⟩ := h
    refine ⟨_, pss_cons (ps_set (i := 1) sc_eo.nd rfl (Or.inl rfl) (pe_lst pa_nil))
      (pss_cons (ps_for PassesOwn.never rfl (pi_list (pv 0)) (pg_name (i := 2) sc_eo.nd rfl (Or.inl rfl))
        (pss_one (ps_if (pt_cmpR op_notIn_seq (pv 2) (pv 1) (by rfl)) (pss_one (ps_expr (pe_bm PySem.F.plainAttrs_list PySem.F.slot_list_append PySem.F.type_list_append mt_append (pv 1) (pa_cons (pv 2) pa_nil)))) pss_nil)))
      (pss_one (ps_ret (pv 1)))), ?_⟩
    refine q_asgL (el_lst ea_nil (by show 0 ≤ 100000; decide)) fun p H1 hp e1 h1 => ?_
    refine q_forL (xs := sVs xs) (ev_var rfl) (sq_of (e1 _ _ ha)) (fun i σ' H' => Ex H H' ∧ (∃ b : Option V, σ' = [some (.ref a), some (.ref p), b]) ∧ H' p = some (.lst (sVs (eo [] (xs.take i))))) ?_ ?_ ?_ ?_
    · intro H2 e2
      exact ⟨e1.trans e2, ⟨none, rfl⟩, e2 _ _ h1⟩
    · rintro i σ' H' hi ⟨e, _⟩
      exact sq_of (e _ _ ha)
    · rintro i x σ' H' hx ⟨e, ⟨b, rfl⟩, h⟩
      obtain ⟨s, hs, rfl⟩ := sVs_get hx
      have hil := (List.getElem?_eq_some_iff.mp hs).1
      have ht := eo_len (xs.take i) []
      have ht2 := List.length_take_le i xs
      simp at ht
      have hev : EvT (tTest (tOp (rIn K true) (tVar 2) (tVar 1))) [some (V.ref a), some (V.ref p), some (V.str s)] H' (!(eo [] (xs.take i)).contains s) := by
        refine et_is (et_test (ev_op (ev_var rfl) (ev_var rfl) (rv_niL (sq_of h) rfl (sVs_flat _)))) ?_
        rw [sVs_in]
      refine s_when hev (fun hb H2 e2 => ?_) fun hb H2 e2 => ?_
      · refine s_app (xs := sVs (eo [] (xs.take i))) (e2 _ _ h) (ev_var rfl) (ev_var rfl) (by rw [sVs_len]; omega) fun H3 e3 => ?_
        refine ⟨Ex.mut ((e.trans e2).trans e3) hp, ⟨_, rfl⟩, ?_⟩
        rw [upd_same, take_snoc hs, eo_snoc, if_neg (by intro z; rw [z] at hb; cases hb)]
        unfold sVs
        rw [List.map_append]
        rfl
      · refine ⟨e.trans e2, ⟨_, rfl⟩, ?_⟩
        rw [take_snoc hs, eo_snoc, if_pos (by cases hc : (eo [] (xs.take i)).contains s with | true => rfl | false => rw [hc] at hb; cases hb)]
        exact e2 _ _ h
    · rintro σ' H' ⟨e, ⟨b, rfl⟩, h⟩
      rw [sVs_len, List.take_length] at h
      exact s_ret (ev_var rfl) fun H2 e2 => k p H2 hp (e.trans e2) (e2 _ _ h)
end
end K24

set_option Elab.async false
set_option linter.all false
set_option maxRecDepth 100000
set_option maxHeartbeats 4000000
/-! The variables of words. -/
namespace K24
open PySem PySem.Spec PyProof.Rows L2 Evl
theorem given_vOf {α : Type} (L : List α) (v : α → Option Str) : ∀ n : Nat, n ≤ L.length → given n (fun i => ((L[i]?).bind v).isSome) (fun i => (((L[i]?).bind v).map V.str).getD .non) = sVs ((L.take n).filterMap v)
  | 0, _ => by simp [given, sVs]
  | n + 1, h => by
    have ih := given_vOf L v n (by omega)
    obtain ⟨x, hx⟩ : ∃ x, L[n]? = some x := ⟨L[n], by simp⟩
    rw [take_snoc hx, List.filterMap_append]
    cases hv : v x with
    | some s =>
      rw [given_yes (by rw [hx]; show (v x).isSome = true; rw [hv]; rfl), ih, hx]
      show _ ++ [((v x).map V.str).getD .non] = _
      rw [hv]
      unfold sVs
      rw [List.map_append]
      simp [hv]
    | none =>
      rw [given_no (by rw [hx]; show (v x).isSome = false; rw [hv]; rfl), ih]
      simp [hv]
mutual
theorem W.allv_len : ∀ w : W, w.allv.length ≤ w.sz
  | .v _ => Nat.le_refl _
  | .n _ as => by
    have := W.allvs_len as
    show (W.allvs as).length ≤ W.szs as + 2
    omega
theorem W.allvs_len : ∀ as : List W, (W.allvs as).length ≤ W.szs as
  | [] => Nat.le_refl _
  | a :: r => by
    have h1 := W.allv_len a
    have h2 := W.allvs_len r
    show (a.allv ++ W.allvs r).length ≤ a.sz + W.szs r
    rw [List.length_append]
    omega
end
theorem W.allvs_snoc : ∀ (as : List W) (x : W), W.allvs (as ++ [x]) = W.allvs as ++ x.allv
  | [], x => by simp [W.allvs]
  | a :: r, x => by
    show a.allv ++ W.allvs (r ++ [x]) = (a.allv ++ W.allvs r) ++ x.allv
    rw [W.allvs_snoc r x, List.append_assoc]
section
variable {P : Program} {w : World} {K : PySem.W.Frag} {mg : Str → Option Value} {base : Heap}
def spDv (m : Nat) : Sp := fun vs H Q _ => ∃ a us zs, vs = [.ref a] ∧ H a = some (.lst us) ∧ WVs H us zs ∧ (∀ z ∈ zs, z.dp < m) ∧ m ≤ 40 ∧ W.szs zs ≤ 9000 ∧
  ∀ p H', H p = none → Ex H H' → H' p = some (.lst (sVs (W.varsL [] zs))) → Q (.ref p) H'
abbrev nDv : List Str := ["_law_words", "_law_found", "_law_word", "_law_place", "_law_part"]
theorem sc_dv : FnScope nDv ["_law_words"] (defScope s__law_d_variables) := ⟨rfl, rfl, rfl, by decide +kernel, rfl, by decide +kernel, by decide +kernel⟩
theorem ok_d_vars (T : T24 P w K mg base) (m : Nat) : Ok P w K mg base CX0 "_law_d_variables" ["_law_words"] (m + 2) (spDv m) := by
  obtain ⟨fR, dR, GR, bR, kR, mR⟩ := (ok_d_parts T m).ex
  obtain ⟨fO, dO, GO, bO, kO, mO⟩ := (ok_each T).ex
  refine T.ok 33 rfl sc_dv (fun vs H Q E h => ?_) (fun kV doc pm an cdv ct us hl => match us, hl with | [_], _ => rfl) (fun f cdv A outer s H vs Q E hr h => ?_)
  · obtain ⟨a, us, zs, rfl, _⟩ := h
    rfl
  · obtain ⟨a, us, zs, rfl, ha, hu, hd, hm, hs, k⟩ := h
    refine ⟨_, pss_cons (ps_set (i := 1) sc_dv.nd rfl (Or.inl rfl) (pe_lst pa_nil))
      (pss_cons (ps_for PassesOwn.never rfl (pi_list (pv 0)) (pg_name (i := 2) sc_dv.nd rfl (Or.inl rfl))
        (pss_one (ps_expr (pe_bm PySem.F.plainAttrs_list PySem.F.slot_list_extend PySem.F.type_list_extend mt_extend (pv 1) (pa_cons
          (pe_lc (own := [("_law_place", 3), ("_law_part", 4)]) (g := gPair K 3 4) (tt := tB (tIsi K "str" (tVar 4))) (te := tVar 4) rfl sc_dv.nd (pi_list (pe_call GR hr (by rfl) mR kR bR .nil pass0 (pa_cons (pv 2) pa_nil))) (blkOk_by (N := nDv) (sc := defScope s__law_d_variables) (by decide +kernel))
            (fun _ _ _ _ _ => pg_tup rfl (pgs_cons (pg_name (i := 3) sc_dv.nd rfl (Or.inl rfl)) (pgs_cons (pg_name (i := 4) sc_dv.nd rfl (Or.inl rfl)) pgs_nil)))
            (fun _ _ _ _ _ => pts_one (pt_val (pe_isiB T.isi T.str PyProof.Rows.boot_str (pv 4)))) (fun _ _ _ _ _ => pv 4)) pa_nil)))))
      (pss_one (ps_ret (pe_call GO (hr.mono (by omega)) (by rfl) mO kO bO .nil pass0 (pa_cons (pv 1) pa_nil))))), ?_⟩
    have hul : us.length = zs.length := WVs.length hu
    refine q_asgL (el_lst ea_nil (by show 0 ≤ 100000; decide)) fun p H1 hp e1 h1 => ?_
    refine q_forL (xs := us) (ev_var rfl) (sq_of (e1 _ _ ha)) (fun i σ' H' => Ex H H' ∧ (∃ b : Option V, σ' = [some (.ref a), some (.ref p), b, none, none]) ∧ H' p = some (.lst (sVs (W.allvs (zs.take i))))) ?_ ?_ ?_ ?_
    · intro H2 e2
      exact ⟨e1.trans e2, ⟨none, rfl⟩, e2 _ _ h1⟩
    · rintro i σ' H' hi ⟨e, _⟩
      exact sq_of (e _ _ ha)
    · rintro i x σ' H' hx ⟨e, ⟨b, rfl⟩, h⟩
      obtain ⟨y, hy, hwy⟩ := WVs.getv (hu.ext e) hx
      have hyd := hd y (List.mem_of_getElem? hy)
      have hys := W.lt_sz hy
      have h5 := W.allv_len y
      have h6 := W.allvs_len (zs.take i)
      have h7 := szs_take zs i
      refine s_extL (xs := sVs (W.allvs (zs.take i))) (zs := sVs y.allv) h (ev_var rfl) ?_ (by rw [sVs_len, sVs_len]; omega) fun H4 e4 => ?_
      · intro H4 e4 Q4 q4
        refine ⟨x, rfl, x, y, rfl, hwy.ext e4, hyd, hm, by omega, fun pq ps H5 hpq e5 h5 hparts => ?_⟩
        have hpln := hparts.length
        have hpl2 := W.parts_len y
        refine ⟨pq, rfl, ⟨ps, sq_of h5⟩, fun Dl hD => lc_list (xs := ps) (Cw H5 (fun i => ((y.parts[i]?).bind fun q => vOf q.2).isSome) (fun i => (((y.parts[i]?).bind fun q => vOf q.2).map V.str).getD .non) Dl) ⟨hD, Ex.new hD, upd_same⟩ (fun i' H' _ p => sq_of (p.2.1 pq _ h5)) (fun j v G hj c => ?_) (fun G c => ?_)⟩
        · obtain ⟨q5, hq5, t5, l5, u5, rfl, k1, k2, k3, k5⟩ := hparts.get hj
          refine ⟨t5, _, rfl, st_of (c.2.1 _ _ k1), rfl, _, _, rfl, _, _, rfl, rfl, rfl, cw_turn c (by have := (List.getElem?_eq_some_iff.mp hj).1; omega) ?_ fun hb => ?_⟩
          · refine et_is (et_B (ev_isStr (o := q5.2.o) (ev_var rfl) k5)) ?_
            rw [hq5]
            show _ = (vOf q5.2).isSome
            cases q5.2 <;> rfl
          · rw [hq5] at hb ⊢
            change (vOf q5.2).isSome = true at hb
            show Ev _ _ _ (((vOf q5.2).map V.str).getD .non)
            cases hq : q5.2 with
            | v s =>
              rw [hq] at k5
              obtain rfl : u5 = .str s := k5
              exact ev_var rfl
            | n s as => rw [hq] at hb; cases hb
        · refine q4 Dl G (fresh_back e5 c.1) (e5.trans c.2.1) ?_
          rw [c.2.2, given_vOf y.parts (fun q => vOf q.2) ps.length (by omega), hpln, List.take_length, W.parts_allv]
      · refine ⟨Ex.mut (e.trans e4) hp, ⟨_, rfl⟩, ?_⟩
        rw [upd_same, take_snoc hy, W.allvs_snoc]
        unfold sVs
        rw [List.map_append]
    · rintro σ' H' ⟨e, ⟨b, rfl⟩, h⟩
      rw [hul, List.take_length] at h
      have h6 := W.allvs_len zs
      refine ⟨.ref p, rfl, p, W.allvs zs, rfl, h, by omega, fun p2 H2 hp2 e2 h2 => k p2 H2 (fresh_back e hp2) (e.trans e2) ?_⟩
      rw [W.varsL_eo]
      exact h2
end
end K24

set_option Elab.async false
set_option linter.all false
set_option maxRecDepth 100000
set_option maxHeartbeats 4000000
/-! The law's depths. -/
namespace K24
open PySem PySem.Spec PyProof.Rows L2 Evl
section
variable {P : Program} {w : World} {K : PySem.W.Frag} {mg : Str → Option Value} {base : Heap}
abbrev nLd : List Str := ["_law_word", "_law_part"]
end
end K24

set_option Elab.async false
set_option linter.all false
set_option maxRecDepth 100000
set_option maxHeartbeats 4000000
/-! The law's exchange. -/
namespace K24
open PySem PySem.Spec PyProof.Rows L2 Evl
section
variable {K : PySem.W.Frag} {σ : L2.St} {H : Hp} {te : TE}
/-- x[1:], x a list -/
theorem el_tail {a : Addr} {x : V} {xs : List V} (h : Ev te σ H (.ref a)) (ha : H a = some (.lst (x :: xs))) : EvL (tSl (rSlL K) te (tPart (tC (.int 1))) tNoPart) σ H xs := fun H1 e Q q =>
  h H1 e _ fun H2 e2 => ⟨1, rfl, a, x :: xs, rfl, sq_of ((e.trans e2) _ _ ha), fun p hp => by
    have e0 : cutV (x :: xs) (some 1) none = xs := cut1 x xs
    rw [e0]
    exact q p _ (fresh_back e2 hp) (e2.trans (Ex.new hp)) upd_same⟩
theorem et_eqNil {a : Addr} {p : List Nat} (h : Ev te σ H (.ref a)) (ha : H a = some (.lst (nums p))) : EvT (tTest (tOp (rEqD K) te (tLst tNil))) σ H (PyData.eqv (.list ((p.map fun n => ((n : Nat) : Int)).map PyData.int)) (.list [])) := fun H1 e Q q =>
  h H1 e _ fun H2 e2 => ⟨Nat.zero_le _, fun l hl => by
    have e3 := e2.trans (Ex.new (o := .lst []) hl)
    have hp : nums p = (p.map fun n => ((n : Nat) : Int)).map V.int := by
      unfold nums
      rw [List.map_map]
      rfl
    refine ⟨.list ((p.map fun n => ((n : Nat) : Int)).map PyData.int), .list [], .lst (sq_of ((e.trans e3) _ _ (by rw [ha, hp]))) (dp_ints _), .lst (sq_of upd_same) .nil, shaped_ints _, by decide +kernel, _, rfl, ?_⟩
    exact q _ e3⟩
end
section
variable {P : Program} {w : World} {K : PySem.W.Frag} {mg : Str → Option Value} {base : Heap}
def spLx (m : Nat) : Sp := fun vs H Q _ => ∃ (u q : V) (a : Addr) (z y : W) (p : List Nat), vs = [u, .ref a, q] ∧ WV H u z ∧ H a = some (.lst (nums p)) ∧ WV H q y ∧ p.length < m ∧ m ≤ 40 ∧ z.sz ≤ 1000 ∧ (z.at p).isSome = true ∧ ∀ (r : V) (G : Hp), Ex H G → WV G r (z.put p y) → Q r G
theorem ep_lx {σ : L2.St} {H : Hp} {m : Nat} {t1 t2 t3 : TE} {ux q : V} {x y : W} {p : List Nat} (h1 : Ev t1 σ H ux) (h2 : EvL t2 σ H (nums p)) (h3 : Ev t3 σ H q) (hw : WV H ux x) (hy : WV H q y) (hp : p.length < m) (hm : m ≤ 40) (hs : x.sz ≤ 1000) (ha : (x.at p).isSome = true) :
    EvP (tCall (spLx m) [] E0 (tCons t1 (tCons t2 (tCons t3 tNil)))) σ H (fun r G => WV G r (x.put p y)) := fun H1 e Q k =>
  h1 H1 e _ fun H2 e2 => h2 H2 (e.trans e2) _ fun a H3 _ e3 h3' => h3 H3 ((e.trans e2).trans e3) _ fun H4 e4 => ⟨ux, q, a, x, y, p, rfl, hw.ext (((e.trans e2).trans e3).trans e4), e4 _ _ h3', hy.ext (((e.trans e2).trans e3).trans e4), hp, hm, hs, ha, fun r G e5 hr => k r G (((e2.trans e3).trans e4).trans e5) hr⟩
abbrev nLx : List Str := ["_law_word", "_law_place", "_law_part", "_law_at"]
end
end K24

set_option Elab.async false
set_option linter.all false
set_option maxRecDepth 100000
set_option maxHeartbeats 4000000
/-! Things that are no words. -/
namespace K24
open PySem PySem.Spec PyProof.Rows L2 Evl
/-- a new thing, beside the lists of H0 -/
def EvOx (H0 : Hp) (te : TE) (σ : L2.St) (H : Hp) (o : O) : Prop := ∀ H1, Ex H H1 → ∀ Q : VK, (∀ v H2, Ex H1 H2 → OV (Hx (Old H0) H2) v o → Q v H2) → te σ H1 Q
def EvAx (H0 : Hp) (ta : TA) (σ : L2.St) (H : Hp) (os : List O) : Prop := ∀ H1, Ex H H1 → ∀ Q : List V → Hp → Prop, (∀ vs H2, Ex H1 H2 → OVs (Hx (Old H0) H2) vs os → Q vs H2) → ta σ H1 Q
def EvLx (H0 : Hp) (te : TE) (σ : L2.St) (H : Hp) (os : List O) : Prop := ∀ H1, Ex H H1 → ∀ Q : VK, (∀ p xs H2, H1 p = none → Ex H1 H2 → H2 p = some (.lst xs) → OVs (Hx (Old H0) H2) xs os → Q (.ref p) H2) → te σ H1 Q
section
variable {H0 H : Hp} {σ : L2.St} {te : TE} {ta : TA}
theorem eox_int {i : Int} : EvOx H0 (tC (.int i)) σ H (.int i) := fun H1 e Q q => q _ _ (Ex.refl _) rfl
theorem eox_str {i : Str} : EvOx H0 (tC (.str i)) σ H (.str i) := fun H1 e Q q => q _ _ (Ex.refl _) rfl
theorem eox_bl {i : Bool} : EvOx H0 (tC (.bl i)) σ H (.bl i) := fun H1 e Q q => q _ _ (Ex.refl _) rfl
theorem eox_non : EvOx H0 (tC .non) σ H .non := fun H1 e Q q => q _ _ (Ex.refl _) rfl
theorem eax_nil : EvAx H0 tNil σ H [] := fun H1 e Q q => q _ _ (Ex.refl _) rfl
theorem eax_cons {o : O} {os : List O} (h : EvOx H0 te σ H o) (k : EvAx H0 ta σ H os) : EvAx H0 (tCons te ta) σ H (o :: os) := fun H1 e Q q =>
  h H1 e _ fun v H2 e2 hv => k H2 (e.trans e2) _ fun vs H3 e3 hvs => q (v :: vs) H3 (e2.trans e3) (.cons (hv.ext (Go.of e3).ex) hvs)
theorem eox_tup {os : List O} (h0 : Ex H0 H) (h : EvAx H0 ta σ H os) (n : os.length ≤ 1000) : EvOx H0 (tTup ta) σ H (.tup os) := fun H1 e Q q =>
  h H1 e _ fun vs H2 e2 hvs => ⟨sz_of (by rw [hvs.length]; omega), fun p hp => q (.ref p) _ (e2.trans (Ex.new hp)) ⟨p, vs, rfl, hx_of (not_old (fresh_back (h0.trans (e.trans e2)) hp)) tup_tbl upd_same, hvs.ext (Go.of (Ex.new hp)).ex⟩⟩
theorem eox_lst {os : List O} (h0 : Ex H0 H) (h : EvAx H0 ta σ H os) (n : os.length ≤ 1000) : EvOx H0 (tLst ta) σ H (.lst os) := fun H1 e Q q =>
  h H1 e _ fun vs H2 e2 hvs => ⟨sz_of (by rw [hvs.length]; omega), fun p hp => q (.ref p) _ (e2.trans (Ex.new hp)) ⟨p, vs, rfl, hx_of (not_old (fresh_back (h0.trans (e.trans e2)) hp)) lst_tbl upd_same, hvs.ext (Go.of (Ex.new hp)).ex⟩⟩
theorem eox_dct (h0 : Ex H0 H) : EvOx H0 tDNewK σ H .dct := fun H1 e Q q => fun p hp => q (.ref p) _ (Ex.new hp) ⟨p, rfl, hx_of (not_old (fresh_back (h0.trans e) hp)) (fun _ z => nomatch z) upd_same⟩
theorem elx_lst {os : List O} (h : EvAx H0 ta σ H os) (n : os.length ≤ 1000) : EvLx H0 (tLst ta) σ H os := fun H1 e Q q =>
  h H1 e _ fun vs H2 e2 hvs => ⟨sz_of (by rw [hvs.length]; omega), fun p hp => q p vs _ (fresh_back e2 hp) (e2.trans (Ex.new hp)) upd_same (hvs.ext (Go.of (Ex.new hp)).ex)⟩
theorem s_retLx {D : Ends} {os : List O} (h : EvLx H0 te σ H os) (k : ∀ p xs H1, H p = none → Ex H H1 → H1 p = some (.lst xs) → OVs (Hx (Old H0) H1) xs os → D.rt (.ref p) H1) : tRet te D σ H := h H (Ex.refl H) _ k
end
def odds : List O := [.non, .int 5, .bl true, .str "", .str "x", .str "a", .str "Xy", .str "X1y", .str "XX", .lst [], .tup [], .dct, .tup [.str "X"], .tup [.str "not"], .tup [.str "a", .int 5], .tup [.str "f", .tup [.str "a"], .non], .tup [.str "f", .str "a"], .tup [.str "=", .str "X"], .tup [.str "=", .tup [.str "a"], .tup [.str "b"], .tup [.str "c"]],
  .tup [.int 5, .str "X"], .tup [.str "f", .tup [.str "=", .str "X", .str "Y"]], .tup [.str "Ff", .str "X"]]
def oddB (o : O) : Bool := o.ss && (decide (o.sz ≤ 8000) && (o.e3 && !o.fitW))
theorem odds_odd : odds.all oddB = true := by decide +kernel
theorem oddB_no {H : Hp} {v : V} {o : O} (h : oddB o = true) (k : OV H v o) : NoW H v := by
  unfold oddB at h
  simp only [Bool.and_eq_true, Bool.not_eq_true', decide_eq_true_eq] at h
  exact ⟨o, ⟨k, h.1, h.2.1, h.2.2.1⟩, h.2.2.2⟩
section
variable {P : Program} {w : World} {K : PySem.W.Frag} {mg : Str → Option Value} {base : Heap}
def spOd : Sp := fun vs H Q _ => vs = [] ∧ ∀ p xs H', H p = none → Ex H H' → H' p = some (.lst xs) → OVs (Hx (Old H) H') xs odds → Q (.ref p) H'
theorem sc_od : FnScope [] [] (defScope s__law_d_odd_words) := ⟨rfl, rfl, rfl, by decide +kernel, rfl, by decide +kernel, by decide +kernel⟩
theorem ok_odd (T : T24 P w K mg base) : Ok P w K mg base CX0 "_law_d_odd_words" [] 1 spOd := by
  refine T.ok 34 rfl sc_od (fun vs H Q E h => ?_) (fun kV doc pm an cdv ct us hl => match us, hl with | [], _ => rfl) (fun f cdv A outer s H vs Q E hr h => ?_)
  · rw [h.1]
    rfl
  · obtain ⟨rfl, k⟩ := h
    refine ⟨_, pss_one (ps_ret (pe_lst (pa_cons pe_non (pa_cons pe_int (pa_cons pe_bl (pa_cons pe_str (pa_cons pe_str (pa_cons pe_str (pa_cons pe_str (pa_cons pe_str (pa_cons pe_str (pa_cons (pe_lst pa_nil) (pa_cons (pe_tup pa_nil) (pa_cons pe_dnewK (pa_cons (pe_tup (pa_cons pe_str pa_nil)) (pa_cons (pe_tup (pa_cons pe_str pa_nil)) (pa_cons (pe_tup (pa_cons pe_str (pa_cons pe_int pa_nil))) (pa_cons (pe_tup (pa_cons pe_str (pa_cons (pe_tup (pa_cons pe_str pa_nil)) (pa_cons pe_non pa_nil)))) (pa_cons (pe_tup (pa_cons pe_str (pa_cons pe_str pa_nil))) (pa_cons (pe_tup (pa_cons pe_str (pa_cons pe_str pa_nil))) (pa_cons (pe_tup (pa_cons pe_str (pa_cons (pe_tup (pa_cons pe_str pa_nil)) (pa_cons (pe_tup (pa_cons pe_str pa_nil)) (pa_cons (pe_tup (pa_cons pe_str pa_nil)) pa_nil))))) (pa_cons (pe_tup (pa_cons pe_int (pa_cons pe_str pa_nil))) (pa_cons (pe_tup (pa_cons pe_str (pa_cons (pe_tup (pa_cons pe_str (pa_cons pe_str (pa_cons pe_str pa_nil)))) pa_nil))) (pa_cons (pe_tup (pa_cons pe_str (pa_cons pe_str pa_nil))) pa_nil)))))))))))))))))))))))), ?_⟩
    refine s_retLx (H0 := H) (os := odds) (elx_lst ?_ (by decide)) k
    exact (eax_cons eox_non (eax_cons eox_int (eax_cons eox_bl (eax_cons eox_str (eax_cons eox_str (eax_cons eox_str (eax_cons eox_str (eax_cons eox_str (eax_cons eox_str (eax_cons (eox_lst (Ex.refl H) eax_nil (by decide)) (eax_cons (eox_tup (Ex.refl H) eax_nil (by decide)) (eax_cons (eox_dct (Ex.refl H)) (eax_cons (eox_tup (Ex.refl H) (eax_cons eox_str eax_nil) (by decide)) (eax_cons (eox_tup (Ex.refl H) (eax_cons eox_str eax_nil) (by decide)) (eax_cons (eox_tup (Ex.refl H) (eax_cons eox_str (eax_cons eox_int eax_nil)) (by decide)) (eax_cons (eox_tup (Ex.refl H) (eax_cons eox_str (eax_cons (eox_tup (Ex.refl H) (eax_cons eox_str eax_nil) (by decide)) (eax_cons eox_non eax_nil))) (by decide)) (eax_cons (eox_tup (Ex.refl H) (eax_cons eox_str (eax_cons eox_str eax_nil)) (by decide)) (eax_cons (eox_tup (Ex.refl H) (eax_cons eox_str (eax_cons eox_str eax_nil)) (by decide)) (eax_cons (eox_tup (Ex.refl H) (eax_cons eox_str (eax_cons (eox_tup (Ex.refl H) (eax_cons eox_str eax_nil) (by decide)) (eax_cons (eox_tup (Ex.refl H) (eax_cons eox_str eax_nil) (by decide)) (eax_cons (eox_tup (Ex.refl H) (eax_cons eox_str eax_nil) (by decide)) eax_nil)))) (by decide)) (eax_cons (eox_tup (Ex.refl H) (eax_cons eox_int (eax_cons eox_str eax_nil)) (by decide)) (eax_cons (eox_tup (Ex.refl H) (eax_cons eox_str (eax_cons (eox_tup (Ex.refl H) (eax_cons eox_str (eax_cons eox_str (eax_cons eox_str eax_nil))) (by decide)) eax_nil)) (by decide)) (eax_cons (eox_tup (Ex.refl H) (eax_cons eox_str (eax_cons eox_str eax_nil)) (by decide)) eax_nil))))))))))))))))))))))
end
end K24

set_option Elab.async false
set_option linter.all false
set_option maxRecDepth 100000
set_option maxHeartbeats 4000000
/-! repr of words; defs that run where no guard stands. -/
namespace K24
open PySem PySem.Spec PyProof.Rows L2 Evl
/-- a def's promise where no guard stands -/
structure FnG (P : Program) (w : World) (K : PySem.W.Frag) (mg : Str → Option Value) (base : Heap) (k : Nat) (f : Addr) (fd : FuncData) (ps : List Str) (sp : Sp) : Prop where
  len : ∀ vs H Q E, sp vs H Q E → vs.length = ps.length
  run : ∀ (A : Around) (outer : List Env) (s : Shared) (H : Hp) (args : Args) (us : List Value) (vs : List V) (Q : VK), A.guards = some [] → Room k A → Env0 P w K mg base A outer s H → BindsTo s fd args (ps.zip us) → Vals vs us → sp vs H Q E0 →
    codeAny (model P w) A (.call (.ref f) args) (CR CX0 outer P w H s Q E0) s
section
variable {P : Program} {w : World} {K : PySem.W.Frag} {mg : Str → Option Value} {base : Heap}
theorem FnG.of {x qual : Str} {params : Arguments} {body : List Stmt} {scope : Scope} {f : Addr} {fd : FuncData} {N ps : List Str} {k : Nat} {sp : Sp} (F : FunD K x qual params body scope [] [] f fd) (S : FnScope N ps scope) (len : ∀ vs H Q E, sp vs H Q E → vs.length = ps.length)
    (hb : ∀ (c : Addr), (∃ oc od osl, K.lookup f = some ⟨oc, od, .func fd, osl⟩ ∧ fd.code = .ref c) → ∀ (A : Around) (outer : List Env) (s : Shared) (H : Hp) (vs : List V) (Q : VK), A.guards = some [] → Room k (A.deeper (envOfC qual scope s.heap.objs.size f (.ref c))) → sp vs H Q E0 →
      ∃ t, PSs (cxOf CX0 P w K mg base N qual scope f (.ref c) A outer s H E0) body t ∧ t { nx := fun _ G => Q .non G, rt := Q } (L2.start N vs) H) : FnG P w K mg base (k + 1) f fd ps sp := by
  obtain ⟨oc, od, dV, kV, doc, pm, an, cd, ct, osl, rfl, lk, hcd, _, _⟩ := F.ex
  obtain ⟨c, hc⟩ := He.codeIn_ref hcd
  subst hc
  constructor
  · exact len
  intro A outer s H args us vs Q hg hr e0 hbi r hs
  have hK : K.In s.heap := e0.mod.kin.keeps fun b o e => (e0.bs b o e).1
  have hL : s.heap.NoLimit := e0.mod.nolimit.keeps fun b o e => (e0.bs b o e).1
  refine codeAny_call_function hr.depth (hK _ _ lk) rfl S.co S.gen rfl (PySem.W.codeRec_of hK hcd) (hbi _ _ _ _ ?_)
  refine wpAny_newFunctionEnv_cells S.kind (fun y hy => ?_) fun env he s1 x => ?_
  · rcases S.par y.1 (List.of_mem_zip (a := y.1) (b := y.2) hy).1 with q | q
    · exact Or.inl q
    · exact Or.inr ⟨q, PySem.W.cellsFrom_some _ _ _ (Or.inl q)⟩
  · subst he
    obtain ⟨t, ht, hq⟩ := hb c ⟨_, _, _, lk, rfl⟩ A outer s H vs Q hg (hr.deeper _) hs
    refine ⟨hL.keeps x.toInCall.keep, codeAny_func (wpAny_mono (ht.run [] s1 (L2.start N vs) H _ (inv_start S hr.hd e0 (len _ _ _ _ hs) r x) hq) (fun fl s' z => ?_) fun _ _ z => z)⟩
    match fl, z with
    | .ret u, ⟨v, σ', G, J, rv, q⟩ => exact ⟨v, G, J.os, J.bare, J.base, J.hok, rv, q⟩
    | .next, ⟨σ', G, J, q⟩ => exact ⟨V.non, G, J.os, J.bare, J.base, J.hok, rfl, q⟩
    | .brk, ⟨_, _, _, q⟩ => exact q.elim
    | .cont, ⟨_, _, _, q⟩ => exact q.elim
end
section
variable {X : Cx}
/-- a call of such a def -/
theorem pe_callG {k : Nat} {f : Addr} {fd : FuncData} {ps : List Str} {sp : Sp} {x : Str} {p pos : Pos} {e : Expr} {es : List Expr} {t : TA} (F : FnG X.prog X.w X.K X.mg X.base k f fd ps sp) (hg : X.A.guards = some []) (hr : Room k X.A) (hx : Gl X x) (hm : X.mg x = some (.ref f))
    (hk : PySem.W.keepIn X.K (.ref f) = true) (hb : Binds X.K fd ps []) (ha : PA X (e :: es) t) (hdb : (x == ("__debug__" : Str)) = false := by decide) (he : starEach (e :: es) X.env = (false, eval e X.env) :: starEach es X.env := by rfl)
    (hpl : (backTo pos (starEach es X.env)).any (·.1) = false := by rfl) : PE X (.Call (.Name x p) (e :: es) [] pos) (tCall sp [] E0 t) := by
  refine ⟨fun pins s σ H Q I h => wpAny_Call_Name_kw (ld_glob I hx hm (PySem.W.callWith_K (h₀ := X.base) I.ok.mod.kin hk (thn (ha.run pos pins s σ H _ I h) fun us s1 ⟨vs, H1, I1, r, q⟩ => ⟨I1.kIn, ?_⟩) he hpl) hdb)⟩
  have q : sp (vs ++ []) H1 Q E0 := q
  rw [List.append_nil] at q
  have hl : us.length = ps.length := by
    rw [← r.length]
    exact F.len _ _ _ _ q
  have b := hb s1 us I1.kIn (by simpa using hl)
  rw [List.append_nil] at b
  refine wpAny_call (codeAny_mono (F.run X.A X.stack s1 H1 ⟨us, []⟩ us vs Q hg hr I1.env0 b r q) fun r s' z => ?_)
  match r, z with
  | .ok (.ret u), z => exact I1.after z
  | .error _, z => exact (show False from z).elim
/-! ### repr -/
def rRepr (K : PySem.W.Frag) : List V → Hp → VK → Prop := fun xs H Q => ∃ (v : V) (d : PyData), xs = [v] ∧ Dp K H v d ∧ d.hasDict = false ∧ d.showable = true ∧ d.depth ≤ 30 ∧ d.shown.length ≤ sizeLine ∧ ((∃ a, v = .ref a) ∨ ∃ x, v = .str x) ∧ Q (.str d.shown) H
theorem call_repr (hg : X.A.guards = some []) (hu : X.A.units + 100 < cLine) : CallR X (.builtin "repr") (rRepr X.K) := by
  intro pins s σ H xs us Q I r h
  obtain ⟨v, d, rfl, hd, h1, h2, h3, h4, hv, q⟩ := h
  obtain ⟨u, rfl, r1⟩ := vals1 r
  rcases hv with ⟨a, rfl⟩ | ⟨x, rfl⟩
  · obtain rfl : u = .ref a := r1
    obtain ⟨as, rd⟩ := Dp.reads I d _ _ hd rfl
    exact PySem.repr_of_reads' rd h2 (fun z => by rw [h1] at z; cases z) hg (by omega) (fun _ _ e => e) (fun h' t tk hk => ⟨.str _, H, I.kept hk, ⟨_, rfl⟩, q⟩) h4
  · obtain ⟨t, rfl⟩ := r1
    cases hd
    exact P.repr_of_str ⟨.str _, H, I.tok _, ⟨_, rfl⟩, q⟩ h4
end
/-! ### words as data -/
mutual
def O.py : O → PyData
  | .non => .none | .bl b => .bool b | .int i => .int i | .str s => .str s | .dct => .dict [] | .lst xs => .list (O.pys xs) | .tup xs => .tuple (O.pys xs)
def O.pys : List O → List PyData
  | [] => []
  | x :: xs => x.py :: O.pys xs
end
mutual
def O.wd : O → Bool
  | .str s => SS.contains s | .lst xs => O.wds xs | .tup xs => O.wds xs | _ => false
def O.wds : List O → Bool
  | [] => true
  | x :: xs => x.wd && O.wds xs
end
mutual
theorem strip_wd : ∀ o : O, o.strip.wd = o.wd
  | .non => rfl | .bl _ => rfl | .int _ => rfl | .str _ => rfl | .dct => rfl
  | .lst xs => strips_wd xs
  | .tup xs => strips_wd xs
theorem strips_wd : ∀ xs : List O, O.wds (O.strips xs) = O.wds xs
  | [] => rfl
  | x :: xs => by show (x.strip.wd && O.wds (O.strips xs)) = (x.wd && O.wds xs); rw [strip_wd x, strips_wd xs]
end
mutual
theorem W.wd : ∀ w : W, w.o.wd = w.o.ss
  | .v s => rfl
  | .n s as => by show (SS.contains s && O.wds (W.os as)) = (SS.contains s && O.sss (W.os as)); rw [W.wds as]
theorem W.wds : ∀ ws : List W, O.wds (W.os ws) = O.sss (W.os ws)
  | [] => rfl
  | x :: xs => by show (x.o.wd && O.wds (W.os xs)) = (x.o.ss && O.sss (W.os xs)); rw [W.wd x, W.wds xs]
end
mutual
theorem strip_dp : ∀ o : O, o.strip.dp = o.dp
  | .non => rfl | .bl _ => rfl | .int _ => rfl | .str _ => rfl | .dct => rfl
  | .lst xs => by show O.dps (O.strips xs) + 1 = O.dps xs + 1; rw [strips_dp xs]
  | .tup xs => by show O.dps (O.strips xs) + 1 = O.dps xs + 1; rw [strips_dp xs]
theorem strips_dp : ∀ xs : List O, O.dps (O.strips xs) = O.dps xs
  | [] => rfl
  | x :: xs => by show max x.strip.dp (O.dps (O.strips xs)) = max x.dp (O.dps xs); rw [strip_dp x, strips_dp xs]
end
mutual
theorem W.odp : ∀ w : W, w.o.dp = w.dp
  | .v _ => rfl
  | .n _ as => by show max 0 (O.dps (W.os as)) + 1 = W.dps as + 1; rw [W.odps as]; omega
theorem W.odps : ∀ ws : List W, O.dps (W.os ws) = W.dps ws
  | [] => rfl
  | x :: xs => by show max x.o.dp (O.dps (W.os xs)) = max x.dp (W.dps xs); rw [W.odp x, W.odps xs]
end
theorem ss_cps : SS.all (fun s => s.cps.toList.all fun c => decide (c < 16 ^ 8)) = true := by decide +kernel
theorem ss_size : SS.all (fun s => decide (s.cps.size ≤ 8)) = true := by decide +kernel
theorem ss_of {p : Str → Bool} (h : SS.all p = true) {s : Str} (k : SS.contains s = true) : p s = true := List.all_eq_true.mp h s (List.contains_iff_mem.mp k)
section
variable {K : PySem.W.Frag} {H : Hp}
mutual
theorem OV.dp : ∀ {o : O} {v : V}, OV H v o → o.wd = true → Dp K H v o.py
  | .str s, v, h, k => by obtain rfl : v = .str s := h; exact .str s
  | .lst xs, v, h, k => by obtain ⟨a, vs, rfl, h1, h2⟩ := h; exact .lst (sq_of h1) (OVs.dp h2 k)
  | .tup xs, v, h, k => by obtain ⟨a, vs, rfl, h1, h2⟩ := h; exact .tup (st_of h1) (OVs.dp h2 k)
  | .non, _, _, k => nomatch k
  | .bl _, _, _, k => nomatch k
  | .int _, _, _, k => nomatch k
  | .dct, _, _, k => nomatch k
theorem OVs.dp : ∀ {os : List O} {vs : List V}, OVs H vs os → O.wds os = true → DpAll K H vs (O.pys os)
  | [], vs, h, k => by obtain rfl : vs = [] := h; exact .nil
  | x :: xs, vs, h, k => by
    obtain ⟨v, us, rfl, h1, h2⟩ := h
    have k : (x.wd && O.wds xs) = true := k
    rw [Bool.and_eq_true] at k
    exact .cons (OV.dp h1 k.1) (OVs.dp h2 k.2)
end
mutual
theorem O.py_nd : ∀ {o : O}, o.wd = true → o.py.hasDict = false ∧ o.py.showable = true ∧ o.py.leavesShort 8 = true ∧ o.py.weight + 1 ≤ 9 * o.sz ∧ o.py.depth ≤ o.dp
  | .str s, k => ⟨rfl, rfl, ss_of ss_cps k, by
      have := of_decide_eq_true (ss_of ss_size k)
      show s.cps.size + 1 ≤ 9 * 1
      omega, Nat.le_refl _⟩
  | .lst xs, k => by
    obtain ⟨a, b, c, d, e⟩ := O.pys_nd (xs := xs) k
    exact ⟨by simpa only [O.py, PyData.hasDict] using a, by simpa only [O.py, PyData.showable] using b, by simpa only [O.py, PyData.leavesShort] using c, by simp only [O.py, PyData.weight, O.sz]; omega, by simp only [O.py, PyData.depth, O.dp]; omega⟩
  | .tup xs, k => by
    obtain ⟨a, b, c, d, e⟩ := O.pys_nd (xs := xs) k
    exact ⟨by simpa only [O.py, PyData.hasDict] using a, by simpa only [O.py, PyData.showable] using b, by simpa only [O.py, PyData.leavesShort] using c, by simp only [O.py, PyData.weight, O.sz]; omega, by simp only [O.py, PyData.depth, O.dp]; omega⟩
  | .non, k => nomatch k
  | .bl _, k => nomatch k
  | .int _, k => nomatch k
  | .dct, k => nomatch k
theorem O.pys_nd : ∀ {xs : List O}, O.wds xs = true → PyData.hasDictAll (O.pys xs) = false ∧ PyData.showableAll (O.pys xs) = true ∧ PyData.leavesShortAll 8 (O.pys xs) = true ∧ PyData.weightAll (O.pys xs) ≤ 9 * O.szs xs ∧ PyData.depthAll (O.pys xs) ≤ O.dps xs
  | [], _ => ⟨rfl, rfl, rfl, Nat.zero_le _, Nat.zero_le _⟩
  | x :: xs, k => by
    have k : (x.wd && O.wds xs) = true := k
    rw [Bool.and_eq_true] at k
    obtain ⟨a1, b1, c1, d1, e1⟩ := O.py_nd (o := x) k.1
    obtain ⟨a, b, c, d, e⟩ := O.pys_nd (xs := xs) k.2
    have hs := x.sz_pos
    refine ⟨?_, ?_, ?_, ?_, ?_⟩
    · simp only [O.pys, PyData.hasDictAll, a1, a, Bool.or_false]
    · simp only [O.pys, PyData.showableAll, b1, b, Bool.and_true]
    · simp only [O.pys, PyData.leavesShortAll, c1, c, Bool.and_true]
    · simp only [O.pys, PyData.weightAll, O.szs]; omega
    · simp only [O.pys, PyData.depthAll, O.dps]; omega
end
abbrev tRpr (K : PySem.W.Frag) (te : TE) : TE := tCB (rRepr K) (tCons te tNil)
theorem ev_repr {σ : L2.St} {te : TE} {v : V} {z : W} {o : O} (h : Ev te σ H v) (ov : OV H v o) (e : o.strip = z.o) (hz : Dz z) : Ev (tRpr K te) σ H (.str o.py.shown) := fun H1 x Q q =>
  h H1 x _ fun H2 x2 => by
    have hw : o.wd = true := by rw [← strip_wd, e, W.wd]; exact hz.ss
    obtain ⟨a, b, c, d, e2⟩ := O.py_nd hw
    have hd : o.dp ≤ 12 := by rw [← strip_dp, e, W.odp]; exact Nat.le_of_lt hz.dp
    have hs : o.sz ≤ 800 := by
      have := sz_of_strip e
      have := W.sz_nd z
      have := hz.nd
      omega
    refine ⟨v, o.py, rfl, OV.dp (ov.ext (x.trans x2)) hw, a, b, by omega, PyData.shown_fits (B := 8) (by decide) (by decide) c (by omega), ?_, q H2 x2⟩
    cases o with
    | str s => exact .inr ⟨s, ov⟩
    | lst xs => obtain ⟨p, _, h, _⟩ := ov; exact .inl ⟨p, h⟩
    | tup xs => obtain ⟨p, _, h, _⟩ := ov; exact .inl ⟨p, h⟩
    | _ => cases hw
end
end K24

set_option Elab.async false
set_option linter.all false
set_option maxRecDepth 100000
set_option maxHeartbeats 4000000
/-! Substitutions, whatever stands for them. -/
namespace K24
open PySem PySem.Spec PyProof.Rows L2 Evl
theorem pe_or2 {X : Cx} {e : Expr} {t1 t2 : TE} (h1 : PE X e t1) (h2 : PE X e t2) : PE X e (fun σ H Q => t1 σ H Q ∨ t2 σ H Q) := ⟨fun pins s σ H Q I h => by
  rcases h with h | h
  · exact h1.run pins s σ H Q I h
  · exact h2.run pins s σ H Q I h⟩
section
variable {P : Program} {w : World} {K : PySem.W.Frag} {mg : Str → Option Value} {base : Heap}
/-! ### what is no text is no variable -/
def spN : Sp := fun vs H Q _ => ∃ v o, vs = [v] ∧ OV H v o ∧ o.isStr = false ∧ RetV (.bl false) H Q
theorem spN_len {vs : List V} {H : Hp} {Q : VK} {E : XK} (h : spN vs H Q E) : vs.length = 1 := by
  obtain ⟨v, o, rfl, _⟩ := h
  rfl
theorem spv_N {v : V} {o : O} {H : Hp} (h : OV H v o) (hs : o.isStr = false) : SpV spN ([v] ++ []) H (.bl false) := fun H1 e Q q E => ⟨v, o, rfl, h.ext e, hs, q⟩
theorem ok_is_spelledN (T : T24 P w K mg base) : Ok P w K mg base CX0 "is_spelled" ["thing"] 1 spN := by
  obtain ⟨tl, mLo⟩ := T.longest
  refine T.ok 3 rfl sc_spelled (fun vs H Q E h => spN_len h) (fun kV doc pm an cdv ct us hl => match us, hl with | [_], _ => rfl) (fun f cdv A outer s H vs Q E hr h => ?_)
  obtain ⟨v, o, rfl, hv, hs, k⟩ := h
  refine ⟨_, pss_one (ps_ret (pe_and (pe_isiB T.isi T.str PyProof.Rows.boot_str (pv 0)) (pe_and (pe_cmpR op_le (pe_callB call_len (by rfl) T.len PySem.boot_len (pa_cons (pv 0) pa_nil)) (pe_glob (v := .int 8) rfl mLo ⟨_, rfl⟩) (nomark _))
    (pe_and (pe_m0 PySem.F.slot_str_isalnum PySem.F.type_str_isalnum mt_isalnum (pv 0)) (pe_one (pe_m0 PySem.F.slot_str_isascii PySem.F.type_str_isascii mt_isascii (pv 0))))))), ?_⟩
  exact s_ret (ev_andV (a := false) (b := false) (ev_is (ev_isStr (ev_var rfl) hv) (by rw [hs])) fun z => nomatch z) k
theorem ok_is_variableN (T : T24 P w K mg base) : Ok P w K mg base CX0 "is_variable" ["thing"] 2 spN := by
  obtain ⟨tl, mLe⟩ := T.capitals
  obtain ⟨fS, dS, GS, bS, kS, mS⟩ := (ok_is_spelledN T).ex
  refine T.ok 5 rfl sc_var (fun vs H Q E h => spN_len h) (fun kV doc pm an cdv ct us hl => match us, hl with | [_], _ => rfl) (fun f cdv A outer s H vs Q E hr h => ?_)
  obtain ⟨v, o, rfl, hv, hs, k⟩ := h
  refine ⟨_, pss_one (ps_ret (pe_and (pe_call GS hr (by rfl) mS kS bS .nil pass0 (pa_cons (pv 0) pa_nil))
    (pe_and (pe_cmpR op_in_sign (pe_ix ix_str (pv 0) pe_int (fun _ _ => rfl)) (pe_glob (v := .str "ABCDEFGHIJKLMNOPQRSTUVWXYZ") rfl mLe ⟨_, rfl⟩) (by rfl))
    (pe_one (pe_or (pe_cmpR op_eq (pe_callB call_len (by rfl) T.len PySem.boot_len (pa_cons (pv 0) pa_nil)) pe_int (nomark _))
      (pe_one (pe_m0 PySem.F.slot_str_isdigit PySem.F.type_str_isdigit mt_isdigit (pe_slice sl_str (pv 0) (po_some pe_int) po_none)))))))), ?_⟩
  exact s_ret (ev_andV (a := false) (b := false) (ev_call (ea_cons (ev_var rfl) ea_nil) (spv_N hv hs)) fun z => nomatch z) k
/-! ### dicts as data -/
def kO : Key → O
  | .inl i => .int i
  | .inr s => .str s
theorem kO_ov {H : Hp} (k : Key) : OV H (kV k) (kO k) := by cases k <;> rfl
/-- the dict at d: its keys, its values -/
structure DD (H : Hp) (d : Addr) (ks : List (Key × O)) : Prop where
  ex : ∃ kvs, H d = some (.dK kvs) ∧ kvs.map (·.1) = ks.map (·.1) ∧ OVs H (kvs.map (·.2)) (ks.map (·.2))
  nd : (ks.map (·.1)).Nodup
theorem DD.ext {H G : Hp} {d : Addr} {ks : List (Key × O)} (h : DD H d ks) (e : Ex H G) : DD G d ks := by
  obtain ⟨kvs, a, b, c⟩ := h.ex
  exact ⟨⟨kvs, e _ _ a, b, c.ext e⟩, h.nd⟩
/-- a key and its value that may be asked about -/
def okP (p : Key × O) : Bool := ((kO p.1).ss && p.2.ss) && ((decide (p.2.sz ≤ 8000) && p.2.e3) && (!p.2.hasL && p.2.nod))
def varO : O → Bool
  | .str s => varB s
  | _ => false
def subB (ks : List (Key × O)) : Bool := ks.all fun p => varO (kO p.1) && p.2.fit
theorem valV_at {kvs : List (Key × V)} (nd : (kvs.map (·.1)).Nodup) : ∀ {i : Nat} {p : Key × V}, kvs[i]? = some p → valV kvs p.1 = some p.2 := by
  induction kvs with
  | nil => intro i p h; simp at h
  | cons a r ih =>
    intro i p h
    rw [List.map_cons, List.nodup_cons] at nd
    unfold valV
    rw [List.find?_cons]
    cases i with
    | zero =>
      obtain rfl : a = p := by simpa using h
      simp
    | succ i =>
      have hp : r[i]? = some p := by simpa using h
      have hne : a.1 ≠ p.1 := fun z => nd.1 (by rw [z]; exact List.mem_map.mpr ⟨p, List.mem_of_getElem? hp, rfl⟩)
      rw [decide_eq_false hne]
      exact ih nd.2 hp
theorem dd_at {H : Hp} {kvs : List (Key × V)} {ks : List (Key × O)} (e : kvs.map (·.1) = ks.map (·.1)) (h : OVs H (kvs.map (·.2)) (ks.map (·.2))) {i : Nat} {p : Key × V} (hp : kvs[i]? = some p) : ∃ q, ks[i]? = some q ∧ q.1 = p.1 ∧ OV H p.2 q.2 := by
  have h1 : (ks.map (·.1))[i]? = some p.1 := by rw [← e, List.getElem?_map, hp]; rfl
  rw [List.getElem?_map] at h1
  obtain ⟨q, hq, e1⟩ := Option.map_eq_some_iff.mp h1
  obtain ⟨o, ho, hov⟩ := h.get (i := i) (v := p.2) (by rw [List.getElem?_map, hp]; rfl)
  rw [List.getElem?_map, hq] at ho
  obtain rfl := Option.some.inj ho
  exact ⟨q, hq, e1, hov⟩
def spIs : Sp := fun vs H Q _ => ∃ v, vs = [v] ∧ ((∃ d ks, v = .ref d ∧ DD H d ks ∧ ks.all okP = true ∧ RetV (.bl (subB ks)) H Q) ∨ (∃ o, OV H v o ∧ o.isDct = false ∧ RetV (.bl false) H Q) ∨ ∃ d kvs, v = .ref d ∧ H d = some (.dT kvs) ∧ kvs ≠ [] ∧
  (∀ p ∈ kvs, ∃ (q : Addr), H q = some (.tup (p.1.map kV))) ∧ RetV (.bl false) H Q)
theorem sc_is : FnScope ["thing", "variable"] ["thing"] (defScope s_is_any_substitution) := ⟨rfl, rfl, rfl, by decide +kernel, rfl, by decide +kernel, by decide +kernel⟩
theorem ok_is_sub (T : T24 P w K mg base) : Ok P w K mg base CX0 "is_any_substitution" ["thing"] 7 spIs := by
  obtain ⟨fV, dV, GV, bV, kV', mV⟩ := (ok_is_variable T).ex
  obtain ⟨fN, dN, GN, bN, kN, mN⟩ := (ok_is_variableN T).ex
  obtain ⟨fW, dW, GW, bW, kW, mW⟩ := (ok_is_any_word T).ex
  refine T.ok 19 rfl sc_is (fun vs H Q E h => ?_) (fun kV doc pm an cdv ct us hl => match us, hl with | [_], _ => rfl) (fun f cdv A outer s H vs Q E hr h => ?_)
  · obtain ⟨v, rfl, _⟩ := h
    rfl
  obtain ⟨v, rfl, h⟩ := h
  refine ⟨_, pss_cons (ps_if (pt_not (pt_val (pe_isiB T.isi T.dict boot_dict23 (pv 0)))) (pss_one (ps_ret pe_bl)) pss_nil)
    (pss_cons (ps_lock (ps_for PassesOwn.never rfl (pi_keys (pv 0)) (pg_name (i := 1) sc_is.nd rfl (Or.inl rfl))
      (pss_one (ps_if (PW.pt (pw_or (pt_not (pt_val (pe_or2 (pe_call GV (hr.mono (by decide)) (by rfl) mV kV' bV .nil pass0 (pa_cons (pv 1) pa_nil)) (pe_call GN (hr.mono (by decide)) (by rfl) mN kN bN .nil pass0 (pa_cons (pv 1) pa_nil)))))
        (pw_or1 (pt_not (pt_val (pe_call GW hr (by rfl) mW kW bW .nil pass0 (pa_cons (pe_dget (hu_of hr) (pv 0) (pv 1) (fun _ _ => rfl)) pa_nil))))))) (pss_one (ps_ret pe_bl)) pss_nil))))
    (pss_one (ps_ret pe_bl))), ?_⟩
  rcases h with ⟨d, ks, rfl, hd, hok, k⟩ | ⟨o, ho, hdd, k⟩ | ⟨d, kvs, rfl, hd, hne, htup, k⟩
  · obtain ⟨kvs, h1, h2, h3⟩ := hd.ex
    have hnd : (kvs.map (·.1)).Nodup := by rw [h2]; exact hd.nd
    refine q_when (b := false) (et_not (a := true) (et_is (et_B (ev_isi (m := "dict") (ev_var rfl) (.base (.dK h1)) (by decide +kernel))) rfl)) (fun z => nomatch z) fun _ H1 e1 => ?_
    have h1' := e1 _ _ h1
    refine ⟨d, .dK kvs, h1', trivial, fun od => ⟨.ref d, rfl, d, od, rfl, .inl ⟨kvs, upd_same, ?_⟩⟩⟩
    have tx0 : Tx H (upd H1 d (.frz od (.dK kvs))) := fun a xs h => by
      rw [upd_ne (fun z => by rw [z, h1] at h; cases h)]
      exact e1 _ _ h
    refine for_it walk_keys (fun i σ' G => (∃ b : Option V, σ' = [some (.ref d), b]) ∧ Ex (upd H1 d (.frz od (.dK kvs))) G ∧ (ks.take i).all (fun p => varO (kO p.1) && p.2.fit) = true) ⟨⟨_, rfl⟩, Ex.refl _, rfl⟩ (fun i σ' G _ c => c.2.1 _ _ upd_same) ?_ ?_
    · rintro i x σ' G G' hi ⟨⟨b, rfl⟩, eG, hall⟩ ⟨rfl, kk, yv, hk, rfl⟩
      obtain ⟨q, hq, hq1, hov⟩ := dd_at h2 h3 hk
      have hokq := List.all_eq_true.mp hok q (List.mem_of_getElem? hq)
      unfold okP at hokq
      simp only [Bool.and_eq_true, Bool.not_eq_true', decide_eq_true_eq] at hokq
      obtain ⟨⟨o1, o2⟩, ⟨o3, o4⟩, o5, o6⟩ := hokq
      have hovG : OV G' yv q.2 := OV.tx (tx0.trans (Tx.of eG)) o5 o6 hov
      have hget : DGet G' d (kV kk) (some yv) := .inl ⟨kvs, kk, .inr ⟨od, eG _ _ upd_same⟩, rfl, (valV_at hnd hk).symm⟩
      have htest : EvT (tOr (tNot (tB (fun σ H Q => tCall (spS varB) [] E0 (tCons (tVar 1) tNil) σ H Q ∨ tCall spN [] E0 (tCons (tVar 1) tNil) σ H Q))) (tNot (tB (tCall (spF 0 O.fit) [] E0 (tCons (tDGet (tVar 0) (tVar 1)) tNil))))) [some (.ref d), some (kV kk)] G' (!varO (kO q.1) || !q.2.fit) := by
        refine et_or (et_not (et_B ?_)) fun _ => et_not (et_B ?_)
        · rw [hq1]
          cases kk with
          | inl n => exact fun H2 e2 Q2 q2 => .inr ⟨_, rfl, .int n, .int n, rfl, rfl, rfl, fun H3 e3 => q2 H3 e3⟩
          | inr sx =>
            have hss : SS.contains sx = true := by
              rw [hq1] at o1
              exact o1
            exact fun H2 e2 Q2 q2 => .inl ⟨_, rfl, sx, rfl, List.contains_iff_mem.mp hss, fun H3 e3 => q2 H3 e3⟩
        · exact fun H2 e2 Q2 q2 => ⟨.ref d, rfl, kV kk, rfl, d, yv, rfl, .inl ⟨kvs, kk, .inr ⟨od, e2 _ _ (eG _ _ upd_same)⟩, rfl, (valV_at hnd hk).symm⟩, yv, q.2, rfl, hovG.ext e2, o2, o3, o4, fun H3 e3 => q2 H3 e3⟩
      refine s_when htest (fun hb G2 e2 => ?_) fun hb G2 e2 => ?_
      · refine s_ret ev_c fun G3 e3 => ?_
        have hfr := e3 _ _ (e2 _ _ (eG _ _ upd_same))
        refine ⟨hfr, ?_⟩
        have : subB ks = false := by
          unfold subB
          rw [List.all_eq_false]
          refine ⟨q, List.mem_of_getElem? hq, ?_⟩
          revert hb
          cases varO (kO q.1) <;> cases q.2.fit <;> simp
        rw [this] at k
        refine k _ fun a o ha => ?_
        by_cases hda : a = d
        · rw [hda] at ha ⊢
          rw [h1] at ha
          cases ha
          exact upd_same
        · rw [upd_ne hda]
          refine e3 _ _ (e2 _ _ (eG _ _ ?_))
          rw [upd_ne hda]
          exact e1 _ _ ha
      · refine ⟨⟨_, rfl⟩, eG.trans e2, ?_⟩
        rw [take_snoc hq, List.all_append, hall, Bool.true_and]
        have hbb : (varO (kO q.1) && q.2.fit) = true := by
          revert hb
          cases varO (kO q.1) <;> cases q.2.fit <;> simp
        show ((varO (kO q.1) && q.2.fit) && true) = true
        rw [hbb]
        rfl
    · rintro σ' G ⟨⟨b, rfl⟩, eG, hall⟩
      refine ⟨eG _ _ upd_same, ?_⟩
      dsimp only
      refine s_ret ev_c fun G3 e3 => ?_
      have hlen : kvs.length = ks.length := by
        have := congrArg List.length h2
        simpa using this
      rw [hlen, List.take_length] at hall
      have : subB ks = true := hall
      rw [this] at k
      refine k _ fun a o ha => e3 _ _ ?_
      by_cases hda : a = d
      · rw [hda] at ha ⊢
        rw [h1] at ha
        cases ha
        exact upd_same
      · rw [upd_ne hda]
        refine eG _ _ ?_
        rw [upd_ne hda]
        exact e1 _ _ ha
  · exact q_when (b := true) (et_not (a := false) (et_is (et_B (ev_isDct (ev_var rfl) ho)) hdd)) (fun _ H1 e1 => s_ret ev_c fun G e => k G (e1.trans e)) fun z => nomatch z
  · have hty : TyX K H (.ref d) (.type "dict") := .base (.dT hd)
    refine q_when (b := false) (et_not (a := true) (et_is (et_B (ev_isi (m := "dict") (ev_var rfl) hty (by decide +kernel))) rfl)) (fun z => nomatch z) fun _ H1 e1 => ?_
    have h1' := e1 _ _ hd
    refine ⟨d, .dT kvs, h1', trivial, fun od => ⟨.ref d, rfl, d, od, rfl, .inr ⟨kvs, upd_same, ?_⟩⟩⟩
    refine for_it walk_keysT (fun i σ' G => (∃ b : Option V, σ' = [some (.ref d), b]) ∧ Ex (upd H1 d (.frz od (.dT kvs))) G ∧ i = 0) ⟨⟨_, rfl⟩, Ex.refl _, rfl⟩ (fun i σ' G _ c => c.2.1 _ _ upd_same) ?_ ?_
    · rintro i x σ' G G' hi ⟨⟨b, rfl⟩, eG, rfl⟩ ⟨rfl, kk, yv, qa, hk, rfl, hqa⟩
      have hkey : OV G' (.ref qa) (.tup (kk.map kO)) := ⟨qa, _, rfl, hqa, by
        have : ∀ l : List Key, OVs G' (l.map kV) (l.map kO) := by
          intro l
          induction l with
          | nil => rfl
          | cons a r ih => exact .cons (kO_ov a) ih
        exact this kk⟩
      refine s_when (b := true) (et_is (et_or (a := true) (b := true) (et_not (a := false) (et_B fun H2 e2 Q2 q2 => .inr ⟨_, rfl, .ref qa, .tup (kk.map kO), rfl, hkey.ext e2, rfl, fun H3 e3 => q2 H3 e3⟩)) fun z => nomatch z) rfl) (fun _ G2 e2 => ?_) fun z => nomatch z
      refine s_ret ev_c fun G3 e3 => ?_
      refine ⟨e3 _ _ (e2 _ _ (eG _ _ upd_same)), k _ fun a o ha => ?_⟩
      by_cases hda : a = d
      · rw [hda] at ha ⊢
        rw [hd] at ha
        cases ha
        exact upd_same
      · rw [upd_ne hda]
        refine e3 _ _ (e2 _ _ (eG _ _ ?_))
        rw [upd_ne hda]
        exact e1 _ _ ha
    · rintro σ' G ⟨_, _, h0⟩
      exact absurd (List.length_eq_zero_iff.mp h0) hne
end
end K24

set_option Elab.async false
set_option linter.all false
set_option maxRecDepth 100000
set_option maxHeartbeats 4000000
/-! Words put. -/
namespace K24
open PySem PySem.Spec PyProof.Rows L2 Evl
/-! ### words with words put for variables -/
mutual
def W.sub (f : Str → Option W) : W → W
  | .v s => (f s).getD (.v s)
  | .n s as => .n s (W.subs f as)
def W.subs (f : Str → Option W) : List W → List W
  | [] => []
  | x :: xs => x.sub f :: W.subs f xs
end
theorem subs_map (f : Str → Option W) : ∀ as : List W, W.subs f as = as.map (W.sub f)
  | [] => rfl
  | x :: xs => congrArg (x.sub f :: ·) (subs_map f xs)
/-- the word that a list of pairs has for a variable -/
def lk (ps : List (Str × W)) (s : Str) : Option W := (ps.find? fun p => decide (p.1 = s)).map (·.2)
def keyW (p : Str × W) : Key × O := (.inr p.1, p.2.o)
/-- the dict at d puts ps -/
def SubV (H : Hp) (d : Addr) (ps : List (Str × W)) : Prop := DD H d (ps.map keyW)
theorem SubV.ext {H G : Hp} {d : Addr} {ps : List (Str × W)} (h : SubV H d ps) (e : Ex H G) : SubV G d ps := DD.ext h e
theorem nodup_of {α β : Type} (f : α → β) : ∀ {l : List α}, (l.map f).Nodup → l.Nodup
  | [], _ => List.nodup_nil
  | a :: r, h => by
    rw [List.map_cons, List.nodup_cons] at h
    exact List.nodup_cons.mpr ⟨fun z => h.1 (List.mem_map.mpr ⟨a, z, rfl⟩), nodup_of f h.2⟩
theorem SubV.get {H : Hp} {d : Addr} {ps : List (Str × W)} (h : SubV H d ps) : ∃ kvs, H d = some (.dK kvs) ∧ kvs.length = ps.length ∧ kvs.map (·.1) = ps.map (fun p => (Sum.inr p.1 : Key)) ∧ (ps.map (·.1)).Nodup ∧
    (∀ s w, lk ps s = some w → ∃ v, valV kvs (Sum.inr s : Key) = some v ∧ WV H v w) ∧ (∀ s, lk ps s = none → valV kvs (Sum.inr s : Key) = none) := by
  obtain ⟨kvs, h1, h2, h3⟩ := h.ex
  have hk : kvs.map (·.1) = ps.map (fun p => (Sum.inr p.1 : Key)) := by
    rw [h2, List.map_map]
    rfl
  have hv : OVs H (kvs.map (·.2)) (ps.map fun p => p.2.o) := by
    rw [List.map_map] at h3
    exact h3
  refine ⟨kvs, h1, by simpa using congrArg List.length hk, hk, ?_, ?_, ?_⟩
  · have := h.nd
    rw [List.map_map] at this
    refine nodup_of (fun s => (Sum.inr s : Key)) ?_
    rw [List.map_map]
    exact this
  · clear h h1 h2 h3
    revert kvs
    induction ps with
    | nil => intro kvs hk hv s w e; cases e
    | cons p ps ih =>
      intro kvs hk hv s w e
      cases kvs with
      | nil => cases hk
      | cons a r =>
        have hk1 : a.1 = Sum.inr p.1 := (List.cons.inj hk).1
        obtain ⟨v, us, e1, e2, e3⟩ := hv
        obtain ⟨rfl, rfl⟩ := List.cons.inj e1
        unfold lk at e
        rw [List.find?_cons] at e
        unfold valV
        rw [List.find?_cons, hk1]
        by_cases hs : p.1 = s
        · rw [decide_eq_true hs] at e
          obtain rfl : p.2 = w := Option.some.inj e
          rw [decide_eq_true (by rw [hs])]
          exact ⟨a.2, rfl, e2⟩
        · rw [decide_eq_false hs] at e
          rw [decide_eq_false (fun z => hs (Sum.inr.inj z))]
          exact ih r (List.cons.inj hk).2 e3 s w e
  · clear h h1 h2 h3 hv
    revert kvs
    induction ps with
    | nil =>
      intro kvs hk s e
      cases kvs with
      | nil => rfl
      | cons a r => cases hk
    | cons p ps ih =>
      intro kvs hk s e
      cases kvs with
      | nil => cases hk
      | cons a r =>
        have hk1 : a.1 = Sum.inr p.1 := (List.cons.inj hk).1
        unfold lk at e
        rw [List.find?_cons] at e
        unfold valV
        rw [List.find?_cons, hk1]
        by_cases hs : p.1 = s
        · rw [decide_eq_true hs] at e
          cases e
        · rw [decide_eq_false hs] at e
          rw [decide_eq_false (fun z => hs (Sum.inr.inj z))]
          exact ih r (List.cons.inj hk).2 s e
section
variable {P : Program} {w : World} {K : PySem.W.Frag} {mg : Str → Option Value} {base : Heap}
def spEx (m : Nat) : Sp := fun vs H Q _ => ∃ (u : V) (d : Addr) (z : W) (ps : List (Str × W)), vs = [u, .ref d] ∧ WV H u z ∧ SubV H d ps ∧ z.dp < m ∧ m ≤ 40 ∧ z.sz ≤ 9000 ∧ ∀ (r : V) (G : Hp), Ex H G → WV G r (z.sub (lk ps)) → Q r G
abbrev nExc : List Str := ["word", "substitution", "told", "part"]
theorem sc_exc : FnScope nExc ["word", "substitution"] (defScope s_exchanged) := ⟨rfl, rfl, rfl, by decide +kernel, rfl, by decide +kernel, by decide +kernel⟩
theorem ok_exchanged (T : T24 P w K mg base) : ∀ m, Ok P w K mg base CX0 "exchanged" ["word", "substitution"] (m + 1) (spEx m)
  | 0 => T.ok 8 rfl sc_exc (fun vs H Q E h => by obtain ⟨u, d, z, ps, rfl, _⟩ := h; rfl) (fun kV doc pm an cdv ct us hl => match us, hl with | [_, _], _ => rfl) (fun f cdv A outer s H vs Q E hr h => by obtain ⟨u, d, z, ps, _, _, _, h0, _⟩ := h; exact absurd h0 (Nat.not_lt_zero _))
  | m + 1 => by
    obtain ⟨fR, dR, GR, bR, kR, mR⟩ := (ok_exchanged T m).ex
    refine T.ok 8 rfl sc_exc (fun vs H Q E h => ?_) (fun kV doc pm an cdv ct us hl => match us, hl with | [_, _], _ => rfl) (fun f cdv A outer s H vs Q E hr h => ?_)
    · obtain ⟨u, d, z, ps, rfl, _⟩ := h
      rfl
    · obtain ⟨u, d, z, ps, rfl, hw, hd, hz, hm, hs, k⟩ := h
      refine ⟨_, pss_cons (ps_if (pt_val (pe_isiB T.isi T.str PyProof.Rows.boot_str (pv 0))) (pss_one (ps_ret (pe_dget2 (hu_of hr) (pv 1) (pv 0) (pv 0) ⟨rfl, rfl, rfl, rfl⟩))) pss_nil)
        (pss_cons (ps_set (i := 2) sc_exc.nd rfl (Or.inl rfl) (pe_lst (pa_cons (pe_ix ix_tup (pv 0) pe_int (fun _ _ => rfl)) pa_nil)))
        (pss_cons (ps_for PassesOwn.never rfl (pi_tup (pe_slice sl_tup (pv 0) (po_some pe_int) po_none)) (pg_name (i := 3) sc_exc.nd rfl (Or.inl rfl))
          (pss_one (ps_expr (pe_bm PySem.F.plainAttrs_list PySem.F.slot_list_append PySem.F.type_list_append mt_append (pv 2) (pa_cons (pe_call GR hr (by rfl) mR kR bR .nil pass0 (pa_cons (pv 3) (pa_cons (pv 1) pa_nil))) pa_nil)))))
        (pss_one (ps_ret (pe_callTy call_tuple_of (by rfl) T.tuple PyProof.Rows.boot_tuple (pa_cons (pv 2) pa_nil)))))), ?_⟩
      obtain ⟨kvs, hk1, hk2, hk3, hk4, hk5, hk6⟩ := hd.get
      cases z with
      | v sv =>
        obtain rfl : u = .str sv := hw
        refine q_when (b := true) (et_B (ev_isStr (o := .str sv) (ev_var rfl) rfl)) (fun _ H1 e1 => ?_) fun z => nomatch z
        refine ⟨.ref d, rfl, d, rfl, .inl ⟨kvs, .inl (e1 _ _ hk1)⟩, .str sv, rfl, .str sv, rfl, valV kvs (Sum.inr sv : Key), .inl ⟨kvs, Sum.inr sv, .inl (e1 _ _ hk1), rfl, rfl⟩, k _ H1 e1 ?_⟩
        show WV H1 _ ((lk ps sv).getD (.v sv))
        cases hl : lk ps sv with
        | some x =>
          obtain ⟨v, hv, hwv⟩ := hk5 sv x hl
          rw [hv]
          exact hwv.ext e1
        | none =>
          rw [hk6 sv hl]
          rfl
      | n sn as =>
        obtain ⟨r, us, rfl, hr1, hu⟩ := hw.tup
        have hul := hu.length
        have hdp : W.dps as < m := by have : (W.n sn as).dp = W.dps as + 1 := rfl; omega
        have hsz : W.szs as + 2 ≤ 9000 := hs
        have hasl := W.len_szs as
        refine q_when (b := false) (et_B (ev_isStr (o := (W.n sn as).o) (ev_var rfl) hw)) (fun z => nomatch z) fun _ H1 e1 => ?_
        refine q_asgL (el_lst (ea_cons (ev_op (z := .str sn) (ev_var rfl) ev_c (rv_ixT (st_of (e1 _ _ hr1)) (atI_nat (j := 0) rfl))) ea_nil) (by show 1 ≤ 100000; decide)) fun p H2 hp e2 h2 => ?_
        have hp0 : H p = none := fresh_back e1 hp
        have e12 := e1.trans e2
        refine q_forNT (eu_tail (ev_var rfl) (st_of (e12 _ _ hr1))) (fun c i σ' H' => Ex H H' ∧ H' c = some (.tup us) ∧ (∃ a : Option V, σ' = [some (.ref r), some (.ref d), some (.ref p), a]) ∧ ∃ acc, H' p = some (.lst (.str sn :: acc)) ∧ acc.length = i ∧ WVs H' acc (W.subs (lk ps) (as.take i))) ?_ ?_ ?_ ?_
        · intro c H3 hc e3 h3
          exact ⟨e12.trans e3, h3, ⟨none, rfl⟩, [], e3 _ _ h2, rfl, rfl⟩
        · rintro c i σ' H' hi ⟨_, hc, _⟩
          exact st_of hc
        · rintro c i x σ' H' hx ⟨e3, hc, ⟨a, rfl⟩, acc, h3, hal, hacc⟩
          obtain ⟨y, hy, hwy⟩ := (hu.ext e3).getv hx
          have h1 := W.lt_dp hy
          have h2' := W.lt_sz hy
          have hil := (List.getElem?_eq_some_iff.mp hy).1
          refine ⟨.ref p, rfl, .inl ⟨rfl, _, sq_of h3⟩, x, rfl, .ref d, rfl, x, d, y, ps, rfl, hwy, hd.ext e3, by omega, by omega, by omega, fun r5 G5 e5 h5 => ?_⟩
          have hp5 := e5 _ _ h3
          have tx := Tx.lst (o := .lst (.str sn :: acc ++ [r5])) hp5
          refine ⟨p, .str sn :: acc, r5, rfl, rfl, hp5, sz_lt (by simp; omega), Ex.mut (e3.trans e5) hp0, tx _ _ (e5 _ _ hc), ⟨_, rfl⟩, acc ++ [r5], upd_same, by simp [hal], ?_⟩
          rw [take_snoc hy, subs_map, List.map_append, ← subs_map]
          unfold WVs
          rw [W.os_map, List.map_append, ← W.os_map]
          exact OVs.append (WVs.tx tx (WVs.ext e5 hacc)) (.cons (WV.tx tx h5) .nil)
        · rintro c σ' H' ⟨e3, hc, ⟨a, rfl⟩, acc, h3, hal, hacc⟩
          rw [hul, List.take_length] at hacc
          refine ⟨.ref p, rfl, p, _, rfl, .inl ⟨sq_of h3, fun pt hpt => ?_⟩⟩
          have x4 : Ex H' (upd H' pt (.tup (.str sn :: acc))) := Ex.new hpt
          exact k (.ref pt) _ (e3.trans x4) (WV.of upd_same (WVs.ext x4 hacc))
end
end K24

set_option Elab.async false
set_option linter.all false
set_option maxRecDepth 100000
set_option maxHeartbeats 4000000
/-! Substitutions frozen. -/
namespace K24
open PySem PySem.Spec PyProof.Rows L2 Evl
theorem strip_o : ∀ z : W, z.o.strip = z.o := by
  have key : ∀ n : Nat, ∀ z : W, z.sz ≤ n → z.o.strip = z.o := by
    intro n
    induction n with
    | zero => intro z h; cases z <;> simp [W.sz] at h
    | succ n ih =>
      intro z h
      cases z with
      | v s => rfl
      | n s as =>
        have hs : W.szs as + 2 ≤ n + 1 := h
        have : ∀ l : List W, W.szs l ≤ n → O.strips (W.os l) = W.os l := by
          intro l
          induction l with
          | nil => intro _; rfl
          | cons a r ih2 =>
            intro h
            have h : a.sz + W.szs r ≤ n := h
            show a.o.strip :: O.strips (W.os r) = a.o :: W.os r
            rw [ih a (by omega), ih2 (by omega)]
        show O.tup (.str s :: O.strips (W.os as)) = .tup (.str s :: W.os as)
        rw [this as (by omega)]
  exact fun z => key _ z (Nat.le_refl _)
theorem nodup_inr : ∀ {l : List Str}, l.Nodup → (l.map fun s => (Sum.inr s : Key)).Nodup
  | [], _ => List.nodup_nil
  | a :: r, h => by
    rw [List.nodup_cons] at h
    rw [List.map_cons, List.nodup_cons]
    refine ⟨fun z => ?_, nodup_inr h.2⟩
    obtain ⟨b, hb, e⟩ := List.mem_map.mp z
    obtain rfl := Sum.inr.inj e
    exact h.1 hb
theorem lk_self {ps : List (Str × W)} (nd : (ps.map (·.1)).Nodup) : ∀ p ∈ ps, lk ps p.1 = some p.2 := by
  induction ps with
  | nil => intro p h; cases h
  | cons a r ih =>
    intro p h
    rw [List.map_cons, List.nodup_cons] at nd
    unfold lk
    rw [List.find?_cons]
    rcases List.mem_cons.mp h with rfl | h
    · simp
    · have hne : a.1 ≠ p.1 := fun z => nd.1 (by rw [z]; exact List.mem_map.mpr ⟨p, h, rfl⟩)
      rw [decide_eq_false hne]
      exact ih nd.2 p h
def psOf (ps : List (Str × W)) (ys : List Str) : List (Str × W) := ys.map fun s => (s, (lk ps s).getD (.v s))
theorem psOf_self {ps : List (Str × W)} (nd : (ps.map (·.1)).Nodup) : psOf ps (ps.map (·.1)) = ps := by
  unfold psOf
  rw [List.map_map]
  have : ∀ p ∈ ps, ((fun s => (s, (lk ps s).getD (.v s))) ∘ (·.1)) p = p := fun p hp => by
    show (p.1, (lk ps p.1).getD (.v p.1)) = p
    rw [lk_self nd p hp]
    rfl
  exact (List.map_congr_left this).trans (List.map_id _)
theorem psOf_perm {ps : List (Str × W)} {ys : List Str} (nd : (ps.map (·.1)).Nodup) (h : ys.Perm (ps.map (·.1))) : (psOf ps ys).Perm ps := by
  have := h.map (fun s => (s, (lk ps s).getD (.v s)))
  have e : (ps.map (·.1)).map (fun s => (s, (lk ps s).getD (.v s))) = ps := psOf_self nd
  rw [e] at this
  exact this
theorem psOf_keys (ps : List (Str × W)) (ys : List Str) : (psOf ps ys).map (·.1) = ys := by
  unfold psOf
  rw [List.map_map]
  exact List.map_id _
theorem valV_no {kvs : List (Key × V)} {k : Key} (h : k ∉ kvs.map (·.1)) : valV kvs k = none := by
  unfold valV
  rw [List.find?_eq_none.mpr fun p hp z => h (List.mem_map.mpr ⟨p, hp, of_decide_eq_true z⟩)]
  rfl
theorem not_take_mem {ys : List Str} (nd : ys.Nodup) : ∀ {i : Nat} {y : Str}, ys[i]? = some y → y ∈ ys.take i → False := by
  induction ys with
  | nil => intro i y h; simp at h
  | cons a r ih =>
    intro i y h hm
    rw [List.nodup_cons] at nd
    cases i with
    | zero => simp at hm
    | succ i =>
      have hr : r[i]? = some y := by simpa using h
      rw [List.take_succ_cons] at hm
      rcases List.mem_cons.mp hm with rfl | hm
      · exact nd.1 (List.mem_of_getElem? hr)
      · exact ih nd.2 hr hm
section
variable {P : Program} {w : World} {K : PySem.W.Frag} {mg : Str → Option Value} {base : Heap}
def spFs : Sp := fun vs H Q _ => ∃ (d : Addr) (ps : List (Str × W)), vs = [.ref d] ∧ SubV H d ps ∧ ps.length < 64 ∧ (∀ p ∈ ps, p.2.sz ≤ 9000) ∧ ∀ (pd : Addr) (G : Hp) (ys : List Str), H pd = none → Ex H G → ys.Perm (ps.map (·.1)) → sortedS ys = true → SubV G pd (psOf ps ys) → Q (.ref pd) G
theorem sc_fs : FnScope ["substitution", "variable"] ["substitution"] (defScope s_frozen_substitution) := ⟨rfl, rfl, rfl, by decide +kernel, rfl, by decide +kernel, by decide +kernel⟩
theorem ok_frozen_sub (T : T24 P w K mg base) : Ok P w K mg base CX0 "frozen_substitution" ["substitution"] 3 spFs := by
  obtain ⟨fF, dF, GF, bF, kF, mF⟩ := (ok_frozen T).ex
  refine T.ok 9 rfl sc_fs (fun vs H Q E h => ?_) (fun kV doc pm an cdv ct us hl => match us, hl with | [_], _ => rfl) (fun f cdv A outer s H vs Q E hr h => ?_)
  · obtain ⟨d, ps, rfl, _⟩ := h
    rfl
  obtain ⟨d, ps, rfl, hd, hl, hsz, k⟩ := h
  refine ⟨_, pss_one (ps_ret (pe_dc (own := [("variable", 1)]) (g := gName 1) (tt := tYes) (tk := tVar 1) (tv := tCall spFz [] E0 (tCons (tDGet (tVar 0) (tVar 1)) tNil)) rfl sc_fs.nd (pi_list (pe_callB (call_sortedD rfl) (by rfl) T.sorted (by decide +kernel) (pa_cons (pv 0) pa_nil))) (blkOk_by (N := ["substitution", "variable"]) (sc := defScope s_frozen_substitution) (by decide +kernel))
    (fun _ _ _ _ _ => pg_name (i := 1) sc_fs.nd rfl (Or.inl rfl)) (fun _ _ _ _ _ => pts_nil) (fun _ _ _ _ _ => pv 1) (fun _ _ _ _ _ => pe_call GF hr (by rfl) mF kF bF .nil pass0 (pa_cons (pe_dget (hu_of hr) (pv 0) (pv 1) (fun _ _ => rfl)) pa_nil)))), ?_⟩
  obtain ⟨kvs, hk1, hk2, hk3, hk4, hk5, hk6⟩ := hd.get
  refine ⟨.ref d, rfl, d, kvs, ps.map (·.1), rfl, .inl hk1, by rw [hk3, List.map_map]; rfl, by simpa using hl, fun ys p hperm hsort np => ?_⟩
  have x1 : Ex H (upd H p (.lst (ys.map V.str))) := Ex.new np
  have hyn : ys.Nodup := hperm.nodup_iff.mpr hk4
  refine ⟨p, rfl, ⟨_, sq_of upd_same⟩, fun Dl hD => ?_⟩
  have hp2 : (upd H p (.lst (ys.map V.str))) p = some (.lst (ys.map V.str)) := upd_same
  generalize upd H p (.lst (ys.map V.str)) = H2 at x1 hD hp2
  have hDH : H Dl = none := fresh_back x1 hD
  refine dc_it (walk_list (K := K) (a := p) (xs := ys.map V.str)) (fun i G => Ex H2 G ∧ ∃ kv, G Dl = some (.dK kv) ∧ kv.map (·.1) = (ys.take i).map (fun s => (Sum.inr s : Key)) ∧ OVs G (kv.map (·.2)) ((psOf ps (ys.take i)).map fun q => q.2.o)) ⟨Ex.new hD, [], upd_same, by simp, by simp [psOf]; rfl⟩ (fun i G _ c => sq_of (c.1 _ _ hp2)) ?_ ?_
  · rintro i x G G' hi ⟨eG, kv, hkv, hkk, hvv⟩ ⟨rfl, hx⟩
    obtain ⟨y, hy, rfl⟩ := sVs_get (xs := ys) hx
    have hyk : y ∈ ps.map (·.1) := hperm.mem_iff.mp (List.mem_of_getElem? hy)
    obtain ⟨pr, hpr, rfl⟩ := List.mem_map.mp hyk
    have hlk := lk_self hk4 pr hpr
    obtain ⟨v, hv, hwv⟩ := hk5 _ _ hlk
    have eHG := x1.trans eG
    have hil := (List.getElem?_eq_some_iff.mp hy).1
    have hkl : kv.length = i := by
      have := congrArg List.length hkk
      simp at this
      omega
    refine ⟨rfl, ?_⟩
    unfold tYes
    dsimp only
    rw [if_pos rfl]
    refine ⟨.str pr.1, rfl, .ref d, rfl, .str pr.1, rfl, d, v, rfl, .inl ⟨kvs, Sum.inr pr.1, .inl (eHG _ _ hk1), rfl, hv.symm⟩, v, pr.2.o, rfl, OV.ext eHG hwv, by rw [W.osz]; exact hsz pr hpr, W.nod pr.2, fun u G5 e5 hu => ?_⟩
    rw [strip_o] at hu
    have hkv5 := e5 _ _ hkv
    refine ⟨kv, Sum.inr pr.1, rfl, hkv5, sz_lt (by have := hperm.length_eq; simp at this; omega), Ex.mut (eG.trans e5) hD, kv ++ [(Sum.inr pr.1, u)], ?_, ?_, ?_⟩
    · rw [upd_same, putK_new (valV_no (by
        rw [hkk]
        intro z
        obtain ⟨s2, hs2, e⟩ := List.mem_map.mp z
        obtain rfl := Sum.inr.inj e
        exact not_take_mem hyn hy hs2))]
    · rw [List.map_append, hkk, take_snoc hy, List.map_append]
      rfl
    · have tx : Tx G5 (upd G5 Dl (.dK (kv ++ [(Sum.inr pr.1, u)]))) := Tx.dct hkv5
      rw [List.map_append, take_snoc hy]
      have e6 : psOf ps (ys.take i ++ [pr.1]) = psOf ps (ys.take i) ++ [(pr.1, pr.2)] := by
        unfold psOf
        rw [List.map_append]
        show _ ++ [(pr.1, (lk ps pr.1).getD (.v pr.1))] = _
        rw [hlk]
        rfl
      rw [e6, List.map_append]
      have h7 : OVs (upd G5 Dl (.dK (kv ++ [(Sum.inr pr.1, u)]))) (kv.map (·.2)) ((psOf ps (ys.take i)).map fun q => q.2.o) := by
        have h8 : WVs G5 (kv.map (·.2)) ((psOf ps (ys.take i)).map (·.2)) := by
          unfold WVs
          rw [W.os_map, List.map_map]
          exact hvv.ext e5
        have h9 := WVs.tx tx h8
        unfold WVs at h9
        rw [W.os_map, List.map_map] at h9
        exact h9
      have e10 : putK kv (Sum.inr pr.1) u = kv ++ [(Sum.inr pr.1, u)] := putK_new (valV_no (by
        rw [hkk]
        intro z
        obtain ⟨s2, hs2, e⟩ := List.mem_map.mp z
        obtain rfl := Sum.inr.inj e
        exact not_take_mem hyn hy hs2))
      rw [e10]
      exact OVs.append h7 (.cons (WV.tx (w := pr.2) tx hu) .nil)
  · rintro G ⟨eG, kv, hkv, hkk, hvv⟩
    have hyl : (ys.map V.str).length = ys.length := List.length_map _
    rw [hyl, List.take_length] at hkk hvv
    refine k Dl G ys hDH (x1.trans eG) hperm hsort ⟨⟨kv, hkv, ?_, ?_⟩, ?_⟩
    · rw [hkk, List.map_map]
      unfold psOf
      rw [List.map_map]
      rfl
    · rw [List.map_map]
      exact hvv
    · rw [List.map_map]
      unfold psOf
      rw [List.map_map]
      exact nodup_inr hyn
end
end K24

set_option Elab.async false
set_option linter.all false
set_option maxRecDepth 100000
set_option maxHeartbeats 4000000
/-! checked_substitution, put. -/
namespace K24
open PySem PySem.Spec PyProof.Rows L2 Evl
theorem lk_none {ps : List (Str × W)} {s : Str} (h : s ∉ ps.map (·.1)) : lk ps s = none := by
  unfold lk
  rw [List.find?_eq_none.mpr fun p hp z => h (List.mem_map.mpr ⟨p, hp, of_decide_eq_true z⟩)]
  rfl
theorem lk_psOf {ps : List (Str × W)} {ys : List Str} (nd : (ps.map (·.1)).Nodup) (hp : ys.Perm (ps.map (·.1))) : lk (psOf ps ys) = lk ps := by
  funext s
  have hyn : ys.Nodup := hp.nodup_iff.mpr nd
  by_cases hs : s ∈ ys
  · have h1 : (s, (lk ps s).getD (.v s)) ∈ psOf ps ys := List.mem_map.mpr ⟨s, hs, rfl⟩
    have h2 := lk_self (ps := psOf ps ys) (by rw [psOf_keys]; exact hyn) _ h1
    obtain ⟨p, hp2, rfl⟩ := List.mem_map.mp (hp.mem_iff.mp hs)
    have h3 := lk_self nd p hp2
    rw [h2, h3]
    rfl
  · rw [lk_none (by rw [psOf_keys]; exact hs), lk_none (fun z => hs (hp.mem_iff.mpr z))]
/-- a right substitution, not too great -/
structure SbOk (ps : List (Str × W)) : Prop where
  len : ps.length < 64
  key : ∀ p ∈ ps, SS.contains p.1 = true ∧ varB p.1 = true
  val : ∀ p ∈ ps, p.2.o.fit = true ∧ p.2.o.ss = true ∧ p.2.sz ≤ 8000
theorem SbOk.oks {ps : List (Str × W)} (h : SbOk ps) : (ps.map keyW).all okP = true := by
  rw [List.all_map]
  refine List.all_eq_true.mpr fun p hp => ?_
  obtain ⟨a, b⟩ := h.key p hp
  obtain ⟨c, d, e⟩ := h.val p hp
  show ((SS.contains p.1 && p.2.o.ss) && ((decide (p.2.o.sz ≤ 8000) && p.2.o.e3) && (!p.2.o.hasL && p.2.o.nod))) = true
  rw [a, d, W.osz, decide_eq_true e, W.e3, W.noL, W.nod]
  rfl
theorem SbOk.sub {ps : List (Str × W)} (h : SbOk ps) : subB (ps.map keyW) = true := by
  unfold subB
  rw [List.all_map]
  refine List.all_eq_true.mpr fun p hp => ?_
  obtain ⟨a, b⟩ := h.key p hp
  obtain ⟨c, d, e⟩ := h.val p hp
  show (varB p.1 && p.2.o.fit) = true
  rw [b, c]
  rfl
/-- v is no substitution -/
def NoS (H : Hp) (v : V) : Prop := (∃ d ks, v = .ref d ∧ DD H d ks ∧ ks.all okP = true ∧ subB ks = false) ∨ (∃ o, OV H v o ∧ o.isDct = false) ∨ ∃ d kvs, v = .ref d ∧ H d = some (.dT kvs) ∧ kvs ≠ [] ∧ (∀ p ∈ kvs, ∃ (q : Addr), H q = some (.tup (p.1.map kV)))
theorem NoS.ext {H G : Hp} {v : V} (h : NoS H v) (e : Ex H G) : NoS G v := by
  rcases h with ⟨d, ks, a, b, c⟩ | ⟨o, a, b⟩ | ⟨d, kvs, a, b, c, f⟩
  · exact .inl ⟨d, ks, a, b.ext e, c⟩
  · exact .inr (.inl ⟨o, a.ext e, b⟩)
  · exact .inr (.inr ⟨d, kvs, a, e _ _ b, c, fun p hp => by
      obtain ⟨q, hq⟩ := f p hp
      exact ⟨q, e _ _ hq⟩⟩)
section
variable {P : Program} {w : World} {K : PySem.W.Frag} {mg : Str → Option Value} {base : Heap}
def spCs (K : PySem.W.Frag) : Sp := fun vs H Q E => ∃ v, vs = [v] ∧ ((∃ d ps, v = .ref d ∧ SubV H d ps ∧ SbOk ps ∧ ∀ (pd : Addr) (G : Hp) (ys : List Str), H pd = none → Ex H G → ys.Perm (ps.map (·.1)) → sortedS ys = true → SubV G pd (psOf ps ys) → Q (.ref pd) G) ∨ (NoS H v ∧ Bad K "BadSubstitution" v H E))
theorem sc_cs : FnScope ["thing"] ["thing"] (defScope s_checked_substitution) := ⟨rfl, rfl, rfl, by decide +kernel, rfl, by decide +kernel, by decide +kernel⟩
theorem ok_checked_sub (T : T24 P w K mg base) : Ok P w K mg base (L2.CX P w) "checked_substitution" ["thing"] 9 (spCs K) := by
  obtain ⟨fI, dI, GI, bI, kI, mI⟩ := (ok_is_sub T).ex
  obtain ⟨fF, dF, GF, bF, kF, mF⟩ := (ok_frozen_sub T).ex
  refine T.okX 23 rfl sc_cs (fun vs H Q E h => ?_) (fun kV doc pm an cdv ct us hl => match us, hl with | [_], _ => rfl) (fun f cdv A outer s H vs Q E hr h => ?_)
  · obtain ⟨v, rfl, _⟩ := h
    rfl
  obtain ⟨v, rfl, h⟩ := h
  refine ⟨_, pss_cons (ps_if (pt_not (pt_val (pe_call GI (hr.mono (by decide)) (by rfl) mI kI bI .nil pass0 (pa_cons (pv 0) pa_nil)))) (pss_one (ps_raiseE rfl T.bs (takes_of rfl rfl rfl rfl) (hr.mono (by decide)) (pv 0))) pss_nil)
    (pss_one (ps_ret (pe_call GF (hr.mono (by decide)) (by rfl) mF kF bF .nil pass0 (pa_cons (pv 0) pa_nil)))), ?_⟩
  rcases h with ⟨d, ps, rfl, hd, ok, k⟩ | ⟨hn, k⟩
  · refine q_when (b := false) (et_not (a := true) (et_B (ev_call (ea_cons (ev_var rfl) ea_nil) fun H1 e Q q E => ⟨.ref d, rfl, .inl ⟨d, ps.map keyW, rfl, hd.ext e, ok.oks, fun G g => ?_⟩⟩))) (fun z => nomatch z) fun _ H1 e1 => ?_
    · rw [ok.sub]
      exact q G g
    · exact ⟨.ref d, rfl, d, ps, rfl, hd.ext e1, ok.len, fun p hp => by have := (ok.val p hp).2.2; omega, fun pd G ys np e hp hs hv => k pd G ys (fresh_back e1 np) (e1.trans e) hp hs hv⟩
  · refine q_when (b := true) (et_not (a := false) (et_B (ev_call (ea_cons (ev_var rfl) ea_nil) fun H1 e Q q E => ⟨v, rfl, ?_⟩))) (fun _ H1 e1 => s_raise T.bs (ev_var rfl) fun d G e hd => k d G (e1.trans e) hd) fun z => nomatch z
    rcases hn.ext e with ⟨d, ks, a, b, c, sb⟩ | ⟨o, a, b⟩ | ⟨d, kvs, a, b, c, f⟩
    · exact .inl ⟨d, ks, a, b, c, by rw [sb]; exact q⟩
    · exact .inr (.inl ⟨o, a, b, q⟩)
    · exact .inr (.inr ⟨d, kvs, a, b, c, f, q⟩)
def spPut (K : PySem.W.Frag) : Sp := fun vs H Q E => ∃ v x, vs = [v, x] ∧ ((NoW H v ∧ Bad K "BadWord" v H E) ∨ ∃ z, Lw H v z ∧ ((NoS H x ∧ Bad K "BadSubstitution" x H E) ∨ ∃ d ps, x = .ref d ∧ SubV H d ps ∧ SbOk ps ∧ ∀ (r : V) (G : Hp), Ex H G → WV G r (z.sub (lk ps)) → Q r G))
theorem sc_put : FnScope ["word", "substitution", "told"] ["word", "substitution"] (defScope s_put) := ⟨rfl, rfl, rfl, by decide +kernel, rfl, by decide +kernel, by decide +kernel⟩
theorem ok_put (T : T24 P w K mg base) : Ok P w K mg base (L2.CX P w) "put" ["word", "substitution"] 14 (spPut K) := by
  obtain ⟨fC, dC, GC, bC, kC, mC⟩ := (ok_checked_word T).ex
  obtain ⟨fS, dS, GS, bS, kS, mS⟩ := (ok_checked_sub T).ex
  obtain ⟨fX, dX, GX, bX, kX, mX⟩ := (ok_exchanged T 12).ex
  refine T.okX 24 rfl sc_put (fun vs H Q E h => ?_) (fun kV doc pm an cdv ct us hl => match us, hl with | [_, _], _ => rfl) (fun f cdv A outer s H vs Q E hr h => ?_)
  · obtain ⟨v, x, rfl, _⟩ := h
    rfl
  obtain ⟨v, x, rfl, h⟩ := h
  refine ⟨_, pss_cons (ps_set (i := 2) sc_put.nd rfl (Or.inl rfl) (pe_callS GC (hr.mono (by decide)) (by rfl) mC kC bC (fun σ => passAt (takes_of rfl rfl rfl rfl) σ) (pa_cons (pv 0) pa_nil)))
    (pss_one (ps_ret (pe_call GX hr (by rfl) mX kX bX .nil pass0 (pa_cons (pv 2) (pa_cons (pe_callS (sp := spCs K) GS (hr.mono (by decide)) (by rfl) mS kS bS (fun σ => passAt (takes_of rfl rfl rfl rfl) σ) (pa_cons (pv 1) pa_nil)) pa_nil))))), ?_⟩
  rcases h with ⟨hn, k⟩ | ⟨z, hw, ⟨hn, k⟩ | ⟨d, ps, rfl, hd, ok, k⟩⟩
  · exact cw_bad (ev_var rfl) hn k
  · refine cw_go (ev_var rfl) hw fun u G e hu => ?_
    exact ⟨u, rfl, x, rfl, x, rfl, .inr ⟨hn.ext e, k.mono e⟩⟩
  · refine cw_go (ev_var rfl) hw fun u G e hu => ?_
    refine ⟨u, rfl, .ref d, rfl, .ref d, rfl, .inl ⟨d, ps, rfl, hd.ext e, ok, fun pd G2 ys np e2 hp hs hv => ?_⟩⟩
    obtain ⟨_, _, _, _, hnd, _⟩ := hd.get
    have hsz := hw.sz
    refine ⟨u, pd, z, psOf ps ys, rfl, hu.ext e2, hv, hw.dp, by decide, by omega, fun r G3 e3 h3 => k r G3 ((e.trans e2).trans e3) ?_⟩
    rw [lk_psOf hnd hp] at h3
    exact h3
end
end K24

set_option Elab.async false
set_option linter.all false
set_option maxRecDepth 100000
set_option maxHeartbeats 4000000
/-! Words compared; a pattern held against a word. -/
namespace K24
open PySem PySem.Spec PyProof.Rows L2 Evl
mutual
def W.beq : W → W → Bool
  | .v s, .v t => s == t
  | .n s as, .n t bs => s == t && W.beqs as bs
  | .v _, .n _ _ => false
  | .n _ _, .v _ => false
def W.beqs : List W → List W → Bool
  | [], [] => true
  | x :: xs, y :: ys => x.beq y && W.beqs xs ys
  | [], _ :: _ => false
  | _ :: _, [] => false
end
mutual
theorem W.beq_eq : ∀ {z y : W}, z.beq y = true → z = y
  | .v s, .v t, h => by rw [show s = t from beq_iff_eq.mp h]
  | .n s as, .n t bs, h => by
    have h : (s == t && W.beqs as bs) = true := h
    rw [Bool.and_eq_true] at h
    rw [show s = t from beq_iff_eq.mp h.1, W.beqs_eq h.2]
  | .v _, .n _ _, h => nomatch h
  | .n _ _, .v _, h => nomatch h
theorem W.beqs_eq : ∀ {xs ys : List W}, W.beqs xs ys = true → xs = ys
  | [], [], _ => rfl
  | x :: xs, y :: ys, h => by
    have h : (x.beq y && W.beqs xs ys) = true := h
    rw [Bool.and_eq_true] at h
    rw [W.beq_eq h.1, W.beqs_eq h.2]
  | [], _ :: _, h => nomatch h
  | _ :: _, [], h => nomatch h
end
mutual
theorem W.beq_self : ∀ z : W, z.beq z = true
  | .v s => beq_self_eq_true s
  | .n s as => by
    show (s == s && W.beqs as as) = true
    rw [beq_self_eq_true, W.beqs_self as]
    rfl
theorem W.beqs_self : ∀ xs : List W, W.beqs xs xs = true
  | [] => rfl
  | x :: xs => by
    show (x.beq x && W.beqs xs xs) = true
    rw [W.beq_self x, W.beqs_self xs]
    rfl
end
mutual
theorem eqv_w : ∀ z y : W, PyData.eqv z.o.py y.o.py = z.beq y
  | .v s, .v t => by simp only [W.o, O.py, PyData.eqv, W.beq]
  | .n s as, .n t bs => by simp only [W.o, O.py, O.pys, PyData.eqv, PyData.eqvAll, W.beq, eqv_ws as bs]
  | .v _, .n _ _ => by simp only [W.o, O.py, PyData.eqv, W.beq]
  | .n _ _, .v _ => by simp only [W.o, O.py, PyData.eqv, W.beq]
theorem eqv_ws : ∀ xs ys : List W, PyData.eqvAll (O.pys (W.os xs)) (O.pys (W.os ys)) = W.beqs xs ys
  | [], [] => by simp only [W.os, O.pys, PyData.eqvAll, W.beqs]
  | x :: xs, y :: ys => by simp only [W.os, O.pys, PyData.eqvAll, W.beqs, eqv_w x y, eqv_ws xs ys]
  | [], _ :: _ => by simp only [W.os, O.pys, PyData.eqvAll, W.beqs]
  | _ :: _, [] => by simp only [W.os, O.pys, PyData.eqvAll, W.beqs]
end
theorem ss_lay : SS.all PyData.strOk = true := by decide +kernel
mutual
theorem W.lay : ∀ z : W, z.o.ss = true → z.o.py.canLay0 = true
  | .v s, h => by
    have h : SS.contains s = true := h
    simp only [W.o, O.py, PyData.canLay0]
    exact ss_of ss_lay h
  | .n s as, h => by
    have h : (SS.contains s && O.sss (W.os as)) = true := h
    rw [Bool.and_eq_true] at h
    simp only [W.o, O.py, O.pys, PyData.canLay0, PyData.canLayAll0, Bool.and_eq_true]
    exact ⟨ss_of ss_lay h.1, W.lays as h.2⟩
theorem W.lays : ∀ xs : List W, O.sss (W.os xs) = true → PyData.canLayAll0 (O.pys (W.os xs)) = true
  | [], _ => by simp only [W.os, O.pys, PyData.canLayAll0]
  | x :: xs, h => by
    have h : (x.o.ss && O.sss (W.os xs)) = true := h
    rw [Bool.and_eq_true] at h
    simp only [W.os, O.pys, PyData.canLayAll0, Bool.and_eq_true]
    exact ⟨W.lay x h.1, W.lays xs h.2⟩
end
mutual
theorem W.pdp : ∀ z : W, z.o.py.depth = z.dp
  | .v s => by simp [W.o, O.py, PyData.depth, W.dp]
  | .n s as => by
    have := W.pdps as
    simp [W.o, O.py, O.pys, PyData.depth, PyData.depthAll, W.dp, this]
theorem W.pdps : ∀ xs : List W, PyData.depthAll (O.pys (W.os xs)) = W.dps xs
  | [] => by simp [W.os, O.pys, PyData.depthAll, W.dps]
  | x :: xs => by
    have h1 := W.pdp x
    have h2 := W.pdps xs
    simp [W.os, O.pys, PyData.depthAll, W.dps, h1, h2]
end
section
variable {K : PySem.W.Frag} {H : Hp}
mutual
theorem WV.dpd : ∀ {z : W} {v : V}, WV H v z → Dp K H v z.o.py
  | .v s, v, h => by obtain rfl : v = .str s := h; exact .str s
  | .n s as, v, h => by
    obtain ⟨r, us, rfl, h1, h2⟩ := h.tup
    exact .tup (st_of h1) (.cons (.str s) (WVs.dpd h2))
theorem WVs.dpd : ∀ {zs : List W} {vs : List V}, WVs H vs zs → DpAll K H vs (O.pys (W.os zs))
  | [], vs, h => by obtain rfl : vs = [] := h; exact .nil
  | z :: zs, vs, h => by
    obtain ⟨v, us, rfl, h1, h2⟩ := h
    exact .cons (WV.dpd (z := z) h1) (WVs.dpd (zs := zs) h2)
end
theorem rv_neW {u v : V} {z y : W} (h1 : WV H u z) (h2 : WV H v y) (s1 : z.o.ss = true) (s2 : y.o.ss = true) (d1 : z.dp ≤ 60) (d2 : y.dp ≤ 60) : RV (rNeD K) u v H (.bl (!z.beq y)) := fun H1 e Q q =>
  ⟨z.o.py, y.o.py, WV.dpd (h1.ext e), WV.dpd (h2.ext e), by unfold SeqAt.shaped; rw [W.lay z s1, W.pdp z, decide_eq_true (by omega)]; rfl, by unfold SeqAt.shaped; rw [W.lay y s2, W.pdp y, decide_eq_true (by omega)]; rfl, by
    rw [eqv_w]
    exact q H1 (Ex.refl _)⟩
end
end K24

set_option Elab.async false
set_option linter.all false
set_option maxRecDepth 100000
set_option maxHeartbeats 4000000
/-! A pattern held against a word. -/
namespace K24
open PySem PySem.Spec PyProof.Rows L2 Evl
def oPl (p : List Nat) : O := .lst (p.map fun i : Nat => O.int (i : Nat))
inductive Ft where
  | twice (p q : List Nat) | clash (p : List Nat)
def Ft.o : Ft → O
  | .twice p q => .tup [.str "twice", oPl p, oPl q]
  | .clash p => .tup [.str "clash", oPl p]
abbrev FD : Type := List (Str × (List Nat × W))
def fdGet (F : FD) (s : Str) : Option (List Nat × W) := (F.find? fun p => decide (p.1 = s)).map (·.2)
mutual
def um : W → W → List Nat → FD → Option Ft × FD
  | .v s, z, pl, F => match fdGet F s with
    | none => (none, F ++ [(s, (pl, z))])
    | some (p0, z0) => if z0.beq z = true then (none, F) else (some (.twice p0 pl), F)
  | .n _ _, .v _, pl, F => (some (.clash pl), F)
  | .n s as, .n t bs, pl, F => if s = t ∧ as.length = bs.length then ums as bs 0 pl F else (some (.clash pl), F)
def ums : List W → List W → Nat → List Nat → FD → Option Ft × FD
  | [], _, _, _, F => (none, F)
  | _ :: _, [], _, _, F => (none, F)
  | a :: as, b :: bs, i, pl, F => match um a b (pl ++ [i]) F with
    | (some f, F') => (some f, F')
    | (none, F') => ums as bs (i + 1) pl F'
end
/-- what is found so far, in the two dicts -/
structure FdV (H : Hp) (fp fd : Addr) (F : FD) : Prop where
  ex : ∃ k1 k2, H fp = some (.dK k1) ∧ H fd = some (.dK k2) ∧ k1.map (·.1) = F.map (fun p => (Sum.inr p.1 : Key)) ∧ k2.map (·.1) = F.map (fun p => (Sum.inr p.1 : Key)) ∧
    A2 (fun v (p : Str × (List Nat × W)) => ∃ l, v = V.ref l ∧ H l = some (.lst (nums p.2.1))) (k1.map (·.2)) F ∧ A2 (fun v (p : Str × (List Nat × W)) => WV H v p.2.2) (k2.map (·.2)) F
  ne : fp ≠ fd
theorem FdV.ext {H G : Hp} {fp fd : Addr} {F : FD} (h : FdV H fp fd F) (e : Ex H G) : FdV G fp fd F := by
  obtain ⟨k1, k2, a, b, c, d, e1, e2⟩ := h.ex
  exact ⟨⟨k1, k2, e _ _ a, e _ _ b, c, d, e1.mono fun v p ⟨l, h1, h2⟩ => ⟨l, h1, e _ _ h2⟩, e2.mono fun v p h => h.ext e⟩, h.ne⟩
theorem a2_get {α : Type} {F : List (Str × α)} {kvs : List (Key × V)} {R : V → Str × α → Prop} (hk : kvs.map (·.1) = F.map (fun p => (Sum.inr p.1 : Key))) (h : A2 R (kvs.map (·.2)) F) (s : Str) :
    (match F.find? (fun p => decide (p.1 = s)) with
      | some p => p.1 = s ∧ ∃ v, valV kvs (Sum.inr s : Key) = some v ∧ R v p
      | none => valV kvs (Sum.inr s : Key) = none) := by
  induction F generalizing kvs with
  | nil =>
    cases kvs with
    | nil => rfl
    | cons a r => cases hk
  | cons p F ih =>
    cases kvs with
    | nil => cases hk
    | cons a r =>
      have hk1 : a.1 = Sum.inr p.1 := (List.cons.inj hk).1
      obtain ⟨h1, h2⟩ := h
      have ih := ih (List.cons.inj hk).2 h2
      rw [List.find?_cons]
      unfold valV
      rw [List.find?_cons, hk1]
      by_cases hs : p.1 = s
      · rw [decide_eq_true hs, decide_eq_true (by rw [hs])]
        exact ⟨hs, a.2, rfl, h1⟩
      · rw [decide_eq_false hs, decide_eq_false (fun z => hs (Sum.inr.inj z))]
        exact ih
def Wok (z : W) : Prop := z.o.ss = true ∧ z.dp ≤ 40 ∧ z.sz ≤ 9000
theorem Wok.kid {s : Str} {as : List W} (h : Wok (.n s as)) : ∀ a ∈ as, Wok a := by
  intro a ha
  obtain ⟨i, hi⟩ := List.getElem?_of_mem ha
  obtain ⟨h1, h2, h3⟩ := h
  refine ⟨?_, ?_, ?_⟩
  · have h1 : (SS.contains s && O.sss (W.os as)) = true := h1
    have h4 := (Bool.and_eq_true_iff.mp h1).2
    have key : ∀ l : List W, O.sss (W.os l) = true → ∀ a ∈ l, a.o.ss = true := by
      intro l
      induction l with
      | nil => intro _ a ha; cases ha
      | cons b l ih =>
        intro h a ha
        have h : (b.o.ss && O.sss (W.os l)) = true := h
        rw [Bool.and_eq_true] at h
        rcases List.mem_cons.mp ha with rfl | ha
        · exact h.1
        · exact ih h.2 a ha
    exact key as h4 a ha
  · have := W.lt_dp hi
    have h2 : W.dps as + 1 ≤ 40 := h2
    omega
  · have := W.lt_sz hi
    have h3 : W.szs as + 2 ≤ 9000 := h3
    omega
mutual
theorem um_ok : ∀ (p z : W) (pl : List Nat) (F : FD), (∀ q ∈ F, Wok q.2.2) → Wok z → ∀ q ∈ (um p z pl F).2, Wok q.2.2
  | .v s, z, pl, F, hF, hz => by
    unfold um
    cases fdGet F s with
    | none =>
      intro q hq
      rcases List.mem_append.mp hq with hq | hq
      · exact hF q hq
      · obtain rfl : q = (s, (pl, z)) := by simpa using hq
        exact hz
    | some x =>
      dsimp only
      split <;> exact hF
  | .n _ _, .v _, pl, F, hF, hz => hF
  | .n s as, .n t bs, pl, F, hF, hz => by
    unfold um
    split
    · exact ums_ok as bs 0 pl F hF (Wok.kid hz)
    · exact hF
theorem ums_ok : ∀ (as bs : List W) (i : Nat) (pl : List Nat) (F : FD), (∀ q ∈ F, Wok q.2.2) → (∀ b ∈ bs, Wok b) → ∀ q ∈ (ums as bs i pl F).2, Wok q.2.2
  | [], _, _, _, F, hF, _ => hF
  | _ :: _, [], _, _, F, hF, _ => hF
  | a :: as, b :: bs, i, pl, F, hF, hb => by
    have h1 := um_ok a b (pl ++ [i]) F hF (hb b (List.mem_cons_self ..))
    unfold ums
    split
    · rename_i f F' e
      rw [e] at h1
      exact h1
    · rename_i F' e
      rw [e] at h1
      exact ums_ok as bs (i + 1) pl F' h1 fun x hx => hb x (List.mem_cons_of_mem _ hx)
end
mutual
theorem um_len : ∀ (p z : W) (pl : List Nat) (F : FD), (um p z pl F).2.length ≤ F.length + p.sz
  | .v s, z, pl, F => by
    unfold um
    cases fdGet F s with
    | none => simp [W.sz]
    | some x =>
      dsimp only
      split <;> exact Nat.le_add_right _ _
  | .n _ _, .v _, pl, F => Nat.le_add_right _ _
  | .n s as, .n t bs, pl, F => by
    unfold um
    split
    · have := ums_len as bs 0 pl F
      show _ ≤ F.length + (W.szs as + 2)
      omega
    · exact Nat.le_add_right _ _
theorem ums_len : ∀ (as bs : List W) (i : Nat) (pl : List Nat) (F : FD), (ums as bs i pl F).2.length ≤ F.length + W.szs as
  | [], _, _, _, F => Nat.le_add_right _ _
  | _ :: _, [], _, _, F => Nat.le_add_right _ _
  | a :: as, b :: bs, i, pl, F => by
    have h1 := um_len a b (pl ++ [i]) F
    show _ ≤ F.length + (a.sz + W.szs as)
    unfold ums
    split
    · rename_i f F' e
      rw [e] at h1
      show F'.length ≤ _
      have h1 : F'.length ≤ F.length + a.sz := h1
      omega
    · rename_i F' e
      rw [e] at h1
      have h1 : F'.length ≤ F.length + a.sz := h1
      have := ums_len as bs (i + 1) pl F'
      omega
end
theorem szs_dropW {as : List W} {i : Nat} {a : W} (h : as[i]? = some a) : W.szs (as.drop i) = a.sz + W.szs (as.drop (i + 1)) := by
  obtain ⟨hi, e⟩ := List.getElem?_eq_some_iff.mp h
  rw [List.drop_eq_getElem_cons hi, e]
  rfl
theorem find_get {F : FD} {s : Str} : fdGet F s = (F.find? fun p => decide (p.1 = s)).map (·.2) := rfl
theorem FdV.mut {H G : Hp} {fp fd : Addr} {F : FD} (h : FdV H fp fd F) (B : But fp fd H G) {k1 k2 : List (Key × V)} {q : Str × (List Nat × W)} {va vb : V} (g1 : G fp = some (.dK (k1 ++ [(Sum.inr q.1, va)]))) (g2 : G fd = some (.dK (k2 ++ [(Sum.inr q.1, vb)])))
    (h1 : H fp = some (.dK k1)) (h2 : H fd = some (.dK k2)) (hl : ∃ l, va = V.ref l ∧ G l = some (.lst (nums q.2.1))) (hw : WV G vb q.2.2) : FdV G fp fd (F ++ [q]) := by
  obtain ⟨k1', k2', a, b, c, d, e1, e2⟩ := h.ex
  rw [h1] at a
  rw [h2] at b
  cases a
  cases b
  have tx : Tx H G := fun x xs hx => B _ _ (fun z => by rw [z, h1] at hx; cases hx) (fun z => by rw [z, h2] at hx; cases hx) hx
  refine ⟨⟨_, _, g1, g2, by rw [List.map_append, c, List.map_append]; rfl, by rw [List.map_append, d, List.map_append]; rfl, ?_, ?_⟩, h.ne⟩
  · rw [List.map_append]
    refine A2.append (e1.mono fun v p ⟨l, hv, hl⟩ => ⟨l, hv, B _ _ (fun z => by rw [z, h1] at hl; cases hl) (fun z => by rw [z, h2] at hl; cases hl) hl⟩) ⟨hl, trivial⟩
  · rw [List.map_append]
    exact A2.append (e2.mono fun v p h => h.tx tx) ⟨hw, trivial⟩
section
variable {P : Program} {w : World} {K : PySem.W.Frag} {mg : Str → Option Value} {base : Heap}
def spUm (m : Nat) : Sp := fun vs H Q _ => ∃ (u v : V) (pl fp fd : Addr) (p z : W) (path : List Nat) (F : FD), vs = [u, v, .ref pl, .ref fp, .ref fd] ∧ WV H u p ∧ WV H v z ∧ H pl = some (.lst (nums path)) ∧ FdV H fp fd F ∧
  Wok p ∧ Wok z ∧ p.dp < m ∧ m ≤ 40 ∧ path.length + p.dp ≤ 60 ∧ (∀ q ∈ F, Wok q.2.2) ∧ F.length + p.sz ≤ 20000 ∧
  ∀ (r : V) (G : Hp), But fp fd H G → FdV G fp fd (um p z path F).2 → (match (um p z path F).1 with
    | none => r = .non
    | some f => OV (Hx (fun b => Old H b ∧ b ≠ pl) G) r f.o) → Q r G
abbrev nUm : List Str := ["pattern", "word", "place", "first_places", "found", "index", "why"]
theorem sc_um : FnScope nUm ["pattern", "word", "place", "first_places", "found"] (defScope s_why_unmatched) := ⟨rfl, rfl, rfl, by decide +kernel, rfl, by decide +kernel, by decide +kernel⟩
theorem ok_um (T : T24 P w K mg base) : ∀ m, Ok P w K mg base CX0 "why_unmatched" ["pattern", "word", "place", "first_places", "found"] (m + 1) (spUm m)
  | 0 => T.ok 26 rfl sc_um (fun vs H Q E h => by obtain ⟨u, v, pl, fp, fd, p, z, path, F, rfl, _⟩ := h; rfl) (fun kV doc pm an cdv ct us hl => match us, hl with | [_, _, _, _, _], _ => rfl) (fun f cdv A outer s H vs Q E hr h => by obtain ⟨u, v, pl, fp, fd, p, z, path, F, _, _, _, _, _, _, _, h0, _⟩ := h; exact absurd h0 (Nat.not_lt_zero _))
  | m + 1 => by
    obtain ⟨fR, dR, GR, bR, kR, mR⟩ := (ok_um T m).ex
    refine T.ok 26 rfl sc_um (fun vs H Q E h => ?_) (fun kV doc pm an cdv ct us hl => match us, hl with | [_, _, _, _, _], _ => rfl) (fun f cdv A outer s H vs Q E hr h => ?_)
    · obtain ⟨u, v, pl, fp, fd, p, z, path, F, rfl, _⟩ := h
      rfl
    · obtain ⟨u, v, pl, fp, fd, p, z, path, F, rfl, hu, hv, hpl, hF, op, oz, hdp, hm, hpd, oF, hFl, k⟩ := h
      refine ⟨_, pss_cons (ps_if (pt_val (pe_isiB T.isi T.str PyProof.Rows.boot_str (pv 0)))
          (pss_cons (ps_if (pt_cmp (pc_dnotin (hu_of hr) (pv 0) (pv 4)))
              (pss_cons (ps_dput (hu_of hr) (pv 3) (pv 0) (pv 2) rfl) (pss_one (ps_dput (hu_of hr) (pv 4) (pv 0) (pv 1) rfl)))
              (pss_one (ps_if (pt_cmpR (op_neD hr.units) (pe_dget (hu_of hr) (pv 4) (pv 0) (fun _ _ => rfl)) (pv 1) (nomark _))
                (pss_one (ps_ret (pe_tup (pa_cons pe_str (pa_cons (pe_callTy call_list_of (by rfl) T.list PyProof.Rows.boot_list (pa_cons (pe_dget (hu_of hr) (pv 3) (pv 0) (fun _ _ => rfl)) pa_nil)) (pa_cons (pv 2) pa_nil)))))) pss_nil)))
            (pss_one (ps_ret pe_non))) pss_nil)
        (pss_cons (ps_if (PW.pt (pw_or (pt_val (pe_isiB T.isi T.str PyProof.Rows.boot_str (pv 1))) (pw_or (pt_cmpR op_ne (pe_ix ix_tup (pv 0) pe_int (fun _ _ => rfl)) (pe_ix ix_tup (pv 1) pe_int (fun _ _ => rfl)) (nomark _))
            (pw_or1 (pt_cmpR op_ne (pe_callB call_len (by rfl) T.len PySem.boot_len (pa_cons (pv 0) pa_nil)) (pe_callB call_len (by rfl) T.len PySem.boot_len (pa_cons (pv 1) pa_nil)) (nomark _))))))
          (pss_one (ps_ret (pe_tup (pa_cons pe_str (pa_cons (pv 2) pa_nil))))) pss_nil)
        (pss_cons (ps_for PassesOwn.never rfl (pi_range1 (by rfl) T.range (pa_cons (pe_op op_sub (pe_callB call_len (by rfl) T.len PySem.boot_len (pa_cons (pv 0) pa_nil)) pe_int) pa_nil)) (pg_name (i := 5) sc_um.nd rfl (Or.inl rfl))
          (pss_cons (ps_set (i := 6) sc_um.nd rfl (Or.inl rfl) (pe_call GR hr (by rfl) mR kR bR .nil pass0 (pa_cons (pe_ix ix_tup (pv 0) (pe_op op_add (pv 5) pe_int) (fun _ _ => rfl)) (pa_cons (pe_ix ix_tup (pv 1) (pe_op op_add (pv 5) pe_int) (fun _ _ => rfl)) (pa_cons (pe_op op_cat (pv 2) (pe_lst (pa_cons (pv 5) pa_nil))) (pa_cons (pv 3) (pa_cons (pv 4) pa_nil)))))))
          (pss_one (ps_if (pt_cmp (pc_notN (pv 6))) (pss_one (ps_ret (pv 6))) pss_nil))))
        (pss_one (ps_ret pe_non)))), ?_⟩
      obtain ⟨k1, k2, a1, a2, b1, b2, c1, c2⟩ := hF.ex
      have hk1l : k1.length = F.length := by simpa using congrArg List.length b1
      have hk2l : k2.length = F.length := by simpa using congrArg List.length b2
      have ret : ∀ (f : Ft) (t : Addr) (G : Hp) (xs : List V), Ex H G → G t = some (.tup (.str (match f with | .twice _ _ => "twice" | .clash _ => "clash") :: xs)) → (um p z path F) = (some f, F) → OV (Hx (fun b => Old H b ∧ b ≠ pl) G) (.ref t) f.o → Q (.ref t) G := fun f t G xs e _ hf ov => k (.ref t) G (But.of e) (by rw [hf]; exact hF.ext e) (by rw [hf]; exact ov)
      have npl : ∀ G, Ex H G → OV (Hx (fun b => Old H b ∧ b ≠ pl) G) (.ref pl) (oPl path) := fun G e => ⟨pl, _, rfl, hx_of (fun z => z.2 rfl) lst_tbl (e _ _ hpl), nums_ov path⟩
      cases p with
      | v sv =>
        obtain rfl : u = .str sv := hu
        refine q_when (b := true) (et_B (ev_isStr (o := .str sv) (ev_var rfl) rfl)) (fun _ H1 e1 => ?_) fun z => nomatch z
        have g2 := a2_get b2 c2 sv
        have g1 := a2_get b1 c1 sv
        cases hfind : F.find? (fun p => decide (p.1 = sv)) with
        | none =>
          rw [hfind] at g1 g2
          have hum : um (.v sv) z path F = (none, F ++ [(sv, (path, z))]) := by
            unfold um
            rw [find_get, hfind]
            rfl
          refine q_if (b := true) (et_B (ev_is (ev_notInD (k := Sum.inr sv) (ev_var (i := 0) rfl) (ev_var (i := 4) rfl) (e1 _ _ a2)) (by rw [g2]; rfl))) (fun _ H2 e2 => ?_) fun z => nomatch z
          have e12 := e1.trans e2
          refine ⟨.ref pl, rfl, .ref fp, rfl, .str sv, rfl, fp, _, rfl, DPut.k (k := Sum.inr sv) (e12 _ _ a1) (sz_lt (by omega)), ?_⟩
          refine ⟨v, rfl, .ref fd, rfl, .str sv, rfl, fd, _, rfl, DPut.k (k := Sum.inr sv) (kvs := k2) (by rw [upd_ne hF.ne.symm]; exact e12 _ _ a2) (sz_lt (by omega)), ?_⟩
          have B : But fp fd H (upd (upd H2 fp (.dK (putK k1 (Sum.inr sv) (.ref pl)))) fd (.dK (putK k2 (Sum.inr sv) v))) := fun b o n1 n2 h => by
            rw [upd_ne n2, upd_ne n1]
            exact e12 _ _ h
          have hplG := B pl _ (fun z => by rw [z, a1] at hpl; cases hpl) (fun z => by rw [z, a2] at hpl; cases hpl) hpl
          have tx : Tx H (upd (upd H2 fp (.dK (putK k1 (Sum.inr sv) (.ref pl)))) fd (.dK (putK k2 (Sum.inr sv) v))) := fun x xs hx => B _ _ (fun z => by rw [z, a1] at hx; cases hx) (fun z => by rw [z, a2] at hx; cases hx) hx
          refine k .non _ B ?_ (by rw [hum])
          rw [hum]
          exact hF.mut B (q := (sv, (path, z))) (va := .ref pl) (vb := v) (k1 := k1) (k2 := k2) (by rw [upd_ne hF.ne, upd_same, putK_new g1]) (by rw [upd_same, putK_new g2]) a1 a2 ⟨pl, rfl, hplG⟩ (hv.tx tx)
        | some q0 =>
          rw [hfind] at g1 g2
          obtain ⟨rfl, va, hva, l0, rfl, hl0⟩ := g1
          obtain ⟨_, vb, hvb, hwb⟩ := g2
          have hq0 := oF q0 (List.mem_of_find?_eq_some hfind)
          have hum : um (.v q0.1) z path F = if q0.2.2.beq z = true then (none, F) else (some (.twice q0.2.1 path), F) := by
            unfold um
            rw [find_get, hfind]
            rfl
          refine q_if (b := false) (et_B (ev_is (ev_notInD (k := Sum.inr q0.1) (ev_var (i := 0) rfl) (ev_var (i := 4) rfl) (e1 _ _ a2)) (by rw [hvb]; rfl))) (fun z => nomatch z) fun _ H2 e2 => ?_
          have e12 := e1.trans e2
          refine s_when (b := !q0.2.2.beq z) (et_test (ev_op (x := vb) (fun H3 e3 Q3 q3 => ⟨.ref fd, rfl, .str q0.1, rfl, fd, vb, rfl, .inl ⟨k2, Sum.inr q0.1, .inl (e3 _ _ (e12 _ _ a2)), rfl, hvb.symm⟩, q3 H3 (Ex.refl _)⟩) (ev_var (i := 1) rfl) (rv_neW (hwb.ext e12) (hv.ext e12) hq0.1 oz.1 (by have := hq0.2.1; omega) (by have := oz.2.1; omega)))) (fun hb H3 e3 => ?_) fun hb H3 e3 => ?_
          · have e13 := e12.trans e3
            have hbeq : q0.2.2.beq z = false := by simpa using hb
            refine ⟨.ref fp, rfl, .str q0.1, rfl, fp, .ref l0, rfl, .inl ⟨k1, Sum.inr q0.1, .inl (e13 _ _ a1), rfl, hva.symm⟩, l0, nums q0.2.1, rfl, .inl (sq_of (e13 _ _ hl0)), fun l2 hl2 => ?_⟩
            refine ⟨.ref pl, rfl, by show 3 ≤ sizeLine; decide, fun t ht => ?_⟩
            have x4 : Ex H3 (upd H3 l2 (.lst (nums q0.2.1))) := Ex.new hl2
            have x5 := Ex.new (H := upd H3 l2 (.lst (nums q0.2.1))) (o := .tup [.str "twice", .ref l2, .ref pl]) ht
            have eA := (e13.trans x4).trans x5
            have nt : H t = none := fresh_back (e13.trans x4) ht
            have nl2 : H l2 = none := fresh_back e13 hl2
            refine ret (.twice q0.2.1 path) t _ _ eA upd_same (by rw [hum, if_neg (by rw [hbeq]; decide)]) ⟨t, _, rfl, hx_of (fun z => not_old nt z.1) tup_tbl upd_same, .cons rfl (.cons ⟨l2, _, rfl, hx_of (fun z => not_old nl2 z.1) lst_tbl (x5 _ _ upd_same), nums_ov _⟩ (.cons (npl _ eA) .nil))⟩
          · have hbeq : q0.2.2.beq z = true := by simpa using hb
            refine k .non H3 (But.of (e12.trans e3)) ?_ ?_
            · rw [hum, if_pos hbeq]
              exact hF.ext (e12.trans e3)
            · rw [hum, if_pos hbeq]
      | n sn as =>
        obtain ⟨r, us, rfl, hr1, hus⟩ := hu.tup
        have hul := hus.length
        have clash : ∀ (H2 : Hp), Ex H H2 → um (.n sn as) z path F = (some (.clash path), F) → tRet (tTup (tCons (tC (.str "clash")) (tCons (tVar 2) tNil))) { nx := fun x H' => Q V.non H', rt := Q } [some (.ref r), some v, some (.ref pl), some (.ref fp), some (.ref fd), none, none] H2 := fun H2 e2 hf => by
          refine ⟨.ref pl, rfl, by show 2 ≤ sizeLine; decide, fun t ht => ?_⟩
          have x5 : Ex H2 (upd H2 t (.tup [.str "clash", .ref pl])) := Ex.new ht
          exact ret (.clash path) t _ _ (e2.trans x5) upd_same hf ⟨t, _, rfl, hx_of (fun z => not_old (fresh_back e2 ht) z.1) tup_tbl upd_same, .cons rfl (.cons (npl _ (e2.trans x5)) .nil)⟩
        refine q_when (b := false) (et_B (ev_isStr (o := (W.n sn as).o) (ev_var rfl) hu)) (fun z => nomatch z) fun _ H1 e1 => ?_
        cases z with
        | v tv =>
          obtain rfl : v = .str tv := hv
          exact q_when (b := true) (et_is (et_or (a := true) (b := true) (et_B (ev_isStr (o := .str tv) (ev_var rfl) rfl)) fun z => nomatch z) rfl) (fun _ H2 e2 => clash H2 (e1.trans e2) rfl) fun z => nomatch z
        | n tn bs =>
          obtain ⟨r2, vs, rfl, hr2, hvs⟩ := hv.tup
          have hvl := hvs.length
          have st1 := st_of (K := K) (e1 _ _ hr1)
          have st2 := st_of (K := K) (e1 _ _ hr2)
          have htest : EvT (tOr (tB (tIsi K "str" (tVar 1))) (tOr (tTest (tOp rNe (tOp (rIxT K) (tVar 0) (tC (.int 0))) (tOp (rIxT K) (tVar 1) (tC (.int 0))))) (tTest (tOp rNe (tLen K (tVar 0)) (tLen K (tVar 1)))))) [some (.ref r), some (.ref r2), some (.ref pl), some (.ref fp), some (.ref fd), none, none] H1
              (false || (!decide (V.str sn = V.str tn) || !decide (V.int (((V.str sn :: us).length : Nat) : Int) = V.int (((V.str tn :: vs).length : Nat) : Int)))) :=
            et_or (et_B (ev_isStr (o := (W.n tn bs).o) (ev_var rfl) (hv.ext e1))) fun _ => et_or (et_test (ev_op (ev_op (ev_var rfl) ev_c (rv_ixT st1 (atI_nat (j := 0) rfl))) (ev_op (ev_var rfl) ev_c (rv_ixT st2 (atI_nat (j := 0) rfl))) (rv_ne rfl))) fun _ => et_test (ev_op (ev_lenT (ev_var rfl) st1) (ev_lenT (ev_var rfl) st2) (rv_ne rfl))
          by_cases hst : sn = tn ∧ as.length = bs.length
          · refine q_when (b := false) (et_is htest ?_) (fun z => nomatch z) fun _ H2 e2 => ?_
            · rw [hst.1]
              simp [hul, hvl, hst.2]
            have e12 := e1.trans e2
            have hum : um (.n sn as) (.n tn bs) path F = ums as bs 0 path F := by unfold um; rw [if_pos hst]
            have hdps : W.dps as + 1 < m + 1 := hdp
            have hsz1 : W.szs as + 2 ≤ 9000 := op.2.2
            have hasl := W.len_szs as
            have hFl' : F.length + (W.szs as + 2) ≤ 20000 := hFl
            have hpd' : path.length + (W.dps as + 1) ≤ 60 := hpd
            refine q_forR1 (n := (as.length : Nat)) (ea_cons (ev_is (ev_op (ev_lenT (ev_var (i := 0) rfl) (st_of (e12 _ _ hr1))) ev_c rv_I0) (by show V.int (((us.length + 1 : Nat) : Int) - 1) = V.int ((as.length : Nat) : Int); rw [hul]; exact congrArg V.int (by omega))) ea_nil) (by omega)
              (fun i σ' G => (∃ c5 c6 : Option V, σ' = [some (.ref r), some (.ref r2), some (.ref pl), some (.ref fp), some (.ref fd), c5, c6]) ∧ But fp fd H G ∧ ∃ F', FdV G fp fd F' ∧ (∀ q ∈ F', Wok q.2.2) ∧ F'.length + W.szs (as.drop i) ≤ F.length + W.szs as ∧ ums as bs 0 path F = ums (as.drop i) (bs.drop i) i path F') ?_ ?_ ?_
            · intro H3 e3
              exact ⟨⟨_, _, rfl⟩, But.of (e12.trans e3), F, hF.ext (e12.trans e3), oF, Nat.le_refl _, rfl⟩
            · rintro i σ' G hi ⟨⟨c5, c6, rfl⟩, BG, F', hF', oF', hl', hums⟩
              have hia : i < as.length := by omega
              obtain ⟨a, ha⟩ : ∃ a, as[i]? = some a := ⟨as[i], by simp [hia]⟩
              obtain ⟨b, hb⟩ : ∃ b, bs[i]? = some b := ⟨bs[i]'(by omega), by simp [show i < bs.length by omega]⟩
              have tx : Tx H G := fun x xs hx => BG _ _ (fun z => by rw [z, a1] at hx; cases hx) (fun z => by rw [z, a2] at hx; cases hx) hx
              obtain ⟨ua, hua, hwa⟩ := hus.get ha
              obtain ⟨vb, hvb, hwb⟩ := hvs.get hb
              have wa := Wok.kid op a (List.mem_of_getElem? ha)
              have wb := Wok.kid oz b (List.mem_of_getElem? hb)
              have hda := W.lt_dp ha
              have hsa := W.lt_sz ha
              have hdr := szs_dropW ha
              have hi1 : ∀ J, Ev (tOp (rI0 fun i j => .int (i + j)) (tVar 5) (tC (.int 1))) [some (.ref r), some (.ref r2), some (.ref pl), some (.ref fp), some (.ref fd), some (.int (i : Nat)), c6] J (.int ((i + 1 : Nat) : Int)) := fun J => ev_is (ev_op (ev_var (i := 5) rfl) ev_c rv_I0) rfl
              have hxa : Ev (tOp (rIxT K) (tVar 0) (tOp (rI0 fun i j => .int (i + j)) (tVar 5) (tC (.int 1)))) [some (.ref r), some (.ref r2), some (.ref pl), some (.ref fp), some (.ref fd), some (.int (i : Nat)), c6] G ua := ev_op (ev_var (i := 0) rfl) (hi1 G) (rv_ixT (st_of (tx _ _ hr1)) (atI_nat (j := i + 1) (by simpa using hua)))
              refine hxa G (Ex.refl G) _ fun Ga ea => ?_
              have hxb : Ev (tOp (rIxT K) (tVar 1) (tOp (rI0 fun i j => .int (i + j)) (tVar 5) (tC (.int 1)))) [some (.ref r), some (.ref r2), some (.ref pl), some (.ref fp), some (.ref fd), some (.int (i : Nat)), c6] Ga vb := ev_op (ev_var (i := 1) rfl) (hi1 Ga) (rv_ixT (st_of (ea _ _ (tx _ _ hr2))) (atI_nat (j := i + 1) (by simpa using hvb)))
              refine hxb Ga (Ex.refl Ga) _ fun Gb eb => ?_
              have eab := ea.trans eb
              have hplb := eab _ _ (BG pl _ (fun z => by rw [z, a1] at hpl; cases hpl) (fun z => by rw [z, a2] at hpl; cases hpl) hpl)
              refine ⟨.ref pl, rfl, .int (i : Nat), rfl, by show 1 ≤ sizeLine; decide, fun l1 hl1 => ⟨pl, l1, nums path, [.int (i : Nat)], rfl, rfl, Ex.new hl1 _ _ hplb, upd_same, sz_of (by rw [nums_len]; simp; omega), fun l2 hl2 => ?_⟩⟩
              have x4 : Ex Gb (upd Gb l1 (.lst [.int (i : Nat)])) := Ex.new hl1
              have x5 := Ex.new (H := upd Gb l1 (.lst [.int (i : Nat)])) (o := .lst (nums path ++ [.int (i : Nat)])) hl2
              have eall := (eab.trans x4).trans x5
              have hl2' : (upd (upd Gb l1 (.lst [.int (i : Nat)])) l2 (.lst (nums path ++ [.int (i : Nat)]))) l2 = some (.lst (nums (path ++ [i]))) := by
                rw [upd_same]
                unfold nums
                rw [List.map_append]
                rfl
              have nG2 : G l2 = none := fresh_back (eab.trans x4) hl2
              generalize upd (upd Gb l1 (.lst [.int (i : Nat)])) l2 (.lst (nums path ++ [.int (i : Nat)])) = Gc at eall hl2'
              refine ⟨.ref fp, rfl, .ref fd, rfl, ua, vb, l2, fp, fd, a, b, path ++ [i], F', rfl, (hwa.tx tx).ext eall, (hwb.tx tx).ext eall, hl2', hF'.ext eall, wa, wb, by omega, by omega, by simp; omega, oF', by omega, fun r5 G5 B5 hF5 hm5 => ?_⟩
              have BH5 : But fp fd H G5 := (BG.trans (But.of eall)).trans B5
              have hcons : ums (as.drop i) (bs.drop i) i path F' = (match um a b (path ++ [i]) F' with
                | (some f, F'') => (some f, F'')
                | (none, F'') => ums (as.drop (i + 1)) (bs.drop (i + 1)) (i + 1) path F'') := by
                have h1 : as.drop i = a :: as.drop (i + 1) := by rw [List.drop_eq_getElem_cons hia]; congr 1; exact (List.getElem?_eq_some_iff.mp ha).2
                have h2 : bs.drop i = b :: bs.drop (i + 1) := by rw [List.drop_eq_getElem_cons (by omega)]; congr 1; exact (List.getElem?_eq_some_iff.mp hb).2
                rw [h1, h2]
                conv => lhs; unfold ums
              have hlen5 := um_len a b (path ++ [i]) F'
              have hok5 := um_ok a b (path ++ [i]) F' oF' wb
              cases hum5 : um a b (path ++ [i]) F' with
              | mk o5 F5 =>
                rw [hum5] at hF5 hm5 hcons hlen5 hok5
                cases o5 with
                | none =>
                  obtain rfl : r5 = .non := hm5
                  unfold gName
                  dsimp only
                  refine s_when (b := false) (et_B (ev_notN (ev_var (i := 6) rfl) rfl)) (fun z => nomatch z) fun _ G6 e6 => ?_
                  have hlen5 : F5.length ≤ F'.length + a.sz := hlen5
                  exact ⟨⟨_, _, rfl⟩, BH5.trans (But.of e6), F5, hF5.ext e6, hok5, by omega, by rw [hums, hcons]⟩
                | some f5 =>
                  have hr5 : r5 ≠ .non := fun z => by
                    rw [z] at hm5
                    cases f5 <;> (obtain ⟨_, _, e, _⟩ := hm5; cases e)
                  unfold gName
                  dsimp only
                  refine s_when (b := true) (et_B (ev_notN (ev_var (i := 6) rfl) (by rw [decide_eq_false hr5]; rfl))) (fun _ G6 e6 => ?_) fun z => nomatch z
                  refine s_ret (ev_var (i := 6) rfl) fun G7 e7 => ?_
                  have e67 := e6.trans e7
                  have hfin : um (.n sn as) (.n tn bs) path F = (some f5, F5) := by rw [hum, hums, hcons]
                  refine k r5 G7 (BH5.trans (But.of e67)) (by rw [hfin]; exact hF5.ext e67) ?_
                  rw [hfin]
                  refine OV.ext (Go.of e67).ex (OV.ext (hx_mono fun c hc => ?_) hm5)
                  obtain ⟨⟨xs, hx⟩, hne⟩ := hc
                  have hcG := BG c _ (fun z => by rw [z, a1] at hx; cases hx) (fun z => by rw [z, a2] at hx; cases hx) hx
                  exact ⟨⟨xs, eall _ _ hcG⟩, fun z => by rw [z, nG2] at hcG; cases hcG⟩
            · rintro σ' G ⟨⟨c5, c6, rfl⟩, BG, F', hF', oF', hl', hums⟩
              refine s_ret ev_c fun G2 eg => ?_
              have hn : ((as.length : Nat) : Int).toNat = as.length := rfl
              rw [hn, List.drop_length] at hums
              have hfin : um (.n sn as) (.n tn bs) path F = (none, F') := by
                rw [hum, hums]
                unfold ums
                rfl
              exact k .non G2 (BG.trans (But.of eg)) (by rw [hfin]; exact hF'.ext eg) (by rw [hfin])
          · refine q_when (b := true) (et_is htest ?_) (fun _ H2 e2 => clash H2 (e1.trans e2) (by unfold um; rw [if_neg hst])) fun z => nomatch z
            by_cases h1 : sn = tn
            · have h2 : ¬ as.length = bs.length := fun z => hst ⟨h1, z⟩
              have h3 : ¬ (V.int (((V.str sn :: us).length : Nat) : Int) = V.int (((V.str tn :: vs).length : Nat) : Int)) := fun z => by
                have := V.int.inj z
                simp at this
                omega
              rw [decide_eq_false h3]
              simp
            · rw [decide_eq_false (fun z => h1 (V.str.inj z))]
              rfl
end
end K24

set_option Elab.async false
set_option linter.all false
set_option maxRecDepth 100000
set_option maxHeartbeats 4000000
/-! match, match_fault. -/
namespace K24
open PySem PySem.Spec PyProof.Rows L2 Evl
mutual
theorem um_nd : ∀ (p z : W) (pl : List Nat) (F : FD), (F.map (·.1)).Nodup → ((um p z pl F).2.map (·.1)).Nodup
  | .v s, z, pl, F, h => by
    unfold um
    cases e : fdGet F s with
    | none =>
      show ((F ++ [(s, (pl, z))]).map (·.1)).Nodup
      rw [List.map_append, List.nodup_append]
      refine ⟨h, by simp, fun a ha b hb => ?_⟩
      obtain rfl : b = s := by simpa using hb
      intro z
      subst z
      obtain ⟨q, hq, e2⟩ := List.mem_map.mp ha
      unfold fdGet at e
      have e3 : F.find? (fun p => decide (p.1 = a)) = none := by simpa using e
      exact (List.find?_eq_none.mp e3) q hq (decide_eq_true e2)
    | some x =>
      dsimp only
      split <;> exact h
  | .n _ _, .v _, pl, F, h => h
  | .n s as, .n t bs, pl, F, h => by
    unfold um
    split
    · exact ums_nd as bs 0 pl F h
    · exact h
theorem ums_nd : ∀ (as bs : List W) (i : Nat) (pl : List Nat) (F : FD), (F.map (·.1)).Nodup → ((ums as bs i pl F).2.map (·.1)).Nodup
  | [], _, _, _, F, h => h
  | _ :: _, [], _, _, F, h => h
  | a :: as, b :: bs, i, pl, F, h => by
    have h1 := um_nd a b (pl ++ [i]) F h
    unfold ums
    split
    · rename_i f F' e
      rw [e] at h1
      exact h1
    · rename_i F' e
      rw [e] at h1
      exact ums_nd as bs (i + 1) pl F' h1
end
/-- the words found -/
def fdW (F : FD) : List (Str × W) := F.map fun q => (q.1, q.2.2)
theorem FdV.sub {H : Hp} {fp fd : Addr} {F : FD} (h : FdV H fp fd F) (nd : (F.map (·.1)).Nodup) : SubV H fd (fdW F) := by
  obtain ⟨k1, k2, a, b, c, d, e1, e2⟩ := h.ex
  refine ⟨⟨k2, b, ?_, ?_⟩, ?_⟩
  · rw [d]
    unfold fdW
    rw [List.map_map, List.map_map]
    rfl
  · have key : ∀ (vs : List V) (F : FD), A2 (fun v (p : Str × (List Nat × W)) => WV H v p.2.2) vs F → OVs H vs (((fdW F).map keyW).map (·.2)) := by
      intro vs
      induction vs with
      | nil => intro F h; cases F with
        | nil => rfl
        | cons q F => exact h.elim
      | cons v vs ih => intro F h; cases F with
        | nil => exact h.elim
        | cons q F => exact .cons h.1 (ih F h.2)
    exact key _ _ e2
  · unfold fdW
    rw [List.map_map, List.map_map]
    have := nodup_inr nd
    rw [List.map_map] at this
    exact this
theorem Lw.wok {H : Hp} {v : V} {z : W} (h : Lw H v z) : Wok z := by
  have hs := h.sz
  obtain ⟨⟨o, rd, hf, e⟩, hd⟩ := h
  exact ⟨by rw [← e, strip_ss]; exact rd.ss, by omega, by omega⟩
section
variable {P : Program} {w : World} {K : PySem.W.Frag} {mg : Str → Option Value} {base : Heap}
def spMt (K : PySem.W.Frag) (k : W → W → Hp → VK → Prop) : Sp := fun vs H Q E => ∃ v x, vs = [v, x] ∧ ((NoW H v ∧ Bad K "BadWord" v H E) ∨ ∃ p, Lw H v p ∧ ((NoW H x ∧ Bad K "BadWord" x H E) ∨ ∃ z, Lw H x z ∧ k p z H Q))
theorem spMt_len {k : W → W → Hp → VK → Prop} {vs : List V} {H : Hp} {Q : VK} {E : XK} (h : spMt K k vs H Q E) : vs.length = 2 := by
  obtain ⟨v, x, rfl, _⟩ := h
  rfl
def kFault : W → W → Hp → VK → Prop := fun p z H Q => ∀ (r : V) (G : Hp), Ex H G → (match (um p z [] []).1 with
    | none => r = .non
    | some f => OV (Hx (Old H) G) r f.o) → Q r G
def kMatch : W → W → Hp → VK → Prop := fun p z H Q => (um p z [] []).2.length < 64 ∧ ∀ (r : V) (G : Hp), Ex H G → (match (um p z [] []).1 with
    | none => ∃ pd ys, r = .ref pd ∧ H pd = none ∧ ys.Perm ((um p z [] []).2.map (·.1)) ∧ sortedS ys = true ∧ SubV G pd (psOf (fdW (um p z [] []).2) ys)
    | some f => r = .non) → Q r G
theorem sc_mf : FnScope ["pattern", "word"] ["pattern", "word"] (defScope s_match_fault) := ⟨rfl, rfl, rfl, by decide +kernel, rfl, by decide +kernel, by decide +kernel⟩
theorem ok_match_fault (T : T24 P w K mg base) : Ok P w K mg base (L2.CX P w) "match_fault" ["pattern", "word"] 14 (spMt K kFault) := by
  obtain ⟨fC, dC, GC, bC, kC, mC⟩ := (ok_checked_word T).ex
  obtain ⟨fU, dU, GU, bU, kU, mU⟩ := (ok_um T 12).ex
  refine T.okX 28 rfl sc_mf (fun vs H Q E h => spMt_len h) (fun kV doc pm an cdv ct us hl => match us, hl with | [_, _], _ => rfl) (fun f cdv A outer s H vs Q E hr h => ?_)
  obtain ⟨v, x, rfl, h⟩ := h
  refine ⟨_, pss_one (ps_ret (pe_call GU hr (by rfl) mU kU bU .nil pass0 (pa_cons (pe_callS GC (hr.mono (by decide)) (by rfl) mC kC bC (fun σ => passAt (takes_of rfl rfl rfl rfl) σ) (pa_cons (pv 0) pa_nil)) (pa_cons (pe_callS GC (hr.mono (by decide)) (by rfl) mC kC bC (fun σ => passAt (takes_of rfl rfl rfl rfl) σ) (pa_cons (pv 1) pa_nil))
    (pa_cons (pe_lst pa_nil) (pa_cons pe_dnewK (pa_cons pe_dnewK pa_nil))))))), ?_⟩
  rcases h with ⟨hn, k⟩ | ⟨p, hp, ⟨hn, k⟩ | ⟨z, hz, k⟩⟩
  · exact cw_bad (ev_var rfl) hn k
  · refine cw_go (ev_var rfl) hp fun u G e hu => ?_
    exact cw_bad (E := WE (fun cls d _ H => E cls d H)) (ev_var rfl) (hn.ext e) (k.mono e)
  · refine cw_go (ev_var rfl) hp fun u G e hu => ?_
    refine cw_go (E := WE (fun cls d _ H => E cls d H)) (ev_var rfl) (hz.ext e) fun y G2 e2 hy => ?_
    refine ⟨Nat.zero_le _, fun pl npl fp nfp fd nfd => ?_⟩
    have x1 : Ex G2 (upd G2 pl (.lst [])) := Ex.new npl
    have x2 := Ex.new (H := upd G2 pl (.lst [])) (o := .dK []) nfp
    have x3 := Ex.new (H := upd (upd G2 pl (.lst [])) fp (.dK [])) (o := .dK []) nfd
    have e3 := (x1.trans x2).trans x3
    have eA := (e.trans e2).trans e3
    have hfp := x3 _ _ (upd_same (a := fp))
    have hpl := x3 _ _ (x2 _ _ (upd_same (a := pl)))
    have hfd : (upd (upd (upd G2 pl (.lst [])) fp (.dK [])) fd (.dK [])) fd = some (.dK []) := upd_same
    have nH : H pl = none ∧ H fp = none ∧ H fd = none := ⟨fresh_back (e.trans e2) npl, fresh_back ((e.trans e2).trans x1) nfp, fresh_back (((e.trans e2).trans x1).trans x2) nfd⟩
    have hne : fp ≠ fd := fun q => by
      rw [q, upd_same] at hfp
      have := nfd
      rw [← q, upd_same] at this
      cases this
    generalize upd (upd (upd G2 pl (.lst [])) fp (.dK [])) fd (.dK []) = G3 at e3 eA hfp hpl hfd
    have wp := hp.wok
    have hpd := hp.dp
    refine ⟨u, y, pl, fp, fd, p, z, [], [], rfl, (hu.ext e2).ext e3, hy.ext e3, hpl, ⟨⟨[], [], hfp, hfd, rfl, rfl, trivial, trivial⟩, hne⟩, wp, hz.wok, hpd, by decide, by simp; omega, (fun q hq => nomatch hq), by have := wp.2.2; simp; omega, fun r G4 B4 hF4 hm => ?_⟩
    have eH : Ex H G4 := fun b o hb => B4 _ _ (fun z => by rw [z, nH.2.1] at hb; cases hb) (fun z => by rw [z, nH.2.2] at hb; cases hb) (eA _ _ hb)
    refine k r G4 eH ?_
    revert hm
    cases (um p z [] []).1 with
    | none => exact fun h => h
    | some f => exact fun h => h.ext (hx_mono fun b hb => by
        obtain ⟨xs, hb⟩ := hb
        exact ⟨⟨xs, eA _ _ hb⟩, fun z => by rw [z, nH.1] at hb; cases hb⟩)
abbrev nMt : List Str := ["pattern", "word", "found", "variable"]
theorem sc_mt : FnScope nMt ["pattern", "word"] (defScope s_match) := ⟨rfl, rfl, rfl, by decide +kernel, rfl, by decide +kernel, by decide +kernel⟩
theorem ok_match (T : T24 P w K mg base) : Ok P w K mg base (L2.CX P w) "match" ["pattern", "word"] 14 (spMt K kMatch) := by
  obtain ⟨fC, dC, GC, bC, kC, mC⟩ := (ok_checked_word T).ex
  obtain ⟨fU, dU, GU, bU, kU, mU⟩ := (ok_um T 12).ex
  refine T.okX 27 rfl sc_mt (fun vs H Q E h => spMt_len h) (fun kV doc pm an cdv ct us hl => match us, hl with | [_, _], _ => rfl) (fun f cdv A outer s H vs Q E hr h => ?_)
  obtain ⟨v, x, rfl, h⟩ := h
  refine ⟨_, pss_cons (ps_set (i := 2) sc_mt.nd rfl (Or.inr rfl) pe_dnewK)
    (pss_cons (ps_if (pt_cmp (pc_notN (pe_call GU hr (by rfl) mU kU bU .nil pass0 (pa_cons (pe_callS GC (hr.mono (by decide)) (by rfl) mC kC bC (fun σ => passAt (takes_of rfl rfl rfl rfl) σ) (pa_cons (pv 0) pa_nil)) (pa_cons (pe_callS GC (hr.mono (by decide)) (by rfl) mC kC bC (fun σ => passAt (takes_of rfl rfl rfl rfl) σ) (pa_cons (pv 1) pa_nil))
      (pa_cons (pe_lst pa_nil) (pa_cons pe_dnewK (pa_cons (pv 2) pa_nil)))))))) (pss_one (ps_ret pe_non)) pss_nil)
    (pss_one (ps_ret (pe_dc (own := [("variable", 3)]) (g := gName 3) (tt := tYes) (tk := tVar 3) (tv := tDGet (tVar 2) (tVar 3)) rfl sc_mt.nd (pi_list (pe_callB (call_sortedD rfl) (by rfl) T.sorted (by decide +kernel) (pa_cons (pv 2) pa_nil))) (blkOk_by (N := nMt) (sc := defScope s_match) (by decide +kernel))
      (fun _ _ _ _ _ => pg_name (i := 3) sc_mt.nd rfl (Or.inl rfl)) (fun _ _ _ _ _ => pts_nil) (fun _ _ _ _ _ => pv 3) (fun _ _ _ _ _ => pe_dget (hu_of hr) (pv 2) (pv 3) (fun _ _ => rfl)))))), ?_⟩
  intro fd nfd
  have x0 : Ex H (upd H fd (.dK [])) := Ex.new nfd
  have hfd0 : (upd H fd (.dK [])) fd = some (.dK []) := upd_same
  generalize upd H fd (.dK []) = H0 at x0 hfd0
  rcases h with ⟨hn, k⟩ | ⟨p, hp, ⟨hn, k⟩ | ⟨z, hz, hlt, k⟩⟩
  · exact cw_bad (ev_var rfl) (hn.ext x0) (k.mono x0)
  · refine cw_go (ev_var rfl) (hp.ext x0) fun u G e hu => ?_
    exact cw_bad (E := WE (fun cls d _ H => E cls d H)) (ev_var rfl) (hn.ext (x0.trans e)) (k.mono (x0.trans e))
  · refine cw_go (ev_var rfl) (hp.ext x0) fun u G e hu => ?_
    refine cw_go (E := WE (fun cls d _ H => E cls d H)) (ev_var rfl) (hz.ext (x0.trans e)) fun y G2 e2 hy => ?_
    refine ⟨Nat.zero_le _, fun pl npl fp nfp => ?_⟩
    have x1 : Ex G2 (upd G2 pl (.lst [])) := Ex.new npl
    have x2 := Ex.new (H := upd G2 pl (.lst [])) (o := .dK []) nfp
    have e3 := x1.trans x2
    have eA := (e.trans e2).trans e3
    have hpl := x2 _ _ (upd_same (a := pl))
    have hfp : (upd (upd G2 pl (.lst [])) fp (.dK [])) fp = some (.dK []) := upd_same
    have hfd := eA _ _ hfd0
    have nH : H fp = none := fresh_back ((x0.trans (e.trans e2)).trans x1) nfp
    have hne : fp ≠ fd := fun q => by
      rw [q] at nfp
      have := ((e.trans e2).trans x1) _ _ hfd0
      rw [this] at nfp
      cases nfp
    generalize upd (upd G2 pl (.lst [])) fp (.dK []) = G3 at e3 eA hfp hpl hfd
    have wp := hp.wok
    have hpd := hp.dp
    refine ⟨.ref fd, rfl, u, y, pl, fp, fd, p, z, [], [], rfl, (hu.ext e2).ext e3, hy.ext e3, hpl, ⟨⟨[], [], hfp, hfd, rfl, rfl, trivial, trivial⟩, hne⟩, wp, hz.wok, hpd, by decide, by simp; omega, (fun q hq => nomatch hq), by have := wp.2.2; simp; omega, fun r G4 B4 hF4 hm => ?_⟩
    have eH : Ex H G4 := fun b o hb => B4 _ _ (fun z => by rw [z, nH] at hb; cases hb) (fun z => by rw [z, nfd] at hb; cases hb) ((x0.trans eA) _ _ hb)
    refine ⟨_, rfl, ?_⟩
    dsimp only
    cases hum : um p z [] [] with
    | mk o5 F5 =>
      rw [hum] at hF4 hm k hlt
      cases o5 with
      | some f5 =>
        have hr5 : r ≠ .non := fun z => by
          rw [z] at hm
          cases f5 <;> (obtain ⟨_, _, e, _⟩ := hm; cases e)
        rw [decide_eq_false hr5]
        rw [if_pos (by rfl)]
        exact k .non G4 eH rfl
      | none =>
        obtain rfl : r = .non := hm
        rw [decide_eq_true rfl]
        rw [if_neg (by decide)]
        have hnd5 : (F5.map (·.1)).Nodup := by
          have := um_nd p z [] [] List.nodup_nil
          rw [hum] at this
          exact this
        have hd : SubV G4 fd (fdW F5) := hF4.sub hnd5
        have fin : ∀ (pd : Addr) (G : Hp) (ys : List Str), G4 pd = none → Ex G4 G → ys.Perm ((fdW F5).map (·.1)) → sortedS ys = true → SubV G pd (psOf (fdW F5) ys) → Q (.ref pd) G := fun pd G ys np e5 hp5 hs5 hv5 => by
          refine k (.ref pd) G (eH.trans e5) ⟨pd, ys, rfl, ?_, ?_, hs5, hv5⟩
          · cases hx : H pd with
            | none => rfl
            | some o =>
              have := eH _ _ hx
              rw [np] at this
              cases this
          · unfold fdW at hp5
            rw [List.map_map] at hp5
            exact hp5
        have hl5 : (fdW F5).length < 64 := by unfold fdW; rw [List.length_map]; exact hlt
        generalize fdW F5 = ps at hd fin hl5
        obtain ⟨kvs, hk1, hk2, hk3, hk4, hk5, hk6⟩ := hd.get
        refine ⟨.ref fd, rfl, fd, kvs, ps.map (·.1), rfl, .inl hk1, by rw [hk3, List.map_map]; rfl, by simpa using hl5, fun ys p hperm hsort np => ?_⟩
        have x1 : Ex G4 (upd G4 p (.lst (ys.map V.str))) := Ex.new np
        have hyn : ys.Nodup := hperm.nodup_iff.mpr hk4
        refine ⟨p, rfl, ⟨_, sq_of upd_same⟩, fun Dl hD => ?_⟩
        have hp2 : (upd G4 p (.lst (ys.map V.str))) p = some (.lst (ys.map V.str)) := upd_same
        generalize upd G4 p (.lst (ys.map V.str)) = H2 at x1 hD hp2
        have hDH : G4 Dl = none := fresh_back x1 hD
        refine dc_it (walk_list (K := K) (a := p) (xs := ys.map V.str)) (fun i G => Ex H2 G ∧ ∃ kv, G Dl = some (.dK kv) ∧ kv.map (·.1) = (ys.take i).map (fun s => (Sum.inr s : Key)) ∧ OVs G (kv.map (·.2)) ((psOf ps (ys.take i)).map fun q => q.2.o)) ⟨Ex.new hD, [], upd_same, by simp, by simp [psOf]; rfl⟩ (fun i G _ c => sq_of (c.1 _ _ hp2)) ?_ ?_
        · rintro i x G G' hi ⟨eG, kv, hkv, hkk, hvv⟩ ⟨rfl, hx⟩
          obtain ⟨y, hy, rfl⟩ := sVs_get (xs := ys) hx
          have hyk : y ∈ ps.map (·.1) := hperm.mem_iff.mp (List.mem_of_getElem? hy)
          obtain ⟨pr, hpr, rfl⟩ := List.mem_map.mp hyk
          have hlk := lk_self hk4 pr hpr
          obtain ⟨v, hv, hwv⟩ := hk5 _ _ hlk
          have eHG := x1.trans eG
          have hil := (List.getElem?_eq_some_iff.mp hy).1
          have hkl : kv.length = i := by
            have := congrArg List.length hkk
            simp at this
            omega
          refine ⟨rfl, ?_⟩
          unfold tYes
          dsimp only
          rw [if_pos rfl]
          refine ⟨.str pr.1, rfl, .ref fd, rfl, .str pr.1, rfl, fd, v, rfl, .inl ⟨kvs, Sum.inr pr.1, .inl (eHG _ _ hk1), rfl, hv.symm⟩, ?_⟩
          obtain ⟨u, G5, e5, hu⟩ : ∃ (u : V) (G5 : Hp), Ex G' G5 ∧ OV G5 u pr.2.o ∧ u = v ∧ G5 = G' := ⟨v, G', Ex.refl _, OV.ext eHG hwv, rfl, rfl⟩
          obtain ⟨hu, rfl, rfl⟩ := hu
          have hkv5 := e5 _ _ hkv
          refine ⟨kv, Sum.inr pr.1, rfl, hkv5, sz_lt (by have := hperm.length_eq; simp at this; omega), Ex.mut (eG.trans e5) hD, kv ++ [(Sum.inr pr.1, u)], ?_, ?_, ?_⟩
          · rw [upd_same, putK_new (valV_no (by
              rw [hkk]
              intro z
              obtain ⟨s2, hs2, e⟩ := List.mem_map.mp z
              obtain rfl := Sum.inr.inj e
              exact not_take_mem hyn hy hs2))]
          · rw [List.map_append, hkk, take_snoc hy, List.map_append]
            rfl
          · have tx : Tx G5 (upd G5 Dl (.dK (kv ++ [(Sum.inr pr.1, u)]))) := Tx.dct hkv5
            rw [List.map_append, take_snoc hy]
            have e6 : psOf ps (ys.take i ++ [pr.1]) = psOf ps (ys.take i) ++ [(pr.1, pr.2)] := by
              unfold psOf
              rw [List.map_append]
              show _ ++ [(pr.1, (lk ps pr.1).getD (.v pr.1))] = _
              rw [hlk]
              rfl
            rw [e6, List.map_append]
            have h7 : OVs (upd G5 Dl (.dK (kv ++ [(Sum.inr pr.1, u)]))) (kv.map (·.2)) ((psOf ps (ys.take i)).map fun q => q.2.o) := by
              have h8 : WVs G5 (kv.map (·.2)) ((psOf ps (ys.take i)).map (·.2)) := by
                unfold WVs
                rw [W.os_map, List.map_map]
                exact hvv.ext e5
              have h9 := WVs.tx tx h8
              unfold WVs at h9
              rw [W.os_map, List.map_map] at h9
              exact h9
            have e10 : putK kv (Sum.inr pr.1) u = kv ++ [(Sum.inr pr.1, u)] := putK_new (valV_no (by
              rw [hkk]
              intro z
              obtain ⟨s2, hs2, e⟩ := List.mem_map.mp z
              obtain rfl := Sum.inr.inj e
              exact not_take_mem hyn hy hs2))
            rw [e10]
            exact OVs.append h7 (.cons (WV.tx (w := pr.2) tx hu) .nil)
        · rintro G ⟨eG, kv, hkv, hkk, hvv⟩
          have hyl : (ys.map V.str).length = ys.length := List.length_map _
          rw [hyl, List.take_length] at hkk hvv
          refine fin Dl G ys hDH (x1.trans eG) hperm hsort ⟨⟨kv, hkv, ?_, ?_⟩, ?_⟩
          · rw [hkk, List.map_map]
            unfold psOf
            rw [List.map_map]
            rfl
          · rw [List.map_map]
            exact hvv
          · rw [List.map_map]
            unfold psOf
            rw [List.map_map]
            exact nodup_inr hyn
end
end K24

set_option Elab.async false
set_option linter.all false
set_option maxRecDepth 100000
set_option maxHeartbeats 4000000
/-! The law's words put. -/
namespace K24
open PySem PySem.Spec PyProof.Rows L2 Evl
section
variable {P : Program} {w : World} {K : PySem.W.Frag} {mg : Str → Option Value} {base : Heap}
abbrev nLp : List Str := ["_law_word", "_law_words", "_law_part"]
theorem sc_lp : FnScope nLp ["_law_word", "_law_words"] (defScope s__law_d_put) := ⟨rfl, rfl, rfl, by decide +kernel, rfl, by decide +kernel, by decide +kernel⟩
theorem ok_law_put (T : T24 P w K mg base) : ∀ m, Ok P w K mg base CX0 "_law_d_put" ["_law_word", "_law_words"] (m + 1) (spEx m)
  | 0 => T.ok 31 rfl sc_lp (fun vs H Q E h => by obtain ⟨u, d, z, ps, rfl, _⟩ := h; rfl) (fun kV doc pm an cdv ct us hl => match us, hl with | [_, _], _ => rfl) (fun f cdv A outer s H vs Q E hr h => by obtain ⟨u, d, z, ps, _, _, _, h0, _⟩ := h; exact absurd h0 (Nat.not_lt_zero _))
  | m + 1 => by
    obtain ⟨fR, dR, GR, bR, kR, mR⟩ := (ok_law_put T m).ex
    refine T.ok 31 rfl sc_lp (fun vs H Q E h => ?_) (fun kV doc pm an cdv ct us hl => match us, hl with | [_, _], _ => rfl) (fun f cdv A outer s H vs Q E hr h => ?_)
    · obtain ⟨u, d, z, ps, rfl, _⟩ := h
      rfl
    · obtain ⟨u, d, z, ps, rfl, hw, hd, hz, hm, hs, k⟩ := h
      refine ⟨_, pss_cons (ps_if (pt_val (pe_isiB T.isi T.str PyProof.Rows.boot_str (pv 0))) (pss_one (ps_ret (pe_ifExp (pt_cmp (pc_din (hu_of hr) (pv 0) (pv 1))) (pe_dget (hu_of hr) (pv 1) (pv 0) (fun _ _ => rfl)) (pv 0)))) pss_nil)
        (pss_one (ps_ret (pe_op op_catT (pe_tup (pa_cons (pe_ix ix_tup (pv 0) pe_int (fun _ _ => rfl)) pa_nil))
          (pe_callTy call_tuple_of (by rfl) T.tuple PyProof.Rows.boot_tuple (pa_cons (pe_lc (own := [("_law_part", 2)]) (g := gName 2) (tt := tYes) (te := tCall (spEx m) [] E0 (tCons (tVar 2) (tCons (tVar 1) tNil))) rfl sc_lp.nd (pi_tup (pe_slice sl_tup (pv 0) (po_some pe_int) po_none)) (blkOk_by (N := nLp) (sc := defScope s__law_d_put) (by decide +kernel))
            (fun _ _ _ _ _ => pg_name (i := 2) sc_lp.nd rfl (Or.inl rfl)) (fun _ _ _ _ _ => pts_nil) (fun _ _ _ _ _ => pe_call GR hr (by rfl) mR kR bR .nil pass0 (pa_cons (pv 2) (pa_cons (pv 1) pa_nil)))) pa_nil))))), ?_⟩
      obtain ⟨kvs, hk1, hk2, hk3, hk4, hk5, hk6⟩ := hd.get
      cases z with
      | v sv =>
        obtain rfl : u = .str sv := hw
        refine q_when (b := true) (et_B (ev_isStr (o := .str sv) (ev_var rfl) rfl)) (fun _ H1 e1 => ?_) fun z => nomatch z
        refine ⟨.str sv, rfl, .ref d, rfl, d, valV kvs (Sum.inr sv : Key), rfl, .inl ⟨kvs, Sum.inr sv, .inl (e1 _ _ hk1), rfl, rfl⟩, _, rfl, ?_⟩
        cases hl : lk ps sv with
        | some x =>
          obtain ⟨v, hv, hwv⟩ := hk5 sv x hl
          rw [hv]
          refine ⟨.ref d, rfl, .str sv, rfl, d, v, rfl, .inl ⟨kvs, Sum.inr sv, .inl (e1 _ _ hk1), rfl, hv.symm⟩, k v H1 e1 ?_⟩
          show WV H1 v ((lk ps sv).getD (.v sv))
          rw [hl]
          exact hwv.ext e1
        | none =>
          rw [hk6 sv hl]
          refine ⟨.str sv, rfl, k (.str sv) H1 e1 ?_⟩
          show WV H1 (.str sv) ((lk ps sv).getD (.v sv))
          rw [hl]
          rfl
      | n sn as =>
        obtain ⟨r, us, rfl, hr1, hu⟩ := hw.tup
        have hul := hu.length
        have hdp : W.dps as < m := by have : (W.n sn as).dp = W.dps as + 1 := rfl; omega
        have hsz : W.szs as + 2 ≤ 9000 := hs
        have hasl := W.len_szs as
        refine q_when (b := false) (et_B (ev_isStr (o := (W.n sn as).o) (ev_var rfl) hw)) (fun z => nomatch z) fun _ H1 e1 => ?_
        have st1 := st_of (K := K) (e1 _ _ hr1)
        refine ev_op (z := .str sn) (ev_var (i := 0) rfl) ev_c (rv_ixT st1 (atI_nat (j := 0) rfl)) H1 (Ex.refl _) _ fun H2 e2 => ?_
        refine ⟨by show 1 ≤ sizeLine; decide, fun pt hpt => ?_⟩
        have x3 : Ex H2 (upd H2 pt (.tup [.str sn])) := Ex.new hpt
        have e3 := (e1.trans e2).trans x3
        have hpt3 : (upd H2 pt (.tup [.str sn])) pt = some (.tup [.str sn]) := upd_same
        generalize upd H2 pt (.tup [.str sn]) = H3 at x3 e3 hpt3
        refine eu_tail (K := K) (te := tVar 0) (σ := [some (.ref r), some (.ref d), none]) (H := H3) (a := r) (x := .str sn) (xs := us) (ev_var rfl) (st_of (e3 _ _ hr1)) H3 (Ex.refl _) _ fun c H4 nc e4 hc => ?_
        have e14 := e3.trans e4
        refine ⟨c, rfl, ⟨us, st_of hc⟩, fun Dl hD => ?_⟩
        refine lc_tup (xs := us) (fun i J => Ex H4 J ∧ ∃ acc, J Dl = some (.lst acc) ∧ acc.length = i ∧ WVs J acc (W.subs (lk ps) (as.take i))) ⟨Ex.new hD, [], upd_same, rfl, rfl⟩ (fun i J _ q => st_of (q.1 _ _ hc)) (fun i x J hx q => ?_) (fun J q => ?_)
        · obtain ⟨eJ, acc, hJ, hal, hacc⟩ := q
          refine ⟨rfl, ?_⟩
          unfold tYes
          dsimp only
          rw [if_pos rfl]
          obtain ⟨y, hy, hwy⟩ := hu.getv hx
          have hyd := W.lt_dp hy
          have hys := W.lt_sz hy
          have hil := (List.getElem?_eq_some_iff.mp hy).1
          have eA := e14.trans eJ
          refine ⟨x, rfl, .ref d, rfl, x, d, y, ps, rfl, hwy.ext eA, hd.ext eA, by omega, by omega, by omega, fun r5 G5 e5 h5 => ?_⟩
          have hJ5 := e5 _ _ hJ
          have tx := Tx.lst (o := .lst (acc ++ [r5])) hJ5
          refine ⟨acc, hJ5, sz_lt (by omega), Ex.mut (eJ.trans e5) hD, acc ++ [r5], upd_same, by simp [hal], ?_⟩
          rw [take_snoc hy, subs_map, List.map_append, ← subs_map]
          unfold WVs
          rw [W.os_map, List.map_append, ← W.os_map]
          exact OVs.append (WVs.tx tx (WVs.ext e5 hacc)) (.cons (WV.tx tx h5) .nil)
        · obtain ⟨eJ, acc, hJ, hal, hacc⟩ := q
          rw [hul, List.take_length] at hacc
          refine ⟨Dl, acc, rfl, .inl ⟨sq_of hJ, fun pu hpu => ?_⟩⟩
          have hptJ := (e4.trans eJ) _ _ hpt3
          have x5 : Ex J (upd J pu (.tup acc)) := Ex.new hpu
          have eA := e14.trans eJ
          refine ⟨pt, pu, [.str sn], acc, rfl, rfl, st_of (x5 _ _ hptJ), st_of upd_same, by simp, sz_of (by simp; omega), fun z => ?_, fun _ pr hpr => ?_⟩
          · subst z
            have h0 : as = [] := List.length_eq_zero_iff.mp (by rw [← hul]; exact hal.symm)
            subst h0
            exact k (.ref pt) _ (eA.trans x5) (WV.of (us := []) (x5 _ _ hptJ) rfl)
          · have x6 : Ex (upd J pu (.tup acc)) (upd (upd J pu (.tup acc)) pr (.tup ([.str sn] ++ acc))) := Ex.new hpr
            have x56 := x5.trans x6
            exact k (.ref pr) _ (eA.trans x56) (WV.of upd_same (WVs.ext x56 hacc))
end
end K24

set_option Elab.async false
set_option linter.all false
set_option maxRecDepth 100000
set_option maxHeartbeats 4000000
/-! A dict put into a new one, as {**a, **b} does. -/
namespace K24
open PySem PySem.Spec PyProof.Rows L2 Evl
section
variable {P : Program} {w : World} {A : Around} {E : Value → Shared → Prop} {s : Shared}
theorem wpAny_dictPut_pairs {d : Addr} {kvs : List (Key × Value)} {k : Key} {key v : Value} {Q : Unit → Shared → Prop} (hkey : (mixKind P w).is k key = true) (hm : s.heap.DictOf (mixKind P w) d kvs)
    (hQ : ∀ h', h'.DictOf (mixKind P w) d (stored kvs k v) → Heap.SameBut d s.heap h' → Q () { s with heap := h' }) (hsz : kvs.length ≤ sizeLine) :
    wpAny (model P w) A (dictPut d ((mixKind P w).hash k) key v) Q E s := by
  obtain ⟨o, es, ep, ho, hc, hd, hk, hp, hn⟩ := hm
  have hes : es.size ≤ sizeLine := by
    have e1 := hp.length
    have e2 : es.toList.length = es.size := by simp
    omega
  unfold dictPut
  refine wpAny_bind (wpAny_dictFind_of hkey ho hd hk ?_)
  have hidx : (es.findIdx? fun e => (mixKind P w).is k e.key) = kvs.findIdx? fun kv => decide (kv.1 = k) := by
    rw [← hp.findIdx k]; obtain ⟨l⟩ := es; simp
  cases hi : es.findIdx? fun e => (mixKind P w).is k e.key with
  | some i =>
    refine wpAny_updateDict ho hd (hQ _ ⟨_, _, ep, Heap.get?_update_self _ ho (Obj.isFreed_of_dict (Obj.data_mapDict hd _)),
      hc.mapDict _, Obj.data_mapDict hd _, hk.modify _ _, ?_, ?_⟩ (Heap.SameBut.update ..))
    · rw [stored, if_pos (any_of_findIdx_some (hidx ▸ hi))]
      have hl : (es.toList.findIdx? fun e => (mixKind P w).is k e.key) = some i := by rw [← hi]; obtain ⟨l⟩ := es; simp
      have := hp.modify hn hl v
      obtain ⟨l⟩ := es
      simpa using this
    · rw [stored, if_pos (any_of_findIdx_some (hidx ▸ hi)), keys_map_store]; exact hn
  | none =>
    have hnot : k ∉ kvs.map (·.1) := not_mem_of_findIdx_none (hidx ▸ hi)
    have hany : ¬ (kvs.any fun kv => decide (kv.1 = k)) = true := by
      rw [List.any_eq_true]; rintro ⟨kv, hkv, he⟩
      exact hnot (List.mem_map.mpr ⟨kv, hkv, of_decide_eq_true he⟩)
    refine wpAny_updateDictKeys (hz := hes) ho hd (hQ _ ⟨_, _, ep + 1, Heap.get?_update_self _ ho (Obj.isFreed_of_dict (Obj.data_mapDictKeys hd _)),
      hc.mapDictKeys _, Obj.data_mapDictKeys hd _, hk.push hkey _, ?_, ?_⟩ (Heap.SameBut.update ..))
    · rw [stored, if_neg hany]
      have := hp.append hkey ((mixKind P w).hash k) v
      obtain ⟨l⟩ := es
      simpa using this
    · rw [stored, if_neg hany, List.map_append, List.nodup_append]
      refine ⟨hn, by simp, ?_⟩
      intro a ha b hb
      simp only [List.map_cons, List.map_nil, List.mem_singleton] at hb
      subst hb
      exact fun e => hnot (e ▸ ha)
theorem wpAny_mergeMapping {d o : Addr} {kvs more : List (Key × Value)} {Q : Unit → Shared → Prop} (hdo : d ≠ o) (hoS : (o == sysModules) = false) (hd : s.heap.DictOf (mixKind P w) d kvs) (ho : s.heap.DictOf (mixKind P w) o more)
    (hQ : ∀ h', h'.DictOf (mixKind P w) d (merged kvs more) → h'.DictOf (mixKind P w) o more → Heap.SameBut d s.heap h' → Q () { s with heap := h' }) (hsz : kvs.length + more.length ≤ sizeLine) :
    wpAny (model P w) A (mergeMapping d (.ref o) false) Q E s := by
  unfold mergeMapping
  refine wpAny_bind (wpAny_isInstance ho.typeIs isSubtype_dict_dict ?_)
  dsimp only
  rw [if_pos rfl]
  refine wpAny_bind (wpAny_specialOf ho.typeIs F.slot_dict_iter.lookup (wpAny_bind (wpAny_pure ?_)))
  obtain ⟨oo, eso, epo, hoo, hco, hdo', hko, hpo, hno⟩ := id ho
  obtain ⟨od, esd, epd, hod, hcd, hdd, hkd, hpd, hnd⟩ := id hd
  rw [beq_self_eq_true]
  dsimp only
  rw [if_neg (by rw [hoS]; exact Bool.false_ne_true)]
  have hlen : more.length = eso.size := by rw [← hpo.length]; simp
  have loop : wpAny (model P w) A (do
      let es' ← dictEntries o
      let epoch ← dictEpoch o
      forIn (List.range es'.size) PUnit.unit fun i (_ : PUnit) => (do
          let l' ← dictEntries o
          match l'[i]? with
            | some e => do
              holding [e.key, e.val]
                  (if false = true then do
                    let r ← dictFind d e.key e.hash
                    if r.isSome = true then do
                        rule "dict.merge.duplicate-key"
                        let x ← newExc (Value.type "KeyError") [e.key]
                        raiseNew x
                        dictPut d e.hash e.key e.val
                      else dictPut d e.hash e.key e.val
                  else dictPut d e.hash e.key e.val)
              let ep' ← dictEpoch o
              if (ep' != epoch) = true then do
                  (unsupported "dict.changed-during-merge" : Sem PUnit)
                  pure (ForInStep.yield PUnit.unit)
                else pure (ForInStep.yield PUnit.unit)
            | _ => do
              (unsupported "dict.changed-during-merge" : Sem PUnit)
              pure (ForInStep.yield PUnit.unit) : Sem (ForInStep PUnit))
      pure ()) Q E s := by
    refine wpAny_bind (wpAny_dictEntries hoo hdo' ?_)
    refine wpAny_bind (wpAny_dictEpoch hoo hdo' ?_)
    refine wpAny_bind ?_
    rw [List.range_eq_range']
    refine wpAny_forIn_list _
      (fun rest _ s' => ∃ h' i, s' = { s with heap := h' } ∧ rest = List.range' i (eso.size - i) ∧ i ≤ eso.size ∧ h'.DictOf (mixKind P w) d (merged kvs (more.take i)) ∧ h'.get? o = some oo ∧ Heap.SameBut d s.heap h')
      _ ?_ ?_ _ _ ⟨s.heap, 0, rfl, by simp, Nat.zero_le _, by simpa [merged] using hd, hoo, Heap.SameBut.refl _ _⟩
    · rintro x rest b s' ⟨h', i, rfl, hr, hi, hd', hoo', hs'⟩
      have hlt : i < eso.size := by
        rcases Nat.lt_or_ge i eso.size with h | h
        · exact h
        · rw [Nat.sub_eq_zero_of_le h] at hr; simp at hr
      obtain ⟨rfl, hrest⟩ : x = i ∧ rest = List.range' (i + 1) (eso.size - (i + 1)) := by
        have e : eso.size - i = (eso.size - (i + 1)) + 1 := by omega
        rw [e, List.range'_succ] at hr
        injection hr with h1 h2
        exact ⟨h1, h2⟩
      refine wpAny_bind (wpAny_dictEntries hoo' hdo' ?_)
      rw [Array.getElem?_eq_getElem hlt]
      obtain ⟨kv, hkv⟩ : ∃ kv, more[x]? = some kv := ⟨more[x]'(by rw [hlen]; exact hlt), List.getElem?_eq_getElem _⟩
      obtain ⟨k, v⟩ := kv
      obtain ⟨hkey, hval⟩ := hpo.get? (e := eso[x]) (by simp [hlt]) hkv
      obtain ⟨k', hkey', hhash⟩ := hko eso[x] (Array.getElem_mem hlt)
      obtain rfl : k' = k := (mixKind P w).inj _ _ _ hkey' hkey
      dsimp only
      rw [if_neg Bool.false_ne_true, hhash, hval]
      have hmx : (merged kvs (more.take x)).length ≤ sizeLine := by
        have e1 := merged_length_le kvs (more.take x)
        have e2 : (more.take x).length ≤ more.length := by rw [List.length_take]; omega
        omega
      refine wpAny_bind (wpAny_holding (wpAny_dictPut_pairs (hsz := hmx) hkey hd' fun h'' hd'' hs'' => ?_))
      have hoo'' : h''.get? o = some oo := (hs''.2 o (Ne.symm hdo)).trans hoo'
      refine wpAny_bind (wpAny_dictEpoch hoo'' hdo' ?_)
      rw [if_neg (by simp)]
      exact wpAny_pure ⟨h'', x + 1, rfl, hrest, hlt, by rw [merged_take_succ kvs more x (k', v) hkv]; exact hd'', hoo'', hs'.trans hs''⟩
    · rintro b s' ⟨h', i, rfl, hr, hi, hd', hoo', hs'⟩
      have hin : i = eso.size := by
        rcases Nat.lt_or_ge i eso.size with h | h
        · have e : eso.size - i = (eso.size - (i + 1)) + 1 := by omega
          rw [e, List.range'_succ] at hr; exact nomatch hr
        · exact Nat.le_antisymm hi h
      refine wpAny_pure (hQ h' ?_ ⟨oo, eso, epo, hoo', hco, hdo', hko, hpo, hno⟩ hs')
      rw [hin, ← hlen, List.take_length] at hd'; exact hd'
  refine wpAny_bind (wpAny_dictEntries hod hdd ?_)
  split
  · refine wpAny_bind (wpAny_dictEntries hoo hdo' ?_)
    refine wpAny_bind ?_
    refine wpAny_of_eq (a := PUnit.unit) ?_ loop
    rw [← Array.forIn_toList]
    refine forIn_yield_id _ fun e he c => ?_
    obtain ⟨k, hkey, _⟩ := hko e (Array.mem_toList_iff.mp he)
    have hb := (mixKind P w).byValue k _ hkey
    cases hv : e.key <;> rw [hv] at hb <;> first | rfl | exact nomatch hb | (simp [carriedByValue] at hb)
  · exact loop
end
end K24

set_option Elab.async false
set_option linter.all false
set_option maxRecDepth 100000
set_option maxHeartbeats 4000000
/-! {**a, **b}. -/
namespace K24
open PySem PySem.Spec PyProof.Rows L2 Evl
section
variable {X : Cx} {pins : List (Addr × Obj)} {σ : L2.St} {H : Hp} {s : Shared} {E : Value → Shared → Prop} {D b : Addr}
theorem merge_at {kvs more : List (Key × V)} {Q : Unit → Shared → Prop} (I : Inv X pins σ H s) (hD : H D = some (HO.dK kvs)) (hb : L2.Rd H b (HO.dK more)) (hne : D ≠ b) (hz : kvs.length + more.length ≤ sizeLine)
    (h : ∀ s', Inv X pins σ (upd H D (HO.dK (mergeK kvs more))) s' → Q () s') : wpAny (model X.prog X.w) X.A (mergeMapping D (.ref b) false) Q E s := by
  obtain ⟨z, hd, vs, rel, dd⟩ := dk_of I.hok hD
  obtain ⟨z2, hd2, ws, rel2, dd2⟩ := dk_rd I.hok hb
  refine wpAny_mergeMapping hne hd2 dd dd2 (fun h' dd' _ hs => h _ ?_) (by rw [← rel.length, ← rel2.length]; exact hz)
  have he : ∃ q, h'.get? D = some q := let ⟨q, _, _, hq, _⟩ := dd'; ⟨q, hq⟩
  have hl : (mergeK kvs more).length ≤ sizeLine := Nat.le_trans (length_mergeK more kvs) hz
  exact d_write I (by rw [hD]; exact True.intro) hs he (dk_new hl hd (rel2.merge rel) dd')
/-- {**a, **b}, keys ints and texts: D the new dict -/
def tStar2 (t1 t2 : TE) : TE := fun σ H Q => ∀ D, H D = none → t1 σ (upd H D (HO.dK [])) fun x H1 => ∃ b kvs, x = .ref b ∧ H1 D = some (HO.dK []) ∧ D ≠ b ∧ L2.Rd H1 b (HO.dK kvs) ∧ kvs.length ≤ 10000 ∧
  t2 σ (upd H1 D (HO.dK (mergeK [] kvs))) fun y H2 => ∃ c more, y = .ref c ∧ H2 D = some (HO.dK (mergeK [] kvs)) ∧ D ≠ c ∧ L2.Rd H2 c (HO.dK more) ∧ more.length ≤ 10000 ∧ Q (.ref D) (upd H2 D (HO.dK (mergeK (mergeK [] kvs) more)))
theorem pe_star2 {e1 e2 : Expr} {pos : Pos} {t1 t2 : TE} (h1 : PE X e1 t1) (h2 : PE X e2 t2) : PE X (.Dict [none, none] [e1, e2] pos) (tStar2 t1 t2) := by
  refine ⟨fun pins s σ H Q I q => ?_⟩
  have hn := I.hok.fresh (Nat.le_refl s.heap.objs.size)
  have I1 := I.laid (a := s.heap.objs.size) (o := .dK []) (h' := s.heap.push { cls := .type "dict", data := .dict #[] }) (t' := s.toks) (fun _ _ q => Heap.get?_push_of_some _ q) (Nat.le_refl _) (dk_empty s.heap I.big)
  rw [arm_eval_Dict]
  refine wpAny_bind (wpAny_standAt ?_)
  show wpAny _ _ (dictDisplay [(none, do let x ← eval e1 X.env; standAt pos; pure x), (none, do let x ← eval e2 X.env; standAt pos; pure x)]) _ _ _
  unfold dictDisplay
  dsimp only
  simp only [List.forIn_cons, List.forIn_nil, List.isEmpty_nil, if_true]
  refine wpAny_bind (wpAny_bind (wpAny_bind (wpAny_pure ?_)))
  try dsimp only
  refine wpAny_bind (wpAny_alloc ?_)
  refine wpAny_bind (wpAny_holding (wpAny_bind (thn (h1.run pins _ σ _ _ I1 (q _ hn)) fun u s2 ⟨x, H1, I2, rx, b, kvs, ex, hD, hne, hb, hl, q2⟩ => ?_)))
  subst ex
  obtain rfl : u = Value.ref b := rx
  refine wpAny_bind (wpAny_standAt (wpAny_pure ?_))
  refine wpAny_bind (wpAny_onRaise (wpAny_tryCatch (wpAny_onRaise (wpAny_holding (merge_at I2 hD hb hne (by rw [sizeLine_eq, List.length_nil]; omega) fun s3 I3 => ?_)))))
  refine wpAny_pure ?_
  dsimp only
  simp only [List.isEmpty_nil, if_true]
  have l1 : (mergeK [] kvs).length ≤ 10000 := by
    have := length_mergeK kvs []
    rw [List.length_nil] at this; omega
  refine wpAny_bind (wpAny_bind (wpAny_pure ?_))
  try dsimp only
  refine wpAny_bind (wpAny_pure ?_)
  refine wpAny_bind (wpAny_holding (wpAny_bind (thn (h2.run pins _ σ _ _ I3 q2) fun u s4 ⟨y, H2, I4, ry, c, more, ey, hD2, hne2, hc, hl2, q3⟩ => ?_)))
  subst ey
  obtain rfl : u = Value.ref c := ry
  refine wpAny_bind (wpAny_standAt (wpAny_pure ?_))
  refine wpAny_bind (wpAny_onRaise (wpAny_tryCatch (wpAny_onRaise (wpAny_holding (merge_at I4 hD2 hc hne2 (by rw [sizeLine_eq]; omega) fun s5 I5 => ?_)))))
  refine wpAny_pure ?_
  refine wpAny_pure ?_
  dsimp only
  simp only [List.isEmpty_nil, if_true]
  refine wpAny_bind (wpAny_pure ?_)
  exact wpAny_pure ⟨.ref s.heap.objs.size, _, I5, rfl, q3⟩
end
end K24

set_option Elab.async false
set_option linter.all false
set_option maxRecDepth 100000
set_option maxHeartbeats 4000000
/-! What a merged dict holds; how deep a word is in which words are put. -/
namespace K24
open PySem PySem.Spec PyProof.Rows L2 Evl
theorem mem_putK {kvs : List (Key × V)} {k j : Key} {v : V} : j ∈ (putK kvs k v).map (·.1) ↔ j ∈ kvs.map (·.1) ∨ j = k := by
  unfold putK
  split
  · rename_i h
    have e : (kvs.map fun kv => if kv.1 = k then (kv.1, v) else kv).map (·.1) = kvs.map (·.1) := by
      rw [List.map_map]
      refine List.map_congr_left fun p _ => ?_
      show (if p.1 = k then (p.1, v) else p).1 = p.1
      split <;> rfl
    rw [e]
    constructor
    · exact .inl
    · rintro (h1 | rfl)
      · exact h1
      · obtain ⟨p, hp, hk⟩ := List.any_eq_true.mp h
        exact List.mem_map.mpr ⟨p, hp, of_decide_eq_true hk⟩
  · rw [List.map_append, List.mem_append]
    simp
theorem nodup_putK {kvs : List (Key × V)} {k : Key} {v : V} (h : (kvs.map (·.1)).Nodup) : ((putK kvs k v).map (·.1)).Nodup := by
  unfold putK
  split
  · rename_i h1
    have e : (kvs.map fun kv => if kv.1 = k then (kv.1, v) else kv).map (·.1) = kvs.map (·.1) := by
      rw [List.map_map]
      refine List.map_congr_left fun p _ => ?_
      show (if p.1 = k then (p.1, v) else p).1 = p.1
      split <;> rfl
    rw [e]; exact h
  · rename_i h1
    rw [List.map_append, List.nodup_append]
    refine ⟨h, by simp, fun a ha b hb e => h1 ?_⟩
    simp only [List.map_cons, List.map_nil, List.mem_singleton] at hb
    subst hb e
    obtain ⟨p, hp, e⟩ := List.mem_map.mp ha
    exact List.any_eq_true.mpr ⟨p, hp, decide_eq_true e⟩
theorem mem_mergeK {j : Key} : ∀ {more kvs : List (Key × V)}, j ∈ (mergeK kvs more).map (·.1) ↔ j ∈ kvs.map (·.1) ∨ j ∈ more.map (·.1)
  | [], kvs => by show j ∈ kvs.map (·.1) ↔ _; simp
  | p :: r, kvs => by
    show j ∈ (mergeK (putK kvs p.1 p.2) r).map (·.1) ↔ _
    rw [mem_mergeK, mem_putK, List.map_cons, List.mem_cons, or_assoc]
theorem nodup_mergeK : ∀ {more kvs : List (Key × V)}, (kvs.map (·.1)).Nodup → ((mergeK kvs more).map (·.1)).Nodup
  | [], kvs, h => h
  | p :: r, kvs, h => nodup_mergeK (more := r) (kvs := putK kvs p.1 p.2) (nodup_putK h)
theorem valV_merge {j : Key} : ∀ {more kvs : List (Key × V)}, (more.map (·.1)).Nodup → valV (mergeK kvs more) j = (valV more j).or (valV kvs j)
  | [], kvs, _ => rfl
  | p :: r, kvs, h => by
    rw [List.map_cons, List.nodup_cons] at h
    show valV (mergeK (putK kvs p.1 p.2) r) j = _
    rw [valV_merge h.2, valV_put]
    by_cases e : p.1 = j
    · have hn : valV r j = none := valV_no (by rw [← e]; exact h.1)
      rw [valV_pos e, hn, if_pos e.symm]
      rfl
    · rw [valV_neg e, if_neg (fun z => e z.symm)]
mutual
theorem W.dp_sub {f : Str → Option W} {m : Nat} (h : ∀ s z, f s = some z → z.dp ≤ m) : ∀ z : W, (z.sub f).dp ≤ z.dp + m
  | .v s => by
    show ((f s).getD (.v s)).dp ≤ _
    cases e : f s with
    | none => exact Nat.le_add_right _ _
    | some x =>
      have := h s x e
      show x.dp ≤ _
      omega
  | .n s as => by
    have := W.dps_sub h as
    show W.dps (W.subs f as) + 1 ≤ W.dps as + 1 + m
    omega
theorem W.dps_sub {f : Str → Option W} {m : Nat} (h : ∀ s z, f s = some z → z.dp ≤ m) : ∀ zs : List W, W.dps (W.subs f zs) ≤ W.dps zs + m
  | [] => Nat.zero_le _
  | x :: xs => by
    have h1 := W.dp_sub h x
    have h2 := W.dps_sub h xs
    show max (x.sub f).dp (W.dps (W.subs f xs)) ≤ max x.dp (W.dps xs) + m
    omega
end
mutual
theorem W.ss_sub {f : Str → Option W} (h : ∀ s z, f s = some z → z.o.ss = true) : ∀ z : W, z.o.ss = true → (z.sub f).o.ss = true
  | .v s, k => by
    show (((f s).getD (.v s)).o).ss = true
    cases e : f s with
    | none => exact k
    | some x => exact h s x e
  | .n s as, k => by
    have k : (SS.contains s && O.sss (W.os as)) = true := k
    show (SS.contains s && O.sss (W.os (W.subs f as))) = true
    rw [Bool.and_eq_true] at k ⊢
    exact ⟨k.1, W.sss_sub h as k.2⟩
theorem W.sss_sub {f : Str → Option W} (h : ∀ s z, f s = some z → z.o.ss = true) : ∀ zs : List W, O.sss (W.os zs) = true → O.sss (W.os (W.subs f zs)) = true
  | [], _ => rfl
  | x :: xs, k => by
    have k : (x.o.ss && O.sss (W.os xs)) = true := k
    show ((x.sub f).o.ss && O.sss (W.os (W.subs f xs))) = true
    rw [Bool.and_eq_true] at k ⊢
    exact ⟨W.ss_sub h x k.1, W.sss_sub h xs k.2⟩
end
theorem lk_mem {ps : List (Str × W)} {s : Str} {z : W} (h : lk ps s = some z) : (s, z) ∈ ps := by
  unfold lk at h
  cases hf : ps.find? (fun p => decide (p.1 = s)) with
  | none => rw [hf] at h; cases h
  | some p =>
    rw [hf] at h
    obtain rfl : p.2 = z := Option.some.inj h
    have e : p.1 = s := by have := List.find?_some hf; exact of_decide_eq_true this
    subst e
    exact List.mem_of_find?_eq_some hf
/-- what a variable becomes by one substitution and then another -/
def bh (ps qs : List (Str × W)) (s : Str) : W := ((W.v s).sub (lk ps)).sub (lk qs)
def outB (ps qs : List (Str × W)) : List Str → List (Str × W)
  | [] => []
  | s :: r => if (bh ps qs s).beq (.v s) then outB ps qs r else (s, bh ps qs s) :: outB ps qs r
theorem outB_append (ps qs : List (Str × W)) (s : Str) : ∀ ys : List Str, outB ps qs (ys ++ [s]) = outB ps qs ys ++ (if (bh ps qs s).beq (.v s) then [] else [(s, bh ps qs s)])
  | [] => by show (if _ then _ else _) = _; split <;> rfl
  | a :: r => by
    show (if (bh ps qs a).beq (.v a) then outB ps qs (r ++ [s]) else (a, bh ps qs a) :: outB ps qs (r ++ [s])) = _
    rw [outB_append ps qs s r]
    show _ = (if (bh ps qs a).beq (.v a) then outB ps qs r else (a, bh ps qs a) :: outB ps qs r) ++ _
    split <;> rfl
theorem outB_sub {ps qs : List (Str × W)} {s : Str} : ∀ {ys : List Str}, s ∈ (outB ps qs ys).map (·.1) → s ∈ ys
  | [], h => h
  | a :: r, h => by
    have h : s ∈ (if (bh ps qs a).beq (.v a) then outB ps qs r else (a, bh ps qs a) :: outB ps qs r).map (·.1) := h
    split at h
    · exact List.mem_cons_of_mem _ (outB_sub h)
    · rw [List.map_cons] at h
      rcases List.mem_cons.mp h with rfl | h
      · exact List.mem_cons_self
      · exact List.mem_cons_of_mem _ (outB_sub h)
theorem outB_nodup {ps qs : List (Str × W)} : ∀ {ys : List Str}, ys.Nodup → ((outB ps qs ys).map (·.1)).Nodup
  | [], _ => List.nodup_nil
  | a :: r, h => by
    rw [List.nodup_cons] at h
    show ((if (bh ps qs a).beq (.v a) then outB ps qs r else (a, bh ps qs a) :: outB ps qs r).map (·.1)).Nodup
    split
    · exact outB_nodup h.2
    · rw [List.map_cons, List.nodup_cons]
      exact ⟨fun z => h.1 (outB_sub z), outB_nodup h.2⟩
end K24

set_option Elab.async false
set_option linter.all false
set_option maxRecDepth 100000
set_option maxHeartbeats 4000000
/-! behind. -/
namespace K24
open PySem PySem.Spec PyProof.Rows L2 Evl
theorem lk_map (f : W → W) : ∀ (ps : List (Str × W)) (s : Str), lk (ps.map fun q => (q.1, f q.2)) s = (lk ps s).map f
  | [], _ => rfl
  | a :: r, s => by
    have ih := lk_map f r s
    unfold lk at ih ⊢
    rw [List.map_cons, List.find?_cons, List.find?_cons]
    by_cases e : a.1 = s
    · rw [decide_eq_true e]; rfl
    · rw [decide_eq_false e]; exact ih
theorem SubV.tx {H G : Hp} {d : Addr} {ps : List (Str × W)} (h : SubV H d ps) (t : Tx H G) (e : ∀ o, H d = some o → G d = some o) : SubV G d ps := by
  obtain ⟨kvs, a, b, c⟩ := h.ex
  refine ⟨⟨kvs, e _ a, b, ?_⟩, h.nd⟩
  have c' : WVs H (kvs.map (·.2)) (ps.map (·.2)) := by
    unfold WVs
    rw [W.os_map, List.map_map]
    rw [List.map_map] at c
    exact c
  have q := WVs.tx t c'
  unfold WVs at q
  rw [W.os_map, List.map_map] at q
  rw [List.map_map]
  exact q
theorem SubV.of {H : Hp} {d : Addr} {ps : List (Str × W)} {kv : List (Key × V)} (h : H d = some (.dK kv)) (k : kv.map (·.1) = ps.map (fun p => (Sum.inr p.1 : Key))) (nd : (ps.map (·.1)).Nodup) (o : OVs H (kv.map (·.2)) (ps.map fun q => q.2.o)) : SubV H d ps := by
  refine ⟨⟨kv, h, ?_, ?_⟩, ?_⟩
  · rw [k, List.map_map]
    rfl
  · rw [List.map_map]
    exact o
  · rw [List.map_map]
    have := nodup_inr nd
    rw [List.map_map] at this
    exact this
theorem str_keys {α : Type} : ∀ {M : List (Key × α)}, (∀ k ∈ M.map (·.1), ∃ s : Str, k = Sum.inr s) → ∃ zs : List Str, M.map (·.1) = zs.map (fun s => (Sum.inr s : Key))
  | [], _ => ⟨[], rfl⟩
  | p :: r, h => by
    obtain ⟨s, hs⟩ := h p.1 List.mem_cons_self
    obtain ⟨zs, hz⟩ := str_keys (M := r) fun k hk => h k (List.mem_cons_of_mem _ hk)
    exact ⟨s :: zs, by rw [List.map_cons, List.map_cons, hs, hz]⟩
theorem mem_inr {zs : List Str} {s : Str} : (Sum.inr s : Key) ∈ zs.map (fun s => (Sum.inr s : Key)) ↔ s ∈ zs := by
  constructor
  · intro h
    obtain ⟨b, hb, e⟩ := List.mem_map.mp h
    obtain rfl := Sum.inr.inj e
    exact hb
  · exact fun h => List.mem_map.mpr ⟨s, h, rfl⟩
section
variable {P : Program} {w : World} {K : PySem.W.Frag} {mg : Str → Option Value} {base : Heap}
def spBh (K : PySem.W.Frag) : Sp := fun vs H Q E => ∃ v x, vs = [v, x] ∧ ((NoS H v ∧ Bad K "BadSubstitution" v H E) ∨ ∃ d ps, v = .ref d ∧ SubV H d ps ∧ SbOk ps ∧ (∀ p ∈ ps, p.2.dp < 12) ∧ ((NoS H x ∧ Bad K "BadSubstitution" x H E) ∨ ∃ d2 qs, x = .ref d2 ∧ SubV H d2 qs ∧ SbOk qs ∧ (∀ p ∈ qs, p.2.dp < 12) ∧ ps.length + qs.length < 64 ∧
  ∀ (pd : Addr) (G : Hp) (ys : List Str), H pd = none → Ex H G → ys.Nodup → (∀ s, s ∈ ys ↔ s ∈ ps.map (·.1) ∨ s ∈ qs.map (·.1)) → sortedS ys = true → SubV G pd (outB ps qs ys) → Q (.ref pd) G))
abbrev nBh : List Str := ["first", "later", "ahead", "then", "both", "variable"]
theorem sc_bh : FnScope nBh ["first", "later"] (defScope s_behind) := ⟨rfl, rfl, rfl, by decide +kernel, rfl, by decide +kernel, by decide +kernel⟩
theorem ok_behind (T : T24 P w K mg base) : Ok P w K mg base (L2.CX P w) "behind" ["first", "later"] 14 (spBh K) := by
  obtain ⟨fS, dS, GS, bS, kS, mS⟩ := (ok_checked_sub T).ex
  obtain ⟨fX, dX, GX, bX, kX, mX⟩ := (ok_exchanged T 12).ex
  refine T.okX 25 rfl sc_bh (fun vs H Q E h => ?_) (fun kV doc pm an cdv ct us hl => match us, hl with | [_, _], _ => rfl) (fun f cdv A outer s H vs Q E hr h => ?_)
  · obtain ⟨v, x, rfl, _⟩ := h
    rfl
  obtain ⟨v, x, rfl, h⟩ := h
  refine ⟨_, pss_cons (ps_set (i := 2) sc_bh.nd rfl (by first | exact Or.inl rfl | exact Or.inr rfl) (pe_callS (sp := spCs K) GS (hr.mono (by decide)) (by rfl) mS kS bS (fun σ => passAt (takes_of rfl rfl rfl rfl) σ) (pa_cons (pv 0) pa_nil)))
    (pss_cons (ps_set (i := 3) sc_bh.nd rfl (by first | exact Or.inl rfl | exact Or.inr rfl) (pe_callS (sp := spCs K) GS (hr.mono (by decide)) (by rfl) mS kS bS (fun σ => passAt (takes_of rfl rfl rfl rfl) σ) (pa_cons (pv 1) pa_nil)))
    (pss_cons (ps_set (i := 4) sc_bh.nd rfl (Or.inr rfl) (pe_star2 (pv 3) (pe_lock (pe_dc (own := [("variable", 5)]) (g := gName 5) (tt := tYes) (tk := tVar 5) (tv := tCall (spEx 12) [] E0 (tCons (tDGet (tVar 2) (tVar 5)) (tCons (tVar 3) tNil))) rfl sc_bh.nd (pi_keys (pv 2)) (blkOk_by (N := nBh) (sc := defScope s_behind) (by decide +kernel))
      (fun _ _ _ _ _ => pg_name (i := 5) sc_bh.nd rfl (Or.inl rfl)) (fun _ _ _ _ _ => pts_nil) (fun _ _ _ _ _ => pv 5) (fun _ _ _ _ _ => pe_call GX hr (by rfl) mX kX bX .nil pass0 (pa_cons (pe_dget (hu_of hr) (pv 2) (pv 5) (fun _ _ => rfl)) (pa_cons (pv 3) pa_nil)))))))
    (pss_one (ps_ret (pe_dc (own := [("variable", 5)]) (g := gName 5) (tt := tTest (tOp (rNeD K) (tDGet (tVar 4) (tVar 5)) (tVar 5))) (tk := tVar 5) (tv := tDGet (tVar 4) (tVar 5)) rfl sc_bh.nd (pi_list (pe_callB (call_sortedD rfl) (by rfl) T.sorted (by decide +kernel) (pa_cons (pv 4) pa_nil))) (blkOk_by (N := nBh) (sc := defScope s_behind) (by decide +kernel))
      (fun _ _ _ _ _ => pg_name (i := 5) sc_bh.nd rfl (Or.inl rfl)) (fun _ _ _ _ _ => pts_one (pt_cmpR (op_neD hr.units) (pe_dget (hu_of hr) (pv 4) (pv 5) (fun _ _ => rfl)) (pv 5) (nomark _))) (fun _ _ _ _ _ => pv 5) (fun _ _ _ _ _ => pe_dget (hu_of hr) (pv 4) (pv 5) (fun _ _ => rfl))))))), ?_⟩
  rcases h with ⟨hn, k⟩ | ⟨d, ps, rfl, hd, ok, odp, ⟨hn, k⟩ | ⟨d2, qs, rfl, hd2, ok2, odp2, hlen, k⟩⟩
  · exact ⟨v, rfl, v, rfl, .inr ⟨hn, k⟩⟩
  · exact ⟨.ref d, rfl, .ref d, rfl, .inl ⟨d, ps, rfl, hd, ok, fun p1 G1 ys1 np1 e1 hp1 hs1 hv1 => ⟨x, rfl, x, rfl, .inr ⟨hn.ext e1, k.mono e1⟩⟩⟩⟩
  refine ⟨.ref d, rfl, .ref d, rfl, .inl ⟨d, ps, rfl, hd, ok, fun p1 G1 ys1 np1 e1 hp1 hs1 hv1 => ⟨.ref d2, rfl, .ref d2, rfl, .inl ⟨d2, qs, rfl, hd2.ext e1, ok2, fun p2 G2 ys2 np2 e2 hp2 hs2 hv2 => ?_⟩⟩⟩⟩
  intro D hD
  obtain ⟨kt, ht1, ht2, ht3, ht4, ht5, ht6⟩ := hv2.get
  obtain ⟨ka, ha1, ha2, ha3, ha4, ha5, ha6⟩ := hv1.get
  obtain ⟨_, _, _, _, hndq, _⟩ := hd2.get
  obtain ⟨_, _, _, _, hndp, _⟩ := hd.get
  have hk2 := lk_psOf hndq hp2
  have hk1 := lk_psOf hndp hp1
  rw [psOf_keys] at ht4 ha4
  have hl1 : ys1.length = ps.length := by have := hp1.length_eq; simpa using this
  have hl2 : ys2.length = qs.length := by have := hp2.length_eq; simpa using this
  have hka : ka.length = ps.length := by rw [ha2]; unfold psOf; rw [List.length_map]; exact hl1
  have hkt : kt.length = qs.length := by rw [ht2]; unfold psOf; rw [List.length_map]; exact hl2
  have hDp1 : p1 ≠ D := fun z => by rw [← z, e2 _ _ ha1] at hD; cases hD
  have hDp2 : p2 ≠ D := fun z => by rw [← z, ht1] at hD; cases hD
  refine ⟨.ref p2, rfl, p2, kt, rfl, upd_same, hDp2.symm, .inl (by rw [upd_ne hDp2]; exact ht1), by omega, ?_⟩
  have x3 : Ex G2 (upd (upd G2 D (.dK [])) D (.dK (mergeK [] kt))) := Ex.mut (Ex.new hD) hD
  have hD3 : (upd (upd G2 D (.dK [])) D (.dK (mergeK [] kt))) D = some (.dK (mergeK [] kt)) := upd_same
  generalize upd (upd G2 D (.dK [])) D (.dK (mergeK [] kt)) = H3 at x3 hD3 ⊢
  have hp13 := x3 _ _ (e2 _ _ ha1)
  refine ⟨p1, .dK ka, hp13, trivial, fun od => ?_⟩
  refine ⟨.ref p1, rfl, p1, od, rfl, .inl ⟨ka, upd_same, fun Dl hDl => ?_⟩⟩
  have tx4 : Tx H3 (upd H3 p1 (.frz od (.dK ka))) := Tx.dct hp13
  have h41 : (upd H3 p1 (.frz od (.dK ka))) p1 = some (.frz od (.dK ka)) := upd_same
  have h4D : (upd H3 p1 (.frz od (.dK ka))) D = some (.dK (mergeK [] kt)) := by rw [upd_ne hDp1.symm]; exact hD3
  have hne12 : p2 ≠ p1 := fun z => by rw [z, ha1] at np2; cases np2
  have hv24 : SubV (upd H3 p1 (.frz od (.dK ka))) p2 (psOf qs ys2) := hv2.tx ((Tx.of x3).trans tx4) fun o h => by rw [upd_ne hne12]; exact x3 _ _ h
  have ex4 : Ex H (upd H3 p1 (.frz od (.dK ka))) := fun b o hb => by
    rw [upd_ne (fun z => by rw [z, np1] at hb; cases hb)]
    exact x3 _ _ (e2 _ _ (e1 _ _ hb))
  have back : ∀ b, b ≠ p1 → ∀ o, H3 b = some o → (upd H3 p1 (.frz od (.dK ka))) b = some o := fun b n o h => by rw [upd_ne n]; exact h
  generalize hH4 : upd H3 p1 (.frz od (.dK ka)) = H4 at hDl tx4 h41 h4D hv24 ex4 back ⊢
  have hys1 : ys1.Nodup := hp1.nodup_iff.mpr hndp
  have hkeys : ka.map (·.1) = ys1.map (fun s => (Sum.inr s : Key)) := by
    rw [ha3]
    have := congrArg (List.map fun s => (Sum.inr s : Key)) (psOf_keys ps ys1)
    rw [List.map_map] at this
    exact this
  have hlk1 : ∀ y ∈ ys1, ∃ z, lk ps y = some z ∧ (y, z) ∈ ps := fun y hy => by
    obtain ⟨pr, hpr, rfl⟩ := List.mem_map.mp (hp1.mem_iff.mp hy)
    exact ⟨pr.2, lk_self hndp pr hpr, hpr⟩
  refine dc_it (walk_keys (kvs := ka)) (fun i G => Ex H4 G ∧ ∃ kv, G Dl = some (.dK kv) ∧ kv.map (·.1) = (ys1.take i).map (fun s => (Sum.inr s : Key)) ∧ OVs G (kv.map (·.2)) ((psOf ps (ys1.take i)).map fun q => (q.2.sub (lk qs)).o)) ⟨Ex.new hDl, [], upd_same, by simp, by simp [psOf]; rfl⟩ (fun i G _ c => c.1 _ _ h41) ?_ ?_
  · rintro i x G G' hi ⟨eG, kv, hkv, hkk, hvv⟩ ⟨rfl, kk, yv, hk, rfl⟩
    have hki : (ka.map (·.1))[i]? = some kk := by rw [List.getElem?_map, hk]; rfl
    rw [hkeys, List.getElem?_map] at hki
    obtain ⟨y, hy, rfl⟩ := Option.map_eq_some_iff.mp hki
    obtain ⟨z, hlk, hpr⟩ := hlk1 y (List.mem_of_getElem? hy)
    obtain ⟨v, hv, hwv⟩ := ha5 y z (by rw [hk1]; exact hlk)
    have hil := (List.getElem?_eq_some_iff.mp hy).1
    have hkl : kv.length = i := by
      have := congrArg List.length hkk
      simp at this
      omega
    have hz := odp _ hpr
    have hzs := (ok.val _ hpr).2.2
    refine ⟨rfl, ?_⟩
    unfold tYes
    dsimp only
    rw [if_pos rfl]
    refine ⟨.str y, rfl, .ref p1, rfl, .str y, rfl, p1, v, rfl, .inl ⟨ka, Sum.inr y, .inr ⟨od, eG _ _ h41⟩, rfl, hv.symm⟩, .ref p2, rfl, v, p2, z, psOf qs ys2, rfl, ?_, hv24.ext eG, hz, by decide, by show z.sz ≤ 9000; have : z.sz ≤ 8000 := hzs; omega, fun u G5 e5 hu => ?_⟩
    · exact WV.tx (((Tx.of (e2.trans x3)).trans tx4).trans (Tx.of eG)) hwv
    rw [hk2] at hu
    have hkv5 := e5 _ _ hkv
    have e10 : putK kv (Sum.inr y) u = kv ++ [(Sum.inr y, u)] := putK_new (valV_no (by
      rw [hkk]
      intro z
      obtain ⟨s2, hs2, e⟩ := List.mem_map.mp z
      obtain rfl := Sum.inr.inj e
      exact not_take_mem hys1 hy hs2))
    refine ⟨kv, Sum.inr y, rfl, hkv5, sz_lt (by omega), Ex.mut (eG.trans e5) hDl, kv ++ [(Sum.inr y, u)], ?_, ?_, ?_⟩
    · rw [upd_same, e10]
    · rw [List.map_append, hkk, take_snoc hy, List.map_append]
      rfl
    · have tx : Tx G5 (upd G5 Dl (.dK (kv ++ [(Sum.inr y, u)]))) := Tx.dct hkv5
      rw [List.map_append, take_snoc hy]
      have e6 : psOf ps (ys1.take i ++ [y]) = psOf ps (ys1.take i) ++ [(y, z)] := by
        unfold psOf
        rw [List.map_append]
        show _ ++ [(y, (lk ps y).getD (.v y))] = _
        rw [hlk]
        rfl
      rw [e6, List.map_append, e10]
      have h8 : WVs G5 (kv.map (·.2)) ((psOf ps (ys1.take i)).map fun q => q.2.sub (lk qs)) := by
        unfold WVs
        rw [W.os_map, List.map_map]
        exact hvv.ext e5
      have h9 := WVs.tx tx h8
      unfold WVs at h9
      rw [W.os_map, List.map_map] at h9
      exact OVs.append h9 (.cons (WV.tx (w := z.sub (lk qs)) tx hu) .nil)
  · rintro G ⟨eG, kv, hkv, hkk, hvv⟩
    have hal : ka.length = ys1.length := by rw [hka, hl1]
    rw [hal, List.take_length] at hkk hvv
    refine ⟨eG _ _ h41, ?_⟩
    have hkl : kv.length = ys1.length := by
      have := congrArg List.length hkk
      simpa using this
    have h51 : G p1 = some (.frz od (.dK ka)) := eG _ _ h41
    have tx5 : Tx G (upd G p1 (.dK ka)) := fun a xs h => by
      rw [upd_ne (fun z => by rw [z, h51] at h; cases h)]
      exact h
    have nDl1 : Dl ≠ p1 := fun z => by rw [z, h51] at hkv; cases hkv
    have nDlD : D ≠ Dl := fun z => by rw [← z, h4D] at hDl; cases hDl
    have h5D : (upd G p1 (.dK ka)) D = some (.dK (mergeK [] kt)) := by rw [upd_ne hDp1.symm]; exact eG _ _ h4D
    have h5l : (upd G p1 (.dK ka)) Dl = some (.dK kv) := by rw [upd_ne nDl1]; exact hkv
    have ex5 : Ex H (upd G p1 (.dK ka)) := fun b o hb => by
      rw [upd_ne (fun z => by rw [z, np1] at hb; cases hb)]
      exact eG _ _ (ex4 _ _ hb)
    have hv5 : SubV (upd G p1 (.dK ka)) p2 (psOf qs ys2) := (hv24.ext eG).tx tx5 fun o h => by rw [upd_ne hne12]; exact h
    have hva : SubV (upd G p1 (.dK ka)) Dl ((psOf ps ys1).map fun q => (q.1, q.2.sub (lk qs))) := by
      refine SubV.of h5l ?_ ?_ ?_
      · rw [hkk, List.map_map]
        unfold psOf
        rw [List.map_map]
        rfl
      · rw [List.map_map]
        have := psOf_keys ps ys1
        show ((psOf ps ys1).map fun q => q.1).Nodup
        rw [this]
        exact hys1
      · have h8 : WVs G (kv.map (·.2)) ((psOf ps ys1).map fun q => q.2.sub (lk qs)) := by
          unfold WVs
          rw [W.os_map, List.map_map]
          exact hvv
        have h9 := WVs.tx tx5 h8
        unfold WVs at h9
        rw [W.os_map, List.map_map] at h9
        rw [List.map_map]
        exact h9
    generalize upd G p1 (.dK ka) = H5 at tx5 h5D h5l ex5 hv5 hva ⊢
    refine ⟨Dl, kv, rfl, h5D, nDlD, .inl h5l, by omega, ?_⟩
    obtain ⟨kv', hb1, _, _, _, hb5, hb6⟩ := hva.get
    obtain rfl : kv' = kv := by rw [hb1] at h5l; exact HO.dK.inj (Option.some.inj h5l)
    have hndt : (kt.map (·.1)).Nodup := by
      rw [ht3]
      have := nodup_inr ht4
      rw [← psOf_keys qs ys2, List.map_map] at this
      exact this
    have hys2 : ys2.Nodup := ht4
    have hktk : kt.map (·.1) = ys2.map (fun s => (Sum.inr s : Key)) := by
      rw [ht3]
      have := congrArg (List.map fun s => (Sum.inr s : Key)) (psOf_keys qs ys2)
      rw [List.map_map] at this
      exact this
    have hndv : (kv'.map (·.1)).Nodup := by rw [hkk]; exact nodup_inr hys1
    have hMm : ∀ k : Key, k ∈ (mergeK (mergeK [] kt) kv').map (·.1) ↔ k ∈ kt.map (·.1) ∨ k ∈ kv'.map (·.1) := fun k => by
      rw [mem_mergeK, mem_mergeK]
      simp
    obtain ⟨zs, hzs⟩ := str_keys (M := mergeK (mergeK [] kt) kv') fun k hk => by
      rcases (hMm k).mp hk with h | h
      · rw [hktk] at h
        obtain ⟨b, _, e⟩ := List.mem_map.mp h
        exact ⟨b, e.symm⟩
      · rw [hkk] at h
        obtain ⟨b, _, e⟩ := List.mem_map.mp h
        exact ⟨b, e.symm⟩
    have hzn : zs.Nodup := by
      have : ((mergeK (mergeK [] kt) kv').map (·.1)).Nodup := nodup_mergeK (nodup_mergeK List.nodup_nil)
      rw [hzs] at this
      exact nodup_of _ this
    have hzm : ∀ s, s ∈ zs ↔ s ∈ ps.map (·.1) ∨ s ∈ qs.map (·.1) := fun s => by
      rw [← mem_inr, ← hzs, hMm, hktk, hkk, mem_inr, mem_inr, hp1.mem_iff, hp2.mem_iff, or_comm]
    have hzl : zs.length < 64 := by
      have h1 := congrArg List.length hzs
      rw [List.length_map, List.length_map] at h1
      have h2 := length_mergeK kv' (mergeK [] kt)
      have h3 := length_mergeK kt []
      rw [List.length_nil] at h3
      omega
    have hval : ∀ s, valV (mergeK (mergeK [] kt) kv') (Sum.inr s : Key) = (valV kv' (Sum.inr s)).or (valV kt (Sum.inr s)) := fun s => by
      rw [valV_merge hndv, valV_merge hndt]
      congr 1
      cases valV kt (Sum.inr s : Key) <;> rfl
    have word : ∀ s ∈ zs, ∃ v, valV (mergeK (mergeK [] kt) kv') (Sum.inr s : Key) = some v ∧ WV H5 v (bh ps qs s) := fun s hs => by
      rw [hval]
      cases hlp : lk ps s with
      | some z =>
        obtain ⟨v, hv, hw⟩ := hb5 s (z.sub (lk qs)) (by rw [lk_map (fun q => q.sub (lk qs)), hk1, hlp]; rfl)
        refine ⟨v, by rw [hv]; rfl, ?_⟩
        show WV H5 v ((((lk ps s).getD (.v s))).sub (lk qs))
        rw [hlp]
        exact hw
      | none =>
        have hn := hb6 s (by rw [lk_map (fun q => q.sub (lk qs)), hk1, hlp]; rfl)
        have hsq : s ∈ qs.map (·.1) := by
          rcases (hzm s).mp hs with h | h
          · obtain ⟨p, hp, rfl⟩ := List.mem_map.mp h
            rw [lk_self hndp p hp] at hlp
            cases hlp
          · exact h
        obtain ⟨p, hp, rfl⟩ := List.mem_map.mp hsq
        have hlq := lk_self hndq p hp
        obtain ⟨v, hv, hw⟩ := ht5 p.1 p.2 (by rw [hk2]; exact hlq)
        refine ⟨v, by rw [hn, hv]; rfl, ?_⟩
        show WV H5 v ((((lk ps p.1).getD (.v p.1))).sub (lk qs))
        rw [hlp]
        show WV H5 v ((lk qs p.1).getD (.v p.1))
        rw [hlq]
        exact hw.tx ((((Tx.of x3).trans tx4).trans (Tx.of eG)).trans tx5)
    have wss : ∀ s ∈ zs, SS.contains s = true := fun s hs => by
      rcases (hzm s).mp hs with h | h
      · obtain ⟨p, hp, rfl⟩ := List.mem_map.mp h
        exact (ok.key p hp).1
      · obtain ⟨p, hp, rfl⟩ := List.mem_map.mp h
        exact (ok2.key p hp).1
    have bss : ∀ s ∈ zs, (bh ps qs s).o.ss = true := fun s hs =>
      W.ss_sub (fun t z h => (ok2.val _ (lk_mem h)).2.1) _ (W.ss_sub (fun t z h => (ok.val _ (lk_mem h)).2.1) _ (wss s hs))
    have bdp : ∀ s, (bh ps qs s).dp ≤ 30 := fun s => by
      have h1 := W.dp_sub (f := lk ps) (m := 12) (fun t z h => Nat.le_of_lt (odp _ (lk_mem h))) (.v s)
      have h2 := W.dp_sub (f := lk qs) (m := 12) (fun t z h => Nat.le_of_lt (odp2 _ (lk_mem h))) ((W.v s).sub (lk ps))
      have h3 : (W.v s).dp ≤ 2 := by unfold W.dp; omega
      show (((W.v s).sub (lk ps)).sub (lk qs)).dp ≤ 30
      omega
    have hDH : H D = none := fresh_back (e1.trans e2) hD
    have x6 : Ex H (upd H5 D (.dK (mergeK (mergeK [] kt) kv'))) := Ex.mut ex5 hDH
    have tx6 : Tx H5 (upd H5 D (.dK (mergeK (mergeK [] kt) kv'))) := Tx.dct h5D
    have h6 : (upd H5 D (.dK (mergeK (mergeK [] kt) kv'))) D = some (.dK (mergeK (mergeK [] kt) kv')) := upd_same
    generalize mergeK (mergeK [] kt) kv' = M at hzs word x6 tx6 h6 ⊢
    generalize upd H5 D (.dK M) = H6 at x6 tx6 h6 ⊢
    refine ⟨.ref D, rfl, D, M, zs, rfl, .inl h6, hzs, hzl, fun ys p hperm hsort np => ?_⟩
    have x7 : Ex H6 (upd H6 p (.lst (ys.map V.str))) := Ex.new np
    have hyn : ys.Nodup := hperm.nodup_iff.mpr hzn
    refine ⟨p, rfl, ⟨_, sq_of upd_same⟩, fun D2 hD2 => ?_⟩
    have hp7 : (upd H6 p (.lst (ys.map V.str))) p = some (.lst (ys.map V.str)) := upd_same
    generalize upd H6 p (.lst (ys.map V.str)) = H7 at x7 hD2 hp7
    have hD2H : H D2 = none := fresh_back (x6.trans x7) hD2
    refine dc_it (walk_list (K := K) (a := p) (xs := ys.map V.str)) (fun i G => Ex H7 G ∧ ∃ kv, G D2 = some (.dK kv) ∧ kv.map (·.1) = (outB ps qs (ys.take i)).map (fun q => (Sum.inr q.1 : Key)) ∧ OVs G (kv.map (·.2)) ((outB ps qs (ys.take i)).map fun q => q.2.o)) ⟨Ex.new hD2, [], upd_same, by simp [outB], by simp [outB]; rfl⟩ (fun i G _ c => sq_of (c.1 _ _ hp7)) ?_ ?_
    · rintro i x G G' hi ⟨eG7, kv2, hkv2, hkk2, hvv2⟩ ⟨rfl, hx⟩
      obtain ⟨y, hy, rfl⟩ := sVs_get (xs := ys) hx
      have hyz := hperm.mem_iff.mp (List.mem_of_getElem? hy)
      obtain ⟨v, hv, hwv⟩ := word y hyz
      have eA := x7.trans eG7
      refine ⟨rfl, ?_⟩
      refine et_test (b := !(bh ps qs y).beq (.v y)) (ev_op (x := v) (fun H3 e3 Q3 q3 => ⟨.ref D, rfl, .str y, rfl, D, v, rfl, .inl ⟨M, Sum.inr y, .inl (e3 _ _ (eA _ _ h6)), rfl, hv.symm⟩, q3 H3 (Ex.refl _)⟩) (ev_var (i := 5) rfl) (rv_neW (y := .v y) ((hwv.tx tx6).ext eA) rfl (bss y hyz) (wss y hyz) (by have := bdp y; omega) (by unfold W.dp; omega))) G' (Ex.refl _) _ fun H8 e8 => ?_
      have hil := (List.getElem?_eq_some_iff.mp hy).1
      have hol : ∀ l : List Str, (outB ps qs l).length ≤ l.length := by
        intro l
        induction l with
        | nil => exact Nat.le_refl _
        | cons a r ih =>
          show (if (bh ps qs a).beq (.v a) then outB ps qs r else (a, bh ps qs a) :: outB ps qs r).length ≤ r.length + 1
          split
          · omega
          · rw [List.length_cons]; omega
      have hk2l : kv2.length ≤ i := by
        have h1 := congrArg List.length hkk2
        have h2 := hol (ys.take i)
        rw [List.length_map, List.length_map] at h1
        rw [List.length_take] at h2
        omega
      have hyl := hperm.length_eq
      cases hb : (bh ps qs y).beq (.v y) with
      | true =>
        rw [if_neg (by decide)]
        refine ⟨eG7.trans e8, kv2, e8 _ _ hkv2, ?_, ?_⟩
        · rw [take_snoc hy, outB_append, if_pos hb, List.append_nil]; exact hkk2
        · rw [take_snoc hy, outB_append, if_pos hb, List.append_nil]; exact hvv2.ext e8
      | false =>
        rw [if_pos (by decide)]
        have hv8 := e8 _ _ hkv2
        have hnot : valV kv2 (Sum.inr y : Key) = none := valV_no (by
          rw [hkk2]
          intro z
          obtain ⟨q, hq, e⟩ := List.mem_map.mp z
          have e : q.1 = y := Sum.inr.inj e
          exact not_take_mem hyn hy (outB_sub (List.mem_map.mpr ⟨q, hq, e⟩)))
        have e10 : putK kv2 (Sum.inr y) v = kv2 ++ [(Sum.inr y, v)] := putK_new hnot
        have tx8 : Tx H8 (upd H8 D2 (.dK (kv2 ++ [(Sum.inr y, v)]))) := Tx.dct hv8
        refine ⟨.str y, rfl, .ref D, rfl, .str y, rfl, D, v, rfl, .inl ⟨M, Sum.inr y, .inl (e8 _ _ (eA _ _ h6)), rfl, hv.symm⟩, kv2, Sum.inr y, rfl, hv8, sz_lt (by omega), Ex.mut (eG7.trans e8) hD2, kv2 ++ [(Sum.inr y, v)], ?_, ?_, ?_⟩
        · rw [upd_same, e10]
        · rw [take_snoc hy, outB_append, if_neg (by rw [hb]; decide), List.map_append, hkk2, List.map_append]
          rfl
        · rw [take_snoc hy, outB_append, if_neg (by rw [hb]; decide), List.map_append, e10, List.map_append]
          have h8 : WVs H8 (kv2.map (·.2)) ((outB ps qs (ys.take i)).map (·.2)) := by
            unfold WVs
            rw [W.os_map, List.map_map]
            exact hvv2.ext e8
          have h9 := WVs.tx tx8 h8
          unfold WVs at h9
          rw [W.os_map, List.map_map] at h9
          exact OVs.append h9 (.cons (WV.tx (w := bh ps qs y) tx8 (((hwv.tx tx6).ext eA).ext e8)) .nil)
    · rintro G9 ⟨eG7, kv2, hkv2, hkk2, hvv2⟩
      have hyl : (ys.map V.str).length = ys.length := List.length_map _
      rw [hyl, List.take_length] at hkk2 hvv2
      exact k D2 G9 ys hD2H (x6.trans (x7.trans eG7)) hyn (fun s => by rw [hperm.mem_iff]; exact hzm s) hsort (SubV.of hkv2 hkk2 (outB_nodup hyn) hvv2)
end
end K24

set_option Elab.async false
set_option linter.all false
set_option maxRecDepth 100000
set_option maxHeartbeats 4000000
/-! _law_mixed. -/
namespace K24
open PySem PySem.Spec PyProof.Rows L2 Evl
section
variable {P : Program} {w : World} {K : PySem.W.Frag} {mg : Str → Option Value} {base : Heap} {C : Addr}
def spMix (K : PySem.W.Frag) : Sp := fun vs H Q _ => ∃ (p q c : Addr) (n : Int) (xs : List V), vs = [.ref p, .ref c] ∧ Spr H p q n ∧ n + (xs.length : Int) < 90000 ∧ xs.length ≤ 500 ∧ SqL K H c xs ∧
  ∀ (r : Addr) (G : Hp) (ys : List V), H r = none → G r = some (.lst ys) → ys.Perm xs → Spr G p q (n + (xs.length : Int)) → But p q H G → Q (.ref r) G
abbrev nM : List Str := ["_law_stream", "_law_some", "_law_left", "_law_k"]
theorem sc_mix : FnScope nM ["_law_stream", "_law_some"] (defScope s__law_mixed) := ⟨rfl, rfl, rfl, by decide +kernel, rfl, by decide +kernel, by decide +kernel⟩
def mLen (K : PySem.W.Frag) (i : Nat) : TE := tCB (fun xs H Q => ∃ x n, xs = [x] ∧ LenV K x H n ∧ Q (.int n) H) (tCons (tVar i) tNil)
def mPop (K : PySem.W.Frag) : TE := tBM K "list" rPopAt (tVar 2) (tCons (tCall spDr [] E0 (tCons (tVar 0) (tCons (mLen K 2) tNil))) tNil)
theorem perm_eraseIdx {α : Type} : ∀ {l : List α} {j : Nat} {y : α}, l[j]? = some y → (y :: l.eraseIdx j).Perm l
  | [], j, y, h => by simp at h
  | x :: l, 0, y, h => by
    obtain rfl : x = y := by simpa using h
    exact List.Perm.refl _
  | x :: l, j + 1, y, h => by
    have ih := perm_eraseIdx (l := l) (j := j) (y := y) (by simpa using h)
    show (y :: x :: l.eraseIdx j).Perm (x :: l)
    exact (List.Perm.swap x y _).trans (ih.cons x)
theorem ok_mixed (T : T24 P w K mg base) : Ok P w K mg base CX0 "_law_mixed" ["_law_stream", "_law_some"] 2 (spMix K) := by
  obtain ⟨fD, dD, GD, bD, kD, mD⟩ := (ok_dr T).ex
  refine T.ok 40 rfl sc_mix (fun vs H Q E h => ?_) (fun kV doc pm an cdv ct us hl => match us, hl with | [_, _], _ => rfl) (fun f cdv A outer s H vs Q E hr h => ?_)
  · obtain ⟨p, q, c, n, xs, rfl, _⟩ := h
    rfl
  · obtain ⟨p, q, c, n, xs, rfl, S, hn, hz, hS, k⟩ := h
    refine ⟨_, pss_cons (ps_set (i := 2) sc_mix.nd rfl (.inr rfl) (pe_callTy call_list_of (by rfl) T.list PyProof.Rows.boot_list (pa_cons (pv 1) pa_nil)))
      (pss_one (ps_ret (pe_lc (own := [("_law_k", 3)]) (g := gName 3) (tt := tYes) (te := mPop K) rfl sc_mix.nd (pi_range1 (by rfl) T.range (pa_cons (pe_callB call_len (by rfl) T.len PySem.boot_len (pa_cons (pv 2) pa_nil)) pa_nil))
        (blkOk_by (N := nM) (sc := defScope s__law_mixed) (by decide +kernel)) (fun _ _ _ _ _ => pg_name (i := 3) sc_mix.nd rfl (Or.inl rfl)) (fun _ _ _ _ _ => pts_nil)
        (fun _ _ _ _ _ => pe_bm PySem.F.plainAttrs_list PySem.F.slot_list_pop PySem.F.type_list_pop mt_popAt (pv 2) (pa_cons (pe_call GD hr (by rfl) mD kD bD .nil pass0 (pa_cons (pv 0) (pa_cons (pe_callB call_len (by rfl) T.len PySem.boot_len (pa_cons (pv 2) pa_nil)) pa_nil))) pa_nil))))), ?_⟩
    refine ⟨_, rfl, c, xs, rfl, .inl hS, fun l hl => ?_⟩
    refine ⟨_, rfl, _, xs.length, rfl, .inl ⟨xs, sq_of upd_same, rfl⟩, _, rfl, by omega, by omega, fun D hD => ?_⟩
    obtain ⟨sx, sy, Sp, Sq⟩ := S.lst
    have lp : l ≠ p := (ne_of_none Sp hl).symm
    have lq : l ≠ q := (ne_of_none Sq hl).symm
    have Dl : D ≠ l := fun z => by
      rw [z, upd_same] at hD
      cases hD
    have hD0 : H D = none := by
      rw [upd_ne Dl] at hD
      exact hD
    have Dp' : D ≠ p := (ne_of_none Sp hD0).symm
    have Dq : D ≠ q := (ne_of_none Sq hD0).symm
    have x1 : Ex H (upd H l (.lst xs)) := Ex.new hl
    have x2 : Ex H (upd (upd H l (.lst xs)) D (.lst [])) := x1.trans (Ex.new hD)
    refine lc_range (lo := 0) (fun i G => ∃ left acc, Spr G p q (n + (i : Int)) ∧ G l = some (.lst left) ∧ left.length + i = xs.length ∧
      G D = some (.lst acc) ∧ acc.length = i ∧ (acc ++ left).Perm xs ∧ But p q H G) ?_ ?_ ?_
    · exact ⟨xs, [], by simpa using S.ext x2, by rw [upd_ne Dl.symm, upd_same], rfl, upd_same, rfl, by simp, But.of x2⟩
    · rintro i G hi ⟨left, acc, Z, g1, g2, g4, g5, g6, B⟩
      refine ⟨rfl, ?_⟩
      unfold tYes
      dsimp only
      rw [if_pos (rfl : true = true)]
      have hi' : i < xs.length := by simpa using hi
      refine ⟨_, rfl, .inl ⟨rfl, _, sq_of g1⟩, _, rfl, _, rfl, _, left.length, rfl, .inl ⟨left, sq_of g1, rfl⟩, ?_⟩
      refine ⟨p, q, _, _, rfl, Z, by omega, by omega, by omega, fun r G2 r0 r1 Z2 B2 => ?_⟩
      have h1 : G2 l = some (.lst left) := B2 l _ lp lq g1
      have h2 : G2 D = some (.lst acc) := B2 D _ Dp' Dq g4
      obtain ⟨j, rfl⟩ : ∃ j : Nat, r = (j : Int) := ⟨r.toNat, by omega⟩
      have hj : j < left.length := by omega
      obtain ⟨y, hy⟩ : ∃ y, left[j]? = some y := ⟨left[j], by simp [hj]⟩
      refine ⟨l, left, _, j, y, rfl, rfl, h1, by omega, by omega, (ixN_seq (ixn hj)).1, hy, acc, by rw [upd_ne Dl]; exact h2, by rw [g5, sizeLine_eq]; omega, ?_⟩
      refine ⟨left.eraseIdx j, acc ++ [y], ?_, by rw [upd_ne Dl.symm, upd_same], ?_, upd_same, by simp [g5], ?_, ?_⟩
      · have e : n + ((i + 1 : Nat) : Int) = n + (i : Int) + 1 := by omega
        rw [e]
        exact Z2.keep (fun o h => by rw [upd_ne Dp'.symm, upd_ne lp.symm]; exact h) (fun o h => by rw [upd_ne Dq.symm, upd_ne lq.symm]; exact h)
      · rw [List.length_eraseIdx_of_lt hj]
        omega
      · rw [List.append_assoc]
        exact ((perm_eraseIdx hy).append_left acc).trans g6
      · intro b o n1 n2 e
        have nl : b ≠ l := ne_of_none e hl
        have nD : b ≠ D := ne_of_none e hD0
        rw [upd_ne nD, upd_ne nl]
        exact B2 b o n1 n2 (B b o n1 n2 e)
    · rintro G ⟨left, acc, Z, g1, g2, g4, g5, g6, B⟩
      have hl0 : left = [] := List.length_eq_zero_iff.mp (by have e : ((xs.length : Nat) : Int).toNat = xs.length := rfl; rw [e] at g2; omega)
      subst hl0
      exact k D G acc hD0 g4 (by simpa using g6) (by simpa using Z) B
end
end K24

set_option Elab.async false
set_option linter.all false
set_option maxRecDepth 100000
set_option maxHeartbeats 4000000
/-! _law_turned: a dict in another order. -/
namespace K24
open PySem PySem.Spec PyProof.Rows L2 Evl
theorem perm_of_map {α β : Type} {f : α → β} {l m : List β} (h : l.Perm m) : ∀ L : List α, m = L.map f → ∃ L' : List α, L'.Perm L ∧ l = L'.map f := by
  induction h with
  | nil =>
    intro L e
    cases L with
    | nil => exact ⟨[], .nil, rfl⟩
    | cons a r => cases e
  | cons x _ ih =>
    intro L e
    cases L with
    | nil => cases e
    | cons a r =>
      obtain ⟨rfl, e2⟩ := List.cons.inj e
      obtain ⟨L', p, e3⟩ := ih r e2
      exact ⟨a :: L', p.cons a, by rw [List.map_cons, e3]⟩
  | swap x y l =>
    intro L e
    cases L with
    | nil => cases e
    | cons a r =>
      obtain ⟨rfl, e2⟩ := List.cons.inj e
      cases r with
      | nil => cases e2
      | cons b r =>
        obtain ⟨rfl, e3⟩ := List.cons.inj e2
        exact ⟨b :: a :: r, List.Perm.swap a b r, by rw [e3]; rfl⟩
  | trans _ _ ih1 ih2 =>
    intro L e
    obtain ⟨L2, p2, e2⟩ := ih2 L e
    obtain ⟨L1, p1, e1⟩ := ih1 L2 e2
    exact ⟨L1, p1.trans p2, e1⟩
theorem mergeK_app : ∀ {more kvs : List (Key × V)}, ((kvs ++ more).map (·.1)).Nodup → mergeK kvs more = kvs ++ more
  | [], kvs, _ => by show kvs = _; simp
  | p :: r, kvs, h => by
    have hn : p.1 ∉ kvs.map (·.1) := fun z => by
      rw [List.map_append, List.map_cons, List.nodup_append] at h
      exact h.2.2 _ z _ List.mem_cons_self rfl
    show mergeK (putK kvs p.1 p.2) r = _
    rw [putK_new (valV_no hn), mergeK_app (by simpa using h)]
    simp
theorem mergeK_nil {more : List (Key × V)} (h : (more.map (·.1)).Nodup) : mergeK [] more = more := mergeK_app (kvs := []) h
/-- pairs in the heap, each with the word of its value -/
theorem trip {H : Hp} : ∀ {ts : List Addr} {kvs : List (Key × V)} {ps : List (Str × W)}, Paired (fun (t : Addr) (q : Key × V) => H t = some (.tup [kV q.1, q.2])) ts kvs → kvs.map (·.1) = ps.map (fun p => (Sum.inr p.1 : Key)) → OVs H (kvs.map (·.2)) (ps.map fun p => p.2.o) →
    ∃ L : List (Addr × V × Str × W), ts = L.map (·.1) ∧ ps = L.map (fun x => x.2.2) ∧ ∀ x ∈ L, H x.1 = some (.tup [.str x.2.2.1, x.2.1]) ∧ WV H x.2.1 x.2.2.2
  | _, _, ps, .nil, h, _ => by
    cases ps with
    | nil => exact ⟨[], rfl, rfl, fun x hx => nomatch hx⟩
    | cons a r => cases h
  | _, _, ps, .cons (a := t) (b := q) (l₁ := ts) (l₂ := kvs) h1 h2, h, o => by
    cases ps with
    | nil => cases h
    | cons a r =>
      rw [List.map_cons, List.map_cons] at h
      obtain ⟨e1, e2⟩ := List.cons.inj h
      obtain ⟨v, us, e3, hv, hus⟩ := o
      obtain ⟨rfl, rfl⟩ := List.cons.inj e3
      obtain ⟨L, l1, l2, l3⟩ := trip h2 e2 hus
      refine ⟨(t, q.2, a) :: L, by rw [l1]; rfl, by rw [l2]; rfl, fun x hx => ?_⟩
      rcases List.mem_cons.mp hx with rfl | hx
      · refine ⟨?_, hv⟩
        rw [h1, e1]
        rfl
      · exact l3 x hx
section
variable {P : Program} {w : World} {K : PySem.W.Frag} {mg : Str → Option Value} {base : Heap}
def spTu : Sp := fun vs H Q _ => ∃ (p q d : Addr) (n : Int) (ps : List (Str × W)), vs = [.ref p, .ref d] ∧ Spr H p q n ∧ n + (ps.length : Int) < 90000 ∧ ps.length ≤ 500 ∧ SubV H d ps ∧
  ∀ (r : Addr) (G : Hp) (qs : List (Str × W)), H r = none → qs.Perm ps → SubV G r qs → Spr G p q (n + (ps.length : Int)) → But p q H G → Q (.ref r) G
abbrev nTu : List Str := ["_law_stream", "_law_given"]
theorem sc_tu : FnScope nTu nTu (defScope s__law_turned) := ⟨rfl, rfl, rfl, by decide +kernel, rfl, by decide +kernel, by decide +kernel⟩
theorem ok_turned (T : T24 P w K mg base) : Ok P w K mg base CX0 "_law_turned" ["_law_stream", "_law_given"] 3 spTu := by
  obtain ⟨fM, dM, GM, bM, kM, mM⟩ := (ok_mixed T).ex
  refine T.ok 43 rfl sc_tu (fun vs H Q E h => ?_) (fun kV doc pm an cdv ct us hl => match us, hl with | [_, _], _ => rfl) (fun f cdv A outer s H vs Q E hr h => ?_)
  · obtain ⟨p, q, d, n, ps, rfl, _⟩ := h
    rfl
  obtain ⟨p, q, d, n, ps, rfl, S, hn, hl, hd, k⟩ := h
  refine ⟨_, pss_one (ps_ret (pe_callTy (call_dictP rfl) (by rfl) T.dict (by decide +kernel) (pa_cons (pe_call GM hr (by rfl) mM kM bM .nil pass0 (pa_cons (pv 0) (pa_cons (LiI.pe_listItems rfl (pv 1) (by rfl) T.list PyProof.Rows.boot_list) pa_nil))) pa_nil))), ?_⟩
  obtain ⟨kvs, h1, h2, h3⟩ := hd.ex
  have hnd := hd.nd
  rw [List.map_map] at h2 h3 hnd
  refine ⟨.ref p, rfl, .ref d, rfl, d, kvs, rfl, h1, fun H1 l ts e1 nl nts hlt h4 h5 => ?_⟩
  have e1 : Ex H H1 := e1
  obtain ⟨L, l1, l2, l3⟩ := trip h5 h2 (h3.ext e1)
  have hll : ts.length = ps.length := by rw [l1, l2, List.length_map, List.length_map]
  refine ⟨p, q, l, n, ts.map V.ref, rfl, S.ext e1, by rw [List.length_map, hll]; exact hn, by rw [List.length_map, hll]; exact hl, sq_of h4, fun r G ys nr hr' hperm S' B => ?_⟩
  rw [List.length_map, hll] at S'
  obtain ⟨L', hp', rfl⟩ := perm_of_map hperm L (by rw [l1, List.map_map])
  obtain ⟨sx, sy, Sp, Sq⟩ := S.lst
  have keepT : ∀ b xs, H1 b = some (.tup xs) → G b = some (.tup xs) := fun b xs h => B b _ (fun z => by rw [z, e1 _ _ Sp] at h; cases h) (fun z => by rw [z, e1 _ _ Sq] at h; cases h) h
  refine ⟨r, L'.map (·.1), L'.map (fun x => (Sum.inr x.2.2.1, x.2.1)), rfl, by rw [List.map_map]; exact sq_of hr', ?_, fun pp npp => ?_⟩
  · have : ∀ x ∈ L', x ∈ L := fun x hx => hp'.mem_iff.mp hx
    clear hp' hperm hr'
    induction L' with
    | nil => exact .nil
    | cons a r ih => exact .cons (st_of (keepT _ _ (l3 a (this a List.mem_cons_self)).1)) (ih fun x hx => this x (List.mem_cons_of_mem _ hx))
  have hndL : ((L'.map (fun x => ((Sum.inr x.2.2.1 : Key), x.2.1))).map (·.1)).Nodup := by
    rw [List.map_map]
    refine (hp'.map _).nodup_iff.mpr ?_
    rw [l2, List.map_map] at hnd
    exact hnd
  rw [mergeK_nil hndL]
  have hS : SubV (upd G pp (.dK (L'.map (fun x => ((Sum.inr x.2.2.1 : Key), x.2.1))))) pp (L'.map (fun x => x.2.2)) := by
    refine SubV.of upd_same ?_ ?_ ?_
    · rw [List.map_map, List.map_map]
      rfl
    · refine nodup_of (fun s => (Sum.inr s : Key)) ?_
      rw [List.map_map, List.map_map]
      rw [List.map_map] at hndL
      exact hndL
    · have tx : Tx H1 (upd G pp (.dK (L'.map (fun x => ((Sum.inr x.2.2.1 : Key), x.2.1))))) := fun b xs h => by
        have hb := keepT b xs h
        rw [upd_ne (fun z => by rw [z, npp] at hb; cases hb)]
        exact hb
      have this : ∀ x ∈ L', x ∈ L := fun x hx => hp'.mem_iff.mp hx
      generalize upd G pp (.dK (L'.map (fun x => ((Sum.inr x.2.2.1 : Key), x.2.1)))) = G5 at tx
      clear hp' hperm hr' hndL
      induction L' with
      | nil => exact .nil
      | cons a r ih => exact .cons (WV.tx tx (l3 a (this a List.mem_cons_self)).2) (ih fun x hx => this x (List.mem_cons_of_mem _ hx))
  have npr : H pp = none := by
    cases hx : H pp with
    | none => rfl
    | some o =>
      exfalso
      have h1x := e1 _ _ hx
      obtain ⟨tx, ty, Tp, Tq⟩ := S'.lst
      by_cases z1 : pp = p
      · rw [z1, Tp] at npp
        cases npp
      · by_cases z2 : pp = q
        · rw [z2, Tq] at npp
          cases npp
        · rw [B pp o z1 z2 h1x] at npp
          cases npp
  refine k pp _ (L'.map (fun x => x.2.2)) npr (by rw [l2]; exact hp'.map _) hS ?_ ?_
  · obtain ⟨tx, ty, Tp, Tq⟩ := S'.lst
    exact S'.keep (fun o h => by rw [upd_ne (ne_of_none Tp npp)]; exact h) (fun o h => by rw [upd_ne (ne_of_none Tq npp)]; exact h)
  · intro b o n1 n2 h
    have hb := B b o n1 n2 (e1 _ _ h)
    rw [upd_ne (ne_of_none hb npp)]
    exact hb
end
end K24

set_option Elab.async false
set_option linter.all false
set_option maxRecDepth 100000
set_option maxHeartbeats 4000000
/-! _law_substitution. -/
namespace K24
open PySem PySem.Spec PyProof.Rows L2 Evl
def SK : List Str := ["X", "Y", "Z", "W1"]
theorem cutV_sub (xs : List V) (lo hi : Option Int) : (cutV xs lo hi).Sublist xs := by
  unfold cutV
  exact (List.take_sublist _ _).trans (List.drop_sublist _ _)
section
variable {P : Program} {w : World} {K : PySem.W.Frag} {mg : Str → Option Value} {base : Heap}
def spSb : Sp := fun vs H Q _ => ∃ (p q va : Addr) (n : Int) (xs : List Str), vs = [.ref p, .ref va] ∧ Spr H p q n ∧ n + 120 ≤ 90000 ∧ H va = some (.lst (sVs xs)) ∧ va ≠ p ∧ va ≠ q ∧ xs.length ≤ 4 ∧ (∀ s ∈ xs, s ∈ SV) ∧
  ∀ (r : Addr) (G : Hp) (n' : Int) (ps : List (Str × W)), H r = none → Spr G p q n' → n' ≤ n + 120 → But p q H G → SubV G r ps → ps.length ≤ 4 → (∀ x ∈ ps, x.1 ∈ SK ∧ Dw 2 x.2) → Q (.ref r) G
abbrev nSb : List Str := ["_law_stream", "_law_variables", "_law_found", "_law_variable"]
theorem sc_sb : FnScope nSb ["_law_stream", "_law_variables"] (defScope s__law_substitution) := ⟨rfl, rfl, rfl, by decide +kernel, rfl, by decide +kernel, by decide +kernel⟩
theorem ok_substitution (T : T24 P w K mg base) : Ok P w K mg base CX0 "_law_substitution" ["_law_stream", "_law_variables"] 6 spSb := by
  obtain ⟨fM, dM, GM, bM, kM, mM⟩ := (ok_mixed T).ex
  obtain ⟨fD, dD, GD, bD, kD, mD⟩ := (ok_dr T).ex
  obtain ⟨fW, dW, GW, bW, kW, mW⟩ := (ok_d_word T 2).ex
  refine T.ok 44 rfl sc_sb (fun vs H Q E h => ?_) (fun kV doc pm an cdv ct us hl => match us, hl with | [_, _], _ => rfl) (fun f cdv A outer s H vs Q E hr h => ?_)
  · obtain ⟨p, q, va, n, xs, rfl, _⟩ := h
    rfl
  obtain ⟨p, q, va, n, xs, rfl, S, hn, hv, n1, n2, hl, hS, k⟩ := h
  refine ⟨_, pss_cons (ps_set (i := 2) sc_sb.nd rfl (Or.inl rfl) (pe_lst pa_nil))
    (pss_cons (ps_for PassesOwn.never rfl (pi_list (pe_slice sl_list (pe_call GM (hr.mono (by decide)) (by rfl) mM kM bM .nil pass0 (pa_cons (pv 0) (pa_cons (pe_lst (pa_cons pe_str (pa_cons pe_str (pa_cons pe_str (pa_cons pe_str pa_nil))))) pa_nil))) po_none (po_some (pe_call GD (hr.mono (by decide)) (by rfl) mD kD bD .nil pass0 (pa_cons (pv 0) (pa_cons pe_int pa_nil)))))) (pg_name (i := 3) sc_sb.nd rfl (Or.inl rfl))
      (pss_one (ps_expr (pe_bm PySem.F.plainAttrs_list PySem.F.slot_list_append PySem.F.type_list_append mt_append (pv 2) (pa_cons (pe_tup (pa_cons (pv 3) (pa_cons (pe_call GW hr (by rfl) mW kW bW .nil pass0 (pa_cons (pv 0) (pa_cons pe_int (pa_cons (pv 1) pa_nil)))) pa_nil))) pa_nil)))))
    (pss_one (ps_ret (pe_callTy (call_dictP rfl) (by rfl) T.dict (by decide +kernel) (pa_cons (pv 2) pa_nil))))), ?_⟩
  refine q_asgL (el_lst ea_nil (by show 0 ≤ 100000; decide)) fun fo H1 hfo e1 h1 => ?_
  refine ⟨.ref p, rfl, by show 4 ≤ sizeLine; rw [sizeLine_eq]; omega, fun l nl => ?_⟩
  have x2 : Ex H1 (upd H1 l (.lst [.str "X", .str "Y", .str "Z", .str "W1"])) := Ex.new nl
  have e2 := e1.trans x2
  refine ⟨p, q, l, n, [.str "X", .str "Y", .str "Z", .str "W1"], rfl, S.ext e2, by show n + 4 < 90000; omega, by decide, sq_of upd_same, fun r G ys nr hr' hperm S2 B2 => ?_⟩
  have S2 : Spr G p q (n + 4) := S2
  refine ⟨.ref p, rfl, p, q, _, 5, rfl, S2, by omega, by decide, by decide, fun j G2 j0 j1 S3 B3 => ?_⟩
  obtain ⟨sx, sy, Sp, Sq⟩ := S2.lst
  have hr2 := B3 r _ (fun z => by rw [z, (S.ext e2).lst.choose_spec.choose_spec.1] at nr; cases nr) (fun z => by rw [z, (S.ext e2).lst.choose_spec.choose_spec.2] at nr; cases nr) hr'
  refine ⟨j, rfl, r, ys, rfl, sq_of hr2, fun c nc => ?_⟩
  refine ⟨c, rfl, ⟨_, sq_of upd_same⟩, ?_⟩
  have hfo1 : H1 fo = some (.lst []) := h1
  have nfo_p : fo ≠ p := fun z => by
    obtain ⟨_, _, Hp0, _⟩ := S.lst
    rw [z, Hp0] at hfo; cases hfo
  have nfo_q : fo ≠ q := fun z => by
    obtain ⟨_, _, _, Hq0⟩ := S.lst
    rw [z, Hq0] at hfo; cases hfo
  have hG2 : ∀ b o, b ≠ p → b ≠ q → H1 b = some o → G2 b = some o := fun b o n1 n2 h => B3 b o n1 n2 (B2 b o n1 n2 (x2 _ _ h))
  have hfo2 := hG2 fo _ nfo_p nfo_q hfo1
  have nfo_c : fo ≠ c := fun z => by rw [← z, hfo2] at nc; cases nc
  obtain ⟨_, _, Gp, Gq⟩ := S3.lst
  have nc_p : c ≠ p := fun z => by rw [z, Gp] at nc; cases nc
  have nc_q : c ≠ q := fun z => by rw [z, Gq] at nc; cases nc
  have hcm : ∀ x ∈ cutV ys none (some j), ∃ s ∈ SK, x = .str s := fun x hx => by
    have h1 := (cutV_sub ys none (some j)).subset hx
    have h2 := hperm.mem_iff.mp h1
    simp only [List.mem_cons, List.not_mem_nil, or_false] at h2
    rcases h2 with rfl | rfl | rfl | rfl <;> exact ⟨_, by decide, rfl⟩
  have hcn : (cutV ys none (some j)).Nodup := (cutV_sub ys none (some j)).nodup (hperm.nodup_iff.mpr (by decide))
  have hcl : (cutV ys none (some j)).length ≤ 4 := by
    have h1 := cutV_length ys none (some j)
    have h2 := hperm.length_eq
    have h3 : ([.str "X", .str "Y", .str "Z", .str "W1"] : List V).length = 4 := rfl
    omega
  generalize hcut : cutV ys none (some j) = cs at hcm hcn hcl ⊢
  have x3 : Ex G2 (upd G2 c (.lst cs)) := Ex.new nc
  have hk2 : kk 2 = 26 := rfl
  refine for_it (walk_list (K := K) (a := c) (xs := cs)) (fun i σ' G' => (∃ b : Option V, σ' = [some (.ref p), some (.ref va), some (.ref fo), b]) ∧ G' c = some (.lst cs) ∧ But p q H G' ∧ ∃ (m : Int) (L : List (Addr × V × Str × W)), Spr G' p q m ∧ m ≤ n + 5 + 26 * (i : Int) ∧ G' fo = some (.lst (L.map fun x => V.ref x.1)) ∧ (L.map fun x => V.str x.2.2.1) = cs.take i ∧ ∀ x ∈ L, G' x.1 = some (.tup [.str x.2.2.1, x.2.1]) ∧ WV G' x.2.1 x.2.2.2 ∧ Dw 2 x.2.2.2 ∧ x.2.2.1 ∈ SK) ?_ (fun i σ' G' _ z => sq_of z.2.1) ?_ ?_
  · refine ⟨⟨none, rfl⟩, upd_same, fun b o n1 n2 h => x3 _ _ (hG2 b o n1 n2 (e1 _ _ h)), n + 4 + 1, [], S3.ext x3, by simp; omega, x3 _ _ hfo2, rfl, fun x hx => nomatch hx⟩
  · rintro i x σ' G' G'' hi ⟨⟨b, rfl⟩, gc, gB, m, L, gS, gm, gf, gk, gL⟩ ⟨rfl, hx⟩
    have hx : cs[i]? = some x := hx
    obtain ⟨s, hs, rfl⟩ := hcm x (List.mem_of_getElem? hx)
    have hLl : L.length = i := by
      have := congrArg List.length gk
      simp at this
      omega
    refine ⟨.ref fo, rfl, .inl ⟨rfl, _, sq_of gf⟩, .str s, rfl, .ref p, rfl, .ref va, rfl, p, q, va, m, xs, rfl, gS, by rw [hk2]; omega, gB _ _ n1 n2 hv, n1, n2, hl, hS, fun r5 G5 n5 z S5 hn5 B5 hw dz => ?_⟩
    rw [hk2] at hn5
    refine ⟨by show 2 ≤ sizeLine; rw [sizeLine_eq]; omega, fun t nt => ?_⟩
    have x6 : Ex G5 (upd G5 t (.tup [.str s, r5])) := Ex.new nt
    have gf5 := x6 _ _ (B5 fo _ nfo_p nfo_q gf)
    obtain ⟨_, _, G'p, G'q⟩ := gS.lst
    have keepT : ∀ b ys, G'' b = some (.tup ys) → G5 b = some (.tup ys) := fun b ys h => B5 b _ (fun z => by rw [z, G'p] at h; cases h) (fun z => by rw [z, G'q] at h; cases h) h
    have ht : (upd G5 t (.tup [.str s, r5])) t = some (.tup [.str s, r5]) := upd_same
    refine ⟨fo, _, .ref t, rfl, rfl, gf5, sz_lt (by rw [List.length_map]; omega), ?_⟩
    have tx7 : Tx (upd G5 t (.tup [.str s, r5])) (upd (upd G5 t (.tup [.str s, r5])) fo (.lst ((L.map fun x => V.ref x.1) ++ [.ref t]))) := Tx.lst gf5
    have txA : Tx G'' (upd (upd G5 t (.tup [.str s, r5])) fo (.lst ((L.map fun x => V.ref x.1) ++ [.ref t]))) := fun b ys h => tx7 _ _ (x6 _ _ (keepT b ys h))
    refine ⟨⟨_, rfl⟩, ?_, ?_, n5, L ++ [(t, r5, s, z)], ?_, by push_cast; omega, ?_, ?_, ?_⟩
    · rw [upd_ne nfo_c.symm]
      exact x6 _ _ (B5 c _ nc_p nc_q gc)
    · intro b o n1 n2 h
      have nb : b ≠ fo := fun z => by rw [z, hfo] at h; cases h
      rw [upd_ne nb]
      exact x6 _ _ (B5 b o n1 n2 (gB b o n1 n2 h))
    · exact S5.keep (fun o h => by rw [upd_ne nfo_p.symm]; exact x6 _ _ h) (fun o h => by rw [upd_ne nfo_q.symm]; exact x6 _ _ h)
    · rw [upd_same, List.map_append]
      rfl
    · rw [List.map_append, gk, take_snoc hx]
      rfl
    · intro x hx
      rcases List.mem_append.mp hx with hx | hx
      · obtain ⟨a1, a2, a3, a4⟩ := gL x hx
        exact ⟨txA _ _ a1, WV.tx txA a2, a3, a4⟩
      · obtain rfl : x = (t, r5, s, z) := by simpa using hx
        exact ⟨tx7 _ _ ht, WV.tx tx7 (hw.ext x6), dz, hs⟩
  · rintro σ' G' ⟨⟨b, rfl⟩, gc, gB, m, L, gS, gm, gf, gk, gL⟩
    rw [List.take_length] at gk
    have hLl : L.length = cs.length := by
      have := congrArg List.length gk
      simpa using this
    refine ⟨.ref fo, rfl, fo, L.map (·.1), L.map (fun x => (Sum.inr x.2.2.1, x.2.1)), rfl, by rw [List.map_map]; exact sq_of gf, ?_, fun pp npp => ?_⟩
    · clear gk gf hLl
      induction L with
      | nil => exact .nil
      | cons a r ih => exact .cons (st_of (gL a List.mem_cons_self).1) (ih fun x hx => gL x (List.mem_cons_of_mem _ hx))
    have hnk : (L.map fun x => x.2.2.1).Nodup := by
      refine nodup_of V.str ?_
      rw [List.map_map]
      rw [← gk] at hcn
      exact hcn
    have hndL : ((L.map (fun x => ((Sum.inr x.2.2.1 : Key), x.2.1))).map (·.1)).Nodup := by
      rw [List.map_map]
      have := nodup_inr hnk
      rw [List.map_map] at this
      exact this
    rw [mergeK_nil hndL]
    have x9 : Ex G' (upd G' pp (.dK (L.map (fun x => ((Sum.inr x.2.2.1 : Key), x.2.1))))) := Ex.new npp
    have hS : SubV (upd G' pp (.dK (L.map (fun x => ((Sum.inr x.2.2.1 : Key), x.2.1))))) pp (L.map (fun x => x.2.2)) := by
      refine SubV.of upd_same ?_ ?_ ?_
      · rw [List.map_map, List.map_map]
        rfl
      · rw [List.map_map]
        exact hnk
      · generalize upd G' pp (.dK (L.map (fun x => ((Sum.inr x.2.2.1 : Key), x.2.1)))) = G8 at x9
        clear gk gf hLl hnk hndL
        induction L with
        | nil => exact .nil
        | cons a r ih => exact .cons (WV.ext x9 (gL a List.mem_cons_self).2.1) (ih fun x hx => gL x (List.mem_cons_of_mem _ hx))
    have npH : H pp = none := by
      cases hx : H pp with
      | none => rfl
      | some o =>
        exfalso
        obtain ⟨_, _, Tp, Tq⟩ := gS.lst
        by_cases z1 : pp = p
        · rw [z1, Tp] at npp
          cases npp
        · by_cases z2 : pp = q
          · rw [z2, Tq] at npp
            cases npp
          · rw [gB pp o z1 z2 hx] at npp
            cases npp
    refine k pp _ m (L.map (fun x => x.2.2)) npH (gS.ext x9) (by omega) (fun b o n1 n2 h => x9 _ _ (gB b o n1 n2 h)) hS (by rw [List.length_map]; omega) fun x hx => ?_
    obtain ⟨y, hy, rfl⟩ := List.mem_map.mp hx
    obtain ⟨_, _, a3, a4⟩ := gL y hy
    exact ⟨a4, a3⟩
end
end K24

set_option Elab.async false
set_option linter.all false
set_option maxRecDepth 100000
set_option maxHeartbeats 4000000
/-! The first fault of the parts of a pattern, in their order, is um's. -/
namespace K24
open PySem PySem.Spec PyProof.Rows L2 Evl
def lf (wd : W) : List (List Nat × W) → FD → Option Ft
  | [], _ => none
  | (pl, .v s) :: r, F => match wd.at pl with
    | none => none
    | some z => match fdGet F s with
      | none => lf wd r (F ++ [(s, (pl, z))])
      | some (p0, z0) => if z0.beq z = true then lf wd r F else some (.twice p0 pl)
  | (pl, .n s as) :: r, F => match wd.at pl with
    | none => none
    | some (.v _) => some (.clash pl)
    | some (.n t bs) => if s = t ∧ as.length = bs.length then lf wd r F else some (.clash pl)
mutual
theorem lf_um (wd : W) : ∀ (p z : W) (pl : List Nat) (F : FD) (rest : List (List Nat × W)), wd.at pl = some z →
    lf wd ((p.parts.map fun q => (pl ++ q.1, q.2)) ++ rest) F = match um p z pl F with | (some f, _) => some f | (none, F') => lf wd rest F'
  | .v s, z, pl, F, rest, h => by
    show lf wd ((pl ++ [], .v s) :: rest) F = _
    rw [List.append_nil]
    show (match wd.at pl with | none => none | some z => match fdGet F s with | none => lf wd rest (F ++ [(s, (pl, z))]) | some (p0, z0) => if z0.beq z = true then lf wd rest F else some (.twice p0 pl)) = _
    rw [h]
    unfold um
    dsimp only
    cases hg : fdGet F s with
    | none => rfl
    | some x =>
      obtain ⟨p0, z0⟩ := x
      dsimp only
      by_cases hb : z0.beq z = true
      · rw [if_pos hb, if_pos hb]
      · rw [if_neg hb, if_neg hb]
  | .n s as, .v t, pl, F, rest, h => by
    show lf wd ((pl ++ [], .n s as) :: (((W.partsL 0 as).map fun q => (pl ++ q.1, q.2)) ++ rest)) F = _
    rw [List.append_nil]
    unfold lf
    rw [h]
    rfl
  | .n s as, .n t bs, pl, F, rest, h => by
    show lf wd ((pl ++ [], .n s as) :: (((W.partsL 0 as).map fun q => (pl ++ q.1, q.2)) ++ rest)) F = _
    rw [List.append_nil]
    have hE : ∀ X, lf wd ((pl, .n s as) :: X) F = (match wd.at pl with | none => none | some (.v _) => some (.clash pl) | some (.n t bs) => if s = t ∧ as.length = bs.length then lf wd X F else some (.clash pl)) := fun X => rfl
    rw [hE, h]
    unfold um
    dsimp only
    by_cases hc : s = t ∧ as.length = bs.length
    · rw [if_pos hc, if_pos hc]
      refine lf_ums wd as bs 0 pl F rest (fun k b hk => ?_) hc.2
      rw [at_snoc, h, Nat.zero_add]
      show (W.n t bs).at [k] = _
      show (match bs[k]? with | some x => x.at [] | none => none) = _
      rw [hk]
      cases b <;> rfl
    · rw [if_neg hc, if_neg hc]
theorem lf_ums (wd : W) : ∀ (as bs : List W) (i : Nat) (pl : List Nat) (F : FD) (rest : List (List Nat × W)), (∀ k b, bs[k]? = some b → wd.at (pl ++ [i + k]) = some b) → as.length = bs.length →
    lf wd (((W.partsL i as).map fun q => (pl ++ q.1, q.2)) ++ rest) F = match ums as bs i pl F with | (some f, _) => some f | (none, F') => lf wd rest F'
  | [], _, i, pl, F, rest, h, _ => by
    unfold ums
    rfl
  | a :: as, [], i, pl, F, rest, h, hl => by cases hl
  | a :: as, b :: bs, i, pl, F, rest, h, hl => by
    have e : ((W.partsL i (a :: as)).map fun q => (pl ++ q.1, q.2)) ++ rest = (a.parts.map fun q => ((pl ++ [i]) ++ q.1, q.2)) ++ (((W.partsL (i + 1) as).map fun q => (pl ++ q.1, q.2)) ++ rest) := by
      show (((a.parts.map fun q => (i :: q.1, q.2)) ++ W.partsL (i + 1) as).map fun q => (pl ++ q.1, q.2)) ++ rest = _
      rw [List.map_append, List.map_map, List.append_assoc]
      congr 1
      refine List.map_congr_left fun q _ => ?_
      show (pl ++ (i :: q.1), q.2) = ((pl ++ [i]) ++ q.1, q.2)
      simp
    rw [e, lf_um wd a b (pl ++ [i]) F _ (h 0 b rfl)]
    unfold ums
    cases hu : um a b (pl ++ [i]) F with
    | mk o F' =>
      cases o with
      | some f => rfl
      | none =>
        dsimp only
        refine lf_ums wd as bs (i + 1) pl F' rest (fun k c hk => ?_) (by simpa using hl)
        have := h (k + 1) c (by simpa using hk)
        have e2 : i + 1 + k = i + (k + 1) := by omega
        rw [e2]
        exact this
end
theorem lf_all (p z : W) : lf z p.parts [] = (um p z [] []).1 := by
  have h := lf_um z p z [] [] [] (by cases z <;> rfl)
  have e : (p.parts.map fun q => (([] : List Nat) ++ q.1, q.2)) ++ [] = p.parts := by simp
  rw [e] at h
  rw [h]
  cases um p z [] [] with
  | mk o F =>
    cases o <;> rfl
end K24

set_option Elab.async false
set_option linter.all false
set_option maxRecDepth 100000
set_option maxHeartbeats 4000000
/-! Places as data: lists of numbers, and lists of these; the parts of a pattern, one after another. -/
namespace K24
open PySem PySem.Spec PyProof.Rows L2 Evl
def pD (p : List Nat) : PyData := .list (p.map fun i => PyData.int (i : Nat))
theorem ints_eqv : ∀ p q : List Nat, PyData.eqvAll (p.map fun i => PyData.int (i : Nat)) (q.map fun i => PyData.int (i : Nat)) = decide (p = q)
  | [], [] => rfl
  | [], _ :: _ => rfl
  | _ :: _, [] => rfl
  | a :: p, b :: q => by
    show ((((a : Nat) : Int) == ((b : Nat) : Int)) && PyData.eqvAll (p.map fun i => PyData.int (i : Nat)) (q.map fun i => PyData.int (i : Nat))) = _
    rw [ints_eqv p q]
    by_cases h : a = b
    · subst h
      by_cases h2 : p = q
      · subst h2; simp
      · simp [h2]
    · have : (((a : Nat) : Int) == ((b : Nat) : Int)) = false := by
        rw [beq_eq_false_iff_ne]
        intro z
        exact h (Int.ofNat.inj z)
      rw [this]
      simp [h]
theorem pD_eqv (p q : List Nat) : PyData.eqv (pD p) (pD q) = decide (p = q) := ints_eqv p q
theorem ints_lay : ∀ p : List Nat, PyData.canLayAll0 (p.map fun i => PyData.int (i : Nat)) = true
  | [] => rfl
  | a :: p => by
    show ((PyData.int ((a : Nat) : Int)).canLay0 && PyData.canLayAll0 (p.map fun i => PyData.int (i : Nat))) = true
    rw [ints_lay p]
    rfl
theorem ints_depth : ∀ p : List Nat, PyData.depthAll (p.map fun i => PyData.int (i : Nat)) = 0
  | [] => rfl
  | a :: p => by
    show max (PyData.int ((a : Nat) : Int)).depth (PyData.depthAll (p.map fun i => PyData.int (i : Nat))) = 0
    rw [ints_depth p]
    rfl
theorem pD_lay (p : List Nat) : (pD p).canLay0 = true := ints_lay p
theorem pD_depth (p : List Nat) : (pD p).depth ≤ 1 := by
  show PyData.depthAll (p.map fun i => PyData.int (i : Nat)) + 1 ≤ 1
  rw [ints_depth]
  exact Nat.le_refl _
theorem pD_shaped (p : List Nat) : SeqAt.shaped (pD p) = true := by
  unfold SeqAt.shaped
  rw [pD_lay, decide_eq_true (Nat.le_trans (pD_depth p) (by decide))]
  rfl
theorem pDs_lay : ∀ ps : List (List Nat), PyData.canLayAll0 (ps.map pD) = true
  | [] => rfl
  | a :: p => by
    show ((pD a).canLay0 && PyData.canLayAll0 (p.map pD)) = true
    rw [pDs_lay p, pD_lay]
    rfl
theorem pDs_depth : ∀ ps : List (List Nat), PyData.depthAll (ps.map pD) ≤ 1
  | [] => Nat.zero_le _
  | a :: p => by
    have h1 := pDs_depth p
    have h2 := pD_depth a
    show max (pD a).depth (PyData.depthAll (p.map pD)) ≤ 1
    omega
theorem pDs_shaped (ps : List (List Nat)) : SeqAt.shaped (.list (ps.map pD)) = true := by
  unfold SeqAt.shaped
  have h1 : (PyData.list (ps.map pD)).canLay0 = true := pDs_lay ps
  have h2 : (PyData.list (ps.map pD)).depth ≤ 64 := by
    have := pDs_depth ps
    show PyData.depthAll (ps.map pD) + 1 ≤ 64
    omega
  rw [h1, decide_eq_true h2]
  rfl
theorem pDs_any (ps : List (List Nat)) (p : List Nat) : ((ps.map pD).any fun z => PyData.eqv z (pD p)) = decide (p ∈ ps) := by
  induction ps with
  | nil => rfl
  | cons a r ih =>
    rw [List.map_cons, List.any_cons, ih, pD_eqv]
    by_cases h : a = p
    · subst h; simp
    · simp [h, Ne.symm h]
section
variable {K : PySem.W.Frag} {H : Hp}
theorem dp_numsN : ∀ p : List Nat, DpAll K H (nums p) (p.map fun i => PyData.int (i : Nat))
  | [] => .nil
  | a :: p => .cons (.int _) (dp_numsN p)
theorem dp_place {l : Addr} {p : List Nat} (h : H l = some (.lst (nums p))) : Dp K H (.ref l) (pD p) := .lst (sq_of h) (dp_numsN p)
theorem dp_places : ∀ {ls : List Addr} {ps : List (List Nat)}, A2 (fun (l : Addr) p => H l = some (.lst (nums p))) ls ps → DpAll K H (ls.map V.ref) (ps.map pD)
  | [], [], _ => .nil
  | a :: ls, p :: ps, ⟨h, t⟩ => .cons (dp_place h) (dp_places t)
  | [], _ :: _, h => nomatch h
  | _ :: _, [], h => nomatch h
end
/-- the parts' places, each by its list -/
theorem pav_split {B : Addr → Prop} {H : Hp} : ∀ {xs : List V} {L : List (List Nat × W)}, A2 (PaV B H) xs L → ∃ ls : List Addr, A2 (fun (l : Addr) p => H l = some (.lst (nums p))) ls (L.map (·.1)) ∧
    ∀ (i : Nat) (q : List Nat × W), L[i]? = some q → ∃ t l u, xs[i]? = some (.ref t) ∧ ls[i]? = some l ∧ H t = some (.tup [.ref l, u]) ∧ B l ∧ H l = some (.lst (nums q.1)) ∧ WV H u q.2
  | [], [], _ => ⟨[], trivial, fun i q h => by simp at h⟩
  | x :: xs, q :: L, ⟨⟨t, l, u, e, h1, h2, h3, h4⟩, r⟩ => by
    obtain ⟨ls, a, b⟩ := pav_split r
    refine ⟨l :: ls, ⟨h3, a⟩, fun i q' h => ?_⟩
    cases i with
    | zero =>
      obtain rfl : q = q' := by simpa using h
      exact ⟨t, l, u, by rw [e]; rfl, rfl, h1, h2, h3, h4⟩
    | succ i => exact b i q' (by simpa using h)
  | [], _ :: _, h => nomatch h
  | _ :: _, [], h => nomatch h
/-- o is the first fault of the parts, F being what is known; every place met is one of wd -/
inductive Run (wd : W) : List (List Nat × W) → FD → Option Ft → Prop
  | nil {F : FD} : Run wd [] F none
  | new {pl : List Nat} {s : Str} {r : List (List Nat × W)} {F : FD} {z : W} {o : Option Ft} : wd.at pl = some z → fdGet F s = none → Run wd r (F ++ [(s, (pl, z))]) o → Run wd ((pl, .v s) :: r) F o
  | same {pl p0 : List Nat} {s : Str} {r : List (List Nat × W)} {F : FD} {z z0 : W} {o : Option Ft} : wd.at pl = some z → fdGet F s = some (p0, z0) → z0.beq z = true → Run wd r F o → Run wd ((pl, .v s) :: r) F o
  | twice {pl p0 : List Nat} {s : Str} {r : List (List Nat × W)} {F : FD} {z z0 : W} : wd.at pl = some z → fdGet F s = some (p0, z0) → z0.beq z = false → Run wd ((pl, .v s) :: r) F (some (.twice p0 pl))
  | fits {pl : List Nat} {s : Str} {as bs : List W} {r : List (List Nat × W)} {F : FD} {o : Option Ft} : wd.at pl = some (.n s bs) → as.length = bs.length → Run wd r F o → Run wd ((pl, .n s as) :: r) F o
  | clashV {pl : List Nat} {s t : Str} {as : List W} {r : List (List Nat × W)} {F : FD} : wd.at pl = some (.v t) → Run wd ((pl, .n s as) :: r) F (some (.clash pl))
  | clash {pl : List Nat} {s t : Str} {as bs : List W} {r : List (List Nat × W)} {F : FD} : wd.at pl = some (.n t bs) → ¬ (s = t ∧ as.length = bs.length) → Run wd ((pl, .n s as) :: r) F (some (.clash pl))
def Goes (wd : W) (rest : List (List Nat × W)) (o : Option Ft) : Option Ft × FD → Prop
  | (some f, _) => o = some f
  | (none, F) => Run wd rest F o
mutual
theorem run_um (wd : W) : ∀ (p z : W) (pl : List Nat) (F : FD) (rest : List (List Nat × W)) (o : Option Ft), wd.at pl = some z → Goes wd rest o (um p z pl F) → Run wd ((p.parts.map fun q => (pl ++ q.1, q.2)) ++ rest) F o
  | .v s, z, pl, F, rest, o, h, g => by
    show Run wd ((pl ++ [], .v s) :: rest) F o
    rw [List.append_nil]
    unfold um at g
    cases hg : fdGet F s with
    | none =>
      rw [hg] at g
      exact .new h hg g
    | some x =>
      obtain ⟨p0, z0⟩ := x
      rw [hg] at g
      dsimp only at g
      by_cases hb : z0.beq z = true
      · rw [if_pos hb] at g
        exact .same h hg hb g
      · rw [if_neg hb] at g
        obtain rfl : o = some (.twice p0 pl) := g
        exact .twice h hg (by simpa using hb)
  | .n s as, .v t, pl, F, rest, o, h, g => by
    show Run wd ((pl ++ [], .n s as) :: (((W.partsL 0 as).map fun q => (pl ++ q.1, q.2)) ++ rest)) F o
    rw [List.append_nil]
    obtain rfl : o = some (.clash pl) := g
    exact .clashV h
  | .n s as, .n t bs, pl, F, rest, o, h, g => by
    show Run wd ((pl ++ [], .n s as) :: (((W.partsL 0 as).map fun q => (pl ++ q.1, q.2)) ++ rest)) F o
    rw [List.append_nil]
    unfold um at g
    by_cases hc : s = t ∧ as.length = bs.length
    · rw [if_pos hc] at g
      obtain ⟨rfl, hl⟩ := hc
      refine .fits h hl (run_ums wd as bs 0 pl F rest o (fun k b hk => ?_) hl g)
      rw [at_snoc, h, Nat.zero_add]
      show (match bs[k]? with | some x => x.at [] | none => none) = _
      rw [hk]
      cases b <;> rfl
    · rw [if_neg hc] at g
      obtain rfl : o = some (.clash pl) := g
      exact .clash h hc
theorem run_ums (wd : W) : ∀ (as bs : List W) (i : Nat) (pl : List Nat) (F : FD) (rest : List (List Nat × W)) (o : Option Ft), (∀ k b, bs[k]? = some b → wd.at (pl ++ [i + k]) = some b) → as.length = bs.length → Goes wd rest o (ums as bs i pl F) →
    Run wd (((W.partsL i as).map fun q => (pl ++ q.1, q.2)) ++ rest) F o
  | [], _, i, pl, F, rest, o, h, _, g => by
    unfold ums at g
    exact g
  | a :: as, [], i, pl, F, rest, o, h, hl, g => by cases hl
  | a :: as, b :: bs, i, pl, F, rest, o, h, hl, g => by
    have e : ((W.partsL i (a :: as)).map fun q => (pl ++ q.1, q.2)) ++ rest = (a.parts.map fun q => ((pl ++ [i]) ++ q.1, q.2)) ++ (((W.partsL (i + 1) as).map fun q => (pl ++ q.1, q.2)) ++ rest) := by
      show (((a.parts.map fun q => (i :: q.1, q.2)) ++ W.partsL (i + 1) as).map fun q => (pl ++ q.1, q.2)) ++ rest = _
      rw [List.map_append, List.map_map, List.append_assoc]
      congr 1
      refine List.map_congr_left fun q _ => ?_
      show (pl ++ (i :: q.1), q.2) = ((pl ++ [i]) ++ q.1, q.2)
      simp
    rw [e]
    refine run_um wd a b (pl ++ [i]) F _ o (h 0 b rfl) ?_
    unfold ums at g
    cases hu : um a b (pl ++ [i]) F with
    | mk o1 F' =>
      rw [hu] at g
      cases o1 with
      | some f => exact g
      | none =>
        refine run_ums wd as bs (i + 1) pl F' rest o (fun k c hk => ?_) (by simpa using hl) g
        have := h (k + 1) c (by simpa using hk)
        have e2 : i + 1 + k = i + (k + 1) := by omega
        rw [e2]
        exact this
end
theorem run_all (p z : W) : Run z p.parts [] (um p z [] []).1 := by
  have e : (p.parts.map fun q => (([] : List Nat) ++ q.1, q.2)) ++ [] = p.parts := by simp
  have h := run_um z p z [] [] [] (um p z [] []).1 (by cases z <;> rfl) (by
    cases um p z [] [] with
    | mk o F =>
      cases o with
      | some f => exact rfl
      | none => exact .nil)
  rw [e] at h
  exact h
end K24

set_option Elab.async false
set_option linter.all false
set_option maxRecDepth 100000
set_option maxHeartbeats 4000000
/-! The word that stands at a place of the other word. -/
namespace K24
open PySem PySem.Spec PyProof.Rows L2 Evl
mutual
theorem W.parts_at : ∀ (w : W) (q : List Nat × W), q ∈ w.parts → w.at q.1 = some q.2
  | .v s, q, h => by
    obtain rfl : q = _ := by simpa [W.parts] using h
    rfl
  | .n s as, q, h => by
    rcases List.mem_cons.mp h with rfl | h
    · rfl
    · obtain ⟨i, x, p, e1, e2, e3⟩ := W.partsL_at 0 as q h
      rw [Nat.zero_add] at e2
      rw [e2]
      show (match as[i]? with | some x => x.at p | none => none) = _
      rw [e1]
      exact e3
theorem W.partsL_at : ∀ (j : Nat) (as : List W) (q : List Nat × W), q ∈ W.partsL j as → ∃ i x p, as[i]? = some x ∧ q.1 = (j + i) :: p ∧ x.at p = some q.2
  | _, [], q, h => nomatch h
  | j, a :: r, q, h => by
    rcases List.mem_append.mp h with h | h
    · obtain ⟨q2, hq, rfl⟩ := List.mem_map.mp h
      exact ⟨0, a, q2.1, rfl, rfl, W.parts_at a q2 hq⟩
    · obtain ⟨i, x, p, e1, e2, e3⟩ := W.partsL_at (j + 1) r q h
      exact ⟨i + 1, x, p, by simpa using e1, by rw [e2]; congr 1; omega, e3⟩
end
mutual
theorem W.at_parts : ∀ (w : W) (pl : List Nat) (y : W), w.at pl = some y → (pl, y) ∈ w.parts
  | .v s, [], y, h => by
    obtain rfl : W.v s = y := Option.some.inj h
    exact List.mem_cons_self
  | .v s, _ :: _, y, h => nomatch h
  | .n s as, [], y, h => by
    obtain rfl : W.n s as = y := Option.some.inj h
    exact List.mem_cons_self
  | .n s as, i :: p, y, h => by
    have h : (match as[i]? with | some x => x.at p | none => none) = some y := h
    cases hx : as[i]? with
    | none => rw [hx] at h; cases h
    | some x =>
      rw [hx] at h
      have := W.at_partsL as 0 i x p y hx h
      rw [Nat.zero_add] at this
      exact List.mem_cons_of_mem _ this
theorem W.at_partsL : ∀ (as : List W) (j i : Nat) (x : W) (p : List Nat) (y : W), as[i]? = some x → x.at p = some y → ((j + i) :: p, y) ∈ W.partsL j as
  | [], j, i, x, p, y, h, _ => by simp at h
  | a :: as, j, 0, x, p, y, h, k => by
    have e : a = x := by simpa using h
    rw [← e] at k
    exact List.mem_append_left _ (List.mem_map.mpr ⟨(p, y), W.at_parts a p y k, rfl⟩)
  | a :: as, j, i + 1, x, p, y, h, k => by
    have := W.at_partsL as (j + 1) i x p y (by simpa using h) k
    have e : j + 1 + i = j + (i + 1) := by omega
    rw [e] at this
    exact List.mem_append_right _ this
end
theorem given_head {n : Nat} {f : Nat → Bool} {g : Nat → V} {i : Nat} (h : i < n) (k : f i = true) : ∃ j, j < n ∧ f j = true ∧ (given n f g)[0]? = some (g j) := by
  have hp := given_pos (g := g) h k
  have hl : ((List.range n).filter f).length = (given n f g).length := by unfold given; rw [List.length_map]
  obtain ⟨j, hj⟩ : ∃ j, ((List.range n).filter f)[0]? = some j := ⟨((List.range n).filter f)[0]'(by omega), by simp⟩
  have hm := List.mem_filter.mp (List.mem_of_getElem? hj)
  refine ⟨j, List.mem_range.mp hm.1, hm.2, ?_⟩
  unfold given
  rw [List.getElem?_map, hj]
  rfl
/-- the parts' words, one by one -/
theorem pav_vals {B : Addr → Prop} {H : Hp} : ∀ {xs : List V} {L : List (List Nat × W)}, A2 (PaV B H) xs L → ∃ us : Nat → V, ∀ (i : Nat) (q : List Nat × W), L[i]? = some q → ∃ t l, xs[i]? = some (.ref t) ∧ H t = some (.tup [.ref l, us i]) ∧ H l = some (.lst (nums q.1)) ∧ WV H (us i) q.2
  | [], [], _ => ⟨fun _ => .non, fun i q h => by simp at h⟩
  | x :: xs, q :: L, ⟨⟨t, l, u, e, h1, h2, h3, h4⟩, r⟩ => by
    obtain ⟨us, b⟩ := pav_vals r
    refine ⟨fun i => match i with | 0 => u | j + 1 => us j, fun i q' h => ?_⟩
    cases i with
    | zero =>
      obtain rfl : q = q' := by simpa using h
      exact ⟨t, l, by rw [e]; rfl, h1, h3, h4⟩
    | succ i => exact b i q' (by simpa using h)
  | [], _ :: _, h => nomatch h
  | _ :: _, [], h => nomatch h
section
variable {K : PySem.W.Frag} {σ : L2.St} {H : Hp}
def tThere (K : PySem.W.Frag) : TE := tIf (tTest (tOp (rInD K) (tVar 4) (tVar 3)))
  (tOp (rIxL K) (tLc (iList K (tCall (spDp 13) [] E0 (tCons (tVar 1) tNil))) (gPair K 7 8) (tTest (tOp (rEqD K) (tVar 7) (tVar 4))) (tVar 8) [7, 8]) (tC (V.int 0))) (tC V.non)
theorem evp_there {u v : V} {kd Dl l : Addr} {a b : Option V} {ls : List Addr} {pl : List Nat} {z y : W} (gb : H Dl = some (.lst (ls.map V.ref))) (hls : A2 (fun (l : Addr) p => H l = some (.lst (nums p))) ls (z.parts.map (·.1))) (gl : H l = some (.lst (nums pl)))
    (hv : WV H v z) (hy : z.at pl = some y) (hd : z.dp < 13) (hs : z.sz ≤ 9000) : EvP (tThere K) [some u, some v, some (.ref kd), some (.ref Dl), some (.ref l), a, b, none, none] H (fun r G => WV G r y) := fun H1 e Q q => by
  have hmem := W.at_parts z pl y hy
  have rv : RV (rInD K) (.ref l) (.ref Dl) H (.bl true) := fun H2 e2 Q2 q2 => by
    refine ⟨pD pl, z.parts.map (pD ∘ (·.1)), dp_place (e2 _ _ gl), ?_, pD_shaped pl, ?_, ?_⟩
    · have this := dp_places (K := K) (H := H2) (hls.mono fun a b h => e2 a _ h)
      rw [List.map_map] at this
      exact .lst (sq_of (e2 _ _ gb)) this
    · have this := pDs_shaped (z.parts.map (·.1))
      rw [List.map_map] at this
      exact this
    · have h1 := pDs_any (z.parts.map (·.1)) pl
      rw [List.map_map] at h1
      rw [h1, decide_eq_true (List.mem_map.mpr ⟨_, hmem, rfl⟩)]
      exact q2 H2 (Ex.refl _)
  refine et_test (b := true) (ev_op (x := .ref l) (y := .ref Dl) (ev_var (i := 4) rfl) (ev_var (i := 3) rfl) rv) H1 e _ fun H2 e2 => ?_
  rw [if_pos rfl]
  have e12 := e.trans e2
  refine ⟨v, rfl, v, z, rfl, hv.ext e12, hd, by decide, hs, fun pq zs H5 hpq e5 h5 hz => ?_⟩
  have hzl := hz.length
  have hpl := W.parts_len z
  obtain ⟨us, hus⟩ := pav_vals hz
  have glH : H5 l = some (.lst (nums pl)) := e5 _ _ (e12 _ _ gl)
  refine ⟨pq, rfl, ⟨zs, sq_of h5⟩, fun D2 hD2 => lc_list (xs := zs) (Cw H5 (fun i => ((z.parts[i]?).map fun q => decide (q.1 = pl)).getD false) us D2) ⟨hD2, Ex.new hD2, upd_same⟩ (fun i' H' _ p => sq_of (p.2.1 pq _ h5)) (fun j x G hj c => ?_) (fun G c => ?_)⟩
  · obtain ⟨q5, hq5, _⟩ := hz.get hj
    obtain ⟨t5, l5, g1, g3, g5, g6⟩ := hus j q5 hq5
    obtain rfl : x = .ref t5 := Option.some.inj (hj.symm.trans g1)
    refine ⟨t5, _, rfl, st_of (c.2.1 _ _ g3), rfl, _, _, rfl, _, _, rfl, rfl, rfl, cw_turn c (by have := (List.getElem?_eq_some_iff.mp hj).1; omega) ?_ fun _ => ev_var rfl⟩
    rw [hq5]
    show EvT _ _ _ (decide (q5.1 = pl))
    rw [← pD_eqv]
    exact et_test (ev_op (x := .ref l5) (y := .ref l) (ev_var rfl) (ev_var rfl) fun H7 e7 Q7 q7 => ⟨pD q5.1, pD pl, dp_place (e7 _ _ g5), dp_place (e7 _ _ glH), pD_shaped _, pD_shaped _, q7 H7 (Ex.refl _)⟩)
  · obtain ⟨i0, hi0⟩ := List.getElem?_of_mem hmem
    have hlt := (List.getElem?_eq_some_iff.mp hi0).1
    obtain ⟨j, hj, hf, hg⟩ := given_head (n := zs.length) (f := fun i => ((z.parts[i]?).map fun q : List Nat × W => decide (q.1 = pl)).getD false) (g := us) (i := i0) (by omega) (by rw [hi0]; simp)
    obtain ⟨qj, hqj⟩ : ∃ qj, z.parts[j]? = some qj := ⟨z.parts[j]'(by omega), by simp⟩
    rw [hqj] at hf
    have hpj : qj.1 = pl := of_decide_eq_true hf
    obtain ⟨_, _, _, _, _, g6⟩ := hus j qj hqj
    have hyj := W.parts_at z qj (List.mem_of_getElem? hqj)
    rw [hpj, hy] at hyj
    obtain rfl : y = qj.2 := Option.some.inj hyj
    have hc := c.2.2
    refine ⟨D2, _, _, us j, rfl, rfl, sq_of hc, atI_nat (j := 0) hg, q (us j) G ((e2.trans e5).trans c.2.1) (g6.ext c.2.1)⟩
end
end K24

set_option Elab.async false
set_option linter.all false
set_option maxRecDepth 100000
set_option maxHeartbeats 4000000
/-! _law_fault. -/
namespace K24
open PySem PySem.Spec PyProof.Rows L2 Evl
theorem hu65 {k : Nat} {A : Around} (r : Room k A) : A.units + 65 < cLine := by
  have := r.un
  omega
section
variable {P : Program} {w : World} {K : PySem.W.Frag} {mg : Str → Option Value} {base : Heap}
theorem Wok.at {z : W} (h : Wok z) : ∀ {pl : List Nat} {y : W}, z.at pl = some y → Wok y := by
  intro pl
  induction pl generalizing z with
  | nil =>
    intro y e
    have e : some z = some y := by cases z <;> exact e
    obtain rfl := Option.some.inj e
    exact h
  | cons i p ih =>
    intro y e
    cases z with
    | v s => cases e
    | n s as =>
      have e : (match as[i]? with | some x => x.at p | none => none) = some y := e
      cases hx : as[i]? with
      | none => rw [hx] at e; cases e
      | some x =>
        rw [hx] at e
        exact ih (h.kid x (List.mem_of_getElem? hx)) e
def Ft.ov (o : Option Ft) : O := match o with | some f => f.o | none => .non
def spLf : Sp := fun vs H Q _ => ∃ (u v : V) (p z : W), vs = [u, v] ∧ WV H u p ∧ WV H v z ∧ p.dp < 13 ∧ z.dp < 13 ∧ p.sz ≤ 9000 ∧ z.sz ≤ 9000 ∧ p.o.ss = true ∧ z.o.ss = true ∧
  ∀ (r : V) (G : Hp), Ex H G → OV (Hx (Old H) G) r (Ft.ov (um p z [] []).1) → Q r G
abbrev nLf : List Str := ["_law_pattern", "_law_word", "_law_known", "_law_bars", "_law_place", "_law_part", "_law_there", "_law_at", "_law_deep"]
theorem sc_lf : FnScope nLf ["_law_pattern", "_law_word"] (defScope s__law_fault) := ⟨rfl, rfl, rfl, by decide +kernel, rfl, by decide +kernel, by decide +kernel⟩
theorem ok_law_fault (T : T24 P w K mg base) : Ok P w K mg base CX0 "_law_fault" ["_law_pattern", "_law_word"] 20 spLf := by
  obtain ⟨fP, dP, GP, bP, kP, mP⟩ := (ok_d_parts T 13).ex
  refine T.ok 45 rfl sc_lf (fun vs H Q E h => ?_) (fun kV doc pm an cdv ct us hl => match us, hl with | [_, _], _ => rfl) (fun f cdv A outer s H vs Q E hr h => ?_)
  · obtain ⟨u, v, p, z, rfl, _⟩ := h
    rfl
  obtain ⟨u, v, p, z, rfl, hu, hv, dp1, dp2, sz1, sz2, ss1, ss2, k⟩ := h
  refine ⟨_, pss_cons (ps_par (i := 2) (j := 3) rfl sc_lf.nd rfl rfl (by decide) rfl rfl (pa_cons pe_dnewK (pa_cons
      (pe_lc (own := [("_law_place", 4), ("_law_part", 5)]) (g := gPair K 4 5) (tt := tYes) (te := tVar 4) rfl sc_lf.nd (pi_list (pe_call GP (hr.mono (by decide)) (by rfl) mP kP bP .nil pass0 (pa_cons (pv 1) pa_nil))) (blkOk_by (N := nLf) (sc := defScope s__law_fault) (by decide +kernel))
        (fun _ _ _ _ _ => pg_tup rfl (pgs_cons (pg_name (i := 4) sc_lf.nd rfl (Or.inl rfl)) (pgs_cons (pg_name (i := 5) sc_lf.nd rfl (Or.inl rfl)) pgs_nil))) (fun _ _ _ _ _ => pts_nil) (fun _ _ _ _ _ => pv 4)) pa_nil)) (by rfl))
    (pss_cons (ps_for PassesOwn.never rfl (pi_list (pe_call GP (hr.mono (by decide)) (by rfl) mP kP bP .nil pass0 (pa_cons (pv 0) pa_nil))) (pg_tup rfl (pgs_cons (pg_name (i := 4) sc_lf.nd rfl (Or.inr rfl)) (pgs_cons (pg_name (i := 5) sc_lf.nd rfl (Or.inl rfl)) pgs_nil)))
      (pss_cons (ps_set (i := 6) sc_lf.nd rfl (Or.inl rfl) (pe_ifExp (pt_cmpR (op_inD (hu65 hr)) (pv 4) (pv 3) (by rfl))
          (pe_ix ix_list (pe_lc (own := [("_law_at", 7), ("_law_deep", 8)]) (g := gPair K 7 8) (tt := tTest (tOp (rEqD K) (tVar 7) (tVar 4))) (te := tVar 8) rfl sc_lf.nd (pi_list (pe_call GP (hr.mono (by decide)) (by rfl) mP kP bP .nil pass0 (pa_cons (pv 1) pa_nil))) (blkOk_by (N := nLf) (sc := defScope s__law_fault) (by decide +kernel))
            (fun _ _ _ _ _ => pg_tup rfl (pgs_cons (pg_name (i := 7) sc_lf.nd rfl (Or.inl rfl)) (pgs_cons (pg_name (i := 8) sc_lf.nd rfl (Or.inl rfl)) pgs_nil))) (fun _ _ _ _ _ => pts_one (pt_cmpR (op_eqD hr.units) (pv 7) (pv 4) (nomark _))) (fun _ _ _ _ _ => pv 8)) pe_int (fun _ _ => rfl)) pe_non))
      (pss_one (ps_if (pt_val (pe_isiB T.isi T.str PyProof.Rows.boot_str (pv 5)))
        (pss_cons (ps_if (PW.pt (pw_and (pt_cmp (pc_din (hu_of hr) (pv 5) (pv 2))) (pw_and1 (pt_cmpR (op_neD hr.units) (pe_ix ix_tup (pe_dget (hu_of hr) (pv 2) (pv 5) (fun _ _ => rfl)) pe_int (fun _ _ => rfl)) (pv 6) (nomark _)))))
            (pss_one (ps_ret (pe_tup (pa_cons pe_str (pa_cons (pe_ix ix_tup (pe_dget (hu_of hr) (pv 2) (pv 5) (fun _ _ => rfl)) pe_int (fun _ _ => rfl)) (pa_cons (pv 4) pa_nil)))))) pss_nil)
          (pss_one (ps_expr (pe_dsetd (pv 2) (pv 5) (pe_tup (pa_cons (pv 4) (pa_cons (pv 6) pa_nil))) ⟨rfl, rfl, rfl, rfl⟩))))
        (pss_one (ps_if (PW.pt (pw_or (pt_val (pe_isiB T.isi T.str PyProof.Rows.boot_str (pv 6))) (pw_or (pt_cmpR op_ne (pe_ix ix_tup (pv 5) pe_int (fun _ _ => rfl)) (pe_ix ix_tup (pv 6) pe_int (fun _ _ => rfl)) (nomark _))
            (pw_or1 (pt_cmpR op_ne (pe_callB call_len (by rfl) T.len PySem.boot_len (pa_cons (pv 5) pa_nil)) (pe_callB call_len (by rfl) T.len PySem.boot_len (pa_cons (pv 6) pa_nil)) (nomark _))))))
          (pss_one (ps_ret (pe_tup (pa_cons pe_str (pa_cons (pv 4) pa_nil))))) pss_nil))))))
    (pss_one (ps_ret pe_non))), ?_⟩
  intro kd nkd
  have x0 : Ex H (upd H kd (.dK [])) := Ex.new nkd
  have h0 : (upd H kd (.dK [])) kd = some (.dK []) := upd_same
  generalize upd H kd (.dK []) = H0 at x0 h0 ⊢
  refine ⟨v, rfl, v, z, rfl, hv.ext x0, dp2, by decide, sz2, fun pq zs H5 hpq e5 h5 hz => ?_⟩
  obtain ⟨ls, hls, hat⟩ := pav_split hz
  have hzl := hz.length
  have hpl := W.parts_len z
  have hll : ls.length = z.parts.length := by have := hls.length; simpa using this
  refine ⟨pq, rfl, ⟨zs, sq_of h5⟩, fun Dl hD => lc_list (xs := zs) (Cw H5 (fun _ => true) (fun i => ((ls[i]?).map V.ref).getD .non) Dl) ⟨hD, Ex.new hD, upd_same⟩ (fun i' H' _ p => sq_of (p.2.1 pq _ h5)) (fun j x G hj c => ?_) (fun G c => ?_)⟩
  · obtain ⟨q5, hq5, _⟩ := hz.get hj
    obtain ⟨t5, l5, u5, g1, g2, g3, g4, g5, g6⟩ := hat j q5 hq5
    obtain rfl : x = .ref t5 := Option.some.inj (hj.symm.trans g1)
    refine ⟨t5, _, rfl, st_of (c.2.1 _ _ g3), rfl, _, _, rfl, _, _, rfl, rfl, rfl, cw_turn c (by have := (List.getElem?_eq_some_iff.mp hj).1; omega) (fun H1 e Q q => q H1 (Ex.refl _)) fun _ => ?_⟩
    rw [g2]
    exact ev_var rfl
  have hbars : G Dl = some (.lst (ls.map V.ref)) := by
    rw [c.2.2, given_map ls V.ref zs.length (by omega)]
  have eG : Ex H0 G := e5.trans c.2.1
  have nDl : H0 Dl = none := fresh_back e5 hD
  have hls : A2 (fun (l : Addr) p => G l = some (.lst (nums p))) ls (z.parts.map (·.1)) := hls.mono fun a b h => c.2.1 _ _ h
  clear hat hz h5 hzl
  refine ⟨_, _, rfl, ?_⟩
  have hkd := eG _ _ h0
  have eHG := x0.trans eG
  refine ⟨u, rfl, u, p, rfl, hu.ext eHG, dp1, by decide, sz1, fun pr xs H6 hpr e6 h6 hx => ?_⟩
  refine ⟨pr, rfl, ⟨xs, sq_of h6⟩, ?_⟩
  have hxl := hx.length
  have npr : pr ≠ kd := fun q => by rw [q, hkd] at hpr; cases hpr
  have eH6 := eHG.trans e6
  have hrun := run_all p z
  generalize (um p z [] []).1 = o at hrun k
  refine for_it (walk_list (K := K) (a := pr) (xs := xs)) (fun i σ' G' => (∃ a b c : Option V, σ' = [some u, some v, some (.ref kd), some (.ref Dl), a, b, c, none, none]) ∧ (∀ b o, b ≠ kd → H6 b = some o → G' b = some o) ∧ ∃ (F : FD) (kv : List (Key × V)), G' kd = some (.dK kv) ∧ kv.map (·.1) = F.map (fun q => (Sum.inr q.1 : Key)) ∧
    A2 (fun v q => ∃ t l w, v = V.ref t ∧ G' t = some (.tup [.ref l, w]) ∧ G' l = some (.lst (nums q.2.1)) ∧ WV G' w q.2.2 ∧ H l = none) (kv.map (·.2)) F ∧ F.length ≤ i ∧ (∀ q ∈ F, Wok q.2.2) ∧ Run z (p.parts.drop i) F o) ?_ (fun i σ' G' _ c => sq_of (c.2.1 pr _ npr h6)) ?_ ?_
  · exact ⟨⟨none, none, none, rfl⟩, fun b o _ h => h, [], [], e6 _ _ hkd, rfl, trivial, Nat.zero_le _, (fun q hq => nomatch hq), hrun⟩
  · rintro i x σ' Gz G' hi ⟨⟨a, b, cc, rfl⟩, GE, F, kv, gk, gkk, gkv, gl, gw, gr⟩ ⟨rfl, hx0⟩
    have hx0 : xs[i]? = some x := hx0
    obtain ⟨q, hq, t, l, u', rfl, k1, k2, k3, k5⟩ := hx.get hx0
    have hdr : p.parts.drop i = q :: p.parts.drop (i + 1) := by
      have hlt := (List.getElem?_eq_some_iff.mp hq).1
      rw [List.drop_eq_getElem_cons hlt]
      congr 1
      exact (List.getElem?_eq_some_iff.mp hq).2
    rw [hdr] at gr
    have nt : t ≠ kd := fun q => by rw [q] at k1; rw [e6 _ _ hkd] at k1; cases k1
    have nl : l ≠ kd := fun q => by rw [q] at k3; rw [e6 _ _ hkd] at k3; cases k3
    refine ⟨t, _, rfl, st_of (GE _ _ nt k1), rfl, _, _, rfl, _, _, rfl, rfl, ?_⟩
    obtain ⟨pl, part⟩ := q
    dsimp only at k3 k5 gr
    have nDl' : Dl ≠ kd := fun q => by rw [q, h0] at nDl; cases nDl
    have gbars := GE _ _ nDl' (e6 _ _ hbars)
    have hkd6 := e6 _ _ hkd
    have hls' : A2 (fun (l : Addr) p => G' l = some (.lst (nums p))) ls (z.parts.map (·.1)) := hls.mono fun a b h => GE _ _ (fun q => by rw [q, hkd] at h; cases h) (e6 _ _ h)
    have tx : Tx H G' := fun a xs h => GE a _ (fun q => by rw [q, nkd] at h; cases h) (eH6 _ _ h)
    have tx6 : Tx H6 G' := fun a xs h => GE a _ (fun q => by rw [q, hkd6] at h; cases h) h
    have gl' := GE _ _ nl k3
    have nlH : H l = none := fresh_back eHG k2.1
    have hpart : WV G' u' part := k5.tx tx6
    obtain ⟨y, hy⟩ : ∃ y, z.at pl = some y := by cases gr <;> exact ⟨_, by assumption⟩
    have wz : Wok z := ⟨ss2, by omega, sz2⟩
    have wy := wz.at hy
    have hwy : y.dp ≤ 60 := by have := wy.2.1; omega
    have hplen := W.parts_len p
    have hilt : i < p.parts.length := (List.getElem?_eq_some_iff.mp hq).1
    have hkvl : kv.length = F.length := by simpa using congrArg List.length gkk
    refine evp_there gbars hls' gl' (hv.tx tx) hy dp2 sz2 G' (Ex.refl _) _ fun r2 G2 e2 hr2 => ?_
    unfold gName
    dsimp only
    have keepH : ∀ {J : Hp}, Ex G' J → Ex H J := fun e b o hb => e _ _ (GE b o (fun q => by rw [q, nkd] at hb; cases hb) (eH6 _ _ hb))
    have keep6 : ∀ {J : Hp}, Ex G' J → ∀ b o, b ≠ kd → H6 b = some o → J b = some o := fun e b o nb h => e _ _ (GE b o nb h)
    rcases part with s | ⟨s, as⟩
    · obtain rfl : u' = .str s := hpart
      refine s_if (b := true) (et_B (ev_isStr (o := .str s) (ev_var rfl) rfl)) (fun _ G3 e3 => ?_) fun z => nomatch z
      have e23 := e2.trans e3
      have g := a2_get gkk gkv s
      have evIn : EvT (tB (tDIn (tVar 5) (tVar 2))) [some u, some v, some (.ref kd), some (.ref Dl), some (.ref l), some (.str s), some r2, none, none] G3 ((valV kv (Sum.inr s : Key)).isSome) := et_B fun H1 e Q q => ⟨.str s, rfl, .ref kd, rfl, kd, _, rfl, DGet.k (k := Sum.inr s) (e _ _ (e23 _ _ gk)), q H1 (Ex.refl _)⟩
      cases hfind : F.find? (fun p => decide (p.1 = s)) with
      | none =>
        rw [hfind] at g
        dsimp only at g
        have hF0 : fdGet F s = none := by rw [find_get, hfind]; rfl
        cases gr with
        | new hz1 hF1 hr1 =>
          obtain rfl := Option.some.inj (hy.symm.trans hz1)
          rw [g] at evIn
          refine q_when (b := false) (et_is (et_and (a := false) (b := false) evIn fun z => nomatch z) rfl) (fun z => nomatch z) fun _ G4 e4 => ?_
          have e24 := e23.trans e4
          refine ⟨.ref kd, rfl, kd, rfl, .inl ⟨kv, .inl (e24 _ _ gk)⟩, .str s, rfl, .ref l, rfl, r2, rfl, by show 2 ≤ sizeLine; rw [sizeLine_eq]; omega, fun T hT => ?_⟩
          have x5 : Ex G4 (upd G4 T (.tup [.ref l, r2])) := Ex.new hT
          have e25 := e24.trans x5
          have hT5 : (upd G4 T (.tup [.ref l, r2])) T = some (.tup [.ref l, r2]) := upd_same
          generalize upd G4 T (.tup [.ref l, r2]) = G5 at x5 e25 hT5
          refine ⟨kv, Sum.inr s, e25 _ _ gk, rfl, sz_lt (by omega), fun v hv => (by rw [g] at hv; cases hv), fun _ => ?_⟩
          have nT : T ≠ kd := fun q => by rw [q, e25 _ _ gk] at hT5; cases hT5
          rw [putK_new g]
          have kp : ∀ b o, b ≠ kd → G5 b = some o → (upd G5 kd (.dK (kv ++ [(Sum.inr s, .ref T)]))) b = some o := fun b o nb h => by rw [upd_ne nb]; exact h
          have txk : Tx G5 (upd G5 kd (.dK (kv ++ [(Sum.inr s, .ref T)]))) := Tx.dct (e25 _ _ gk)
          have hk5 : (upd G5 kd (.dK (kv ++ [(Sum.inr s, .ref T)]))) kd = some (.dK (kv ++ [(Sum.inr s, .ref T)])) := upd_same
          generalize upd G5 kd (.dK (kv ++ [(Sum.inr s, .ref T)])) = G6 at kp txk hk5
          refine ⟨⟨_, _, _, rfl⟩, fun b o nb h => kp b o nb (keep6 e25 b o nb h), F ++ [(s, (pl, y))], _, hk5, ?_, ?_, ?_, ?_, hr1⟩
          · rw [List.map_append, gkk, List.map_append]
            rfl
          · rw [List.map_append]
            refine A2.append (gkv.mono fun v q ⟨t, l, w, a1, a2, a3, a4, a5⟩ => ⟨t, l, w, a1, txk _ _ (e25 _ _ a2), kp _ _ (fun q => by rw [q, gk] at a3; cases a3) (e25 _ _ a3), (a4.ext e25).tx txk, a5⟩) ⟨⟨T, l, r2, rfl, txk _ _ hT5, kp _ _ nl (e25 _ _ gl'), ((hr2.ext ((e3.trans e4).trans x5))).tx txk, nlH⟩, trivial⟩
          · rw [List.length_append]
            show F.length + 1 ≤ i + 1
            omega
          · intro q hq
            rcases List.mem_append.mp hq with hq | hq
            · exact gw q hq
            · obtain rfl : q = (s, (pl, y)) := by simpa using hq
              exact wy
        | same hz1 hF1 => rw [hF0] at hF1; cases hF1
        | twice hz1 hF1 => rw [hF0] at hF1; cases hF1
      | some q0 =>
        rw [hfind] at g
        dsimp only at g
        obtain ⟨rfl, _, hv0, t0, l0, w0, rfl, ht0, hl0, hw0, nl0⟩ := g
        obtain ⟨s, p0, z0⟩ := q0
        dsimp only at evIn hv0 hl0 hw0 hr2 hfind
        have hF0 : fdGet F s = some (p0, z0) := by rw [find_get, hfind]; rfl
        have wz0 := gw _ (List.mem_of_find?_eq_some hfind)
        have hz0d : z0.dp ≤ 60 := by have := wz0.2.1; dsimp only at this; omega
        rw [hv0] at evIn
        have hget : ∀ (J : Hp) (j : Nat) (x : V), Ex G3 J → ([V.ref l0, w0] : List V)[j]? = some x → Ev (tOp (rIxT K) (tDGet (tVar 2) (tVar 5)) (tC (V.int (j : Nat)))) [some u, some v, some (.ref kd), some (.ref Dl), some (.ref l), some (.str s), some r2, none, none] J x := fun J j x eJ hj =>
          ev_op (x := .ref t0) (fun H3 e3 Q3 q3 => ⟨.ref kd, rfl, .str s, rfl, kd, _, rfl, .inl ⟨kv, Sum.inr s, .inl (e3 _ _ (eJ _ _ (e23 _ _ gk))), rfl, hv0.symm⟩, q3 H3 (Ex.refl _)⟩) ev_c (rv_ixT (st_of (eJ _ _ (e23 _ _ ht0))) (atI_nat hj))
        have htest : EvT (tAnd (tB (tDIn (tVar 5) (tVar 2))) (tTest (tOp (rNeD K) (tOp (rIxT K) (tDGet (tVar 2) (tVar 5)) (tC (V.int 1))) (tVar 6)))) [some u, some v, some (.ref kd), some (.ref Dl), some (.ref l), some (.str s), some r2, none, none] G3 (true && !z0.beq y) :=
          et_and (a := true) evIn fun _ => et_test (ev_op (hget G3 1 w0 (Ex.refl _) rfl) (ev_var (i := 6) rfl) (rv_neW (hw0.ext e23) (hr2.ext e3) wz0.1 wy.1 hz0d hwy))
        cases gr with
        | new hz1 hF1 => rw [hF0] at hF1; cases hF1
        | same hz1 hF1 hb1 hr1 =>
          obtain rfl := Option.some.inj (hy.symm.trans hz1)
          obtain ⟨rfl, rfl⟩ := Prod.mk.inj (Option.some.inj (hF0.symm.trans hF1))
          refine q_when (b := false) (et_is htest (by rw [hb1]; rfl)) (fun z => nomatch z) fun _ G4 e4 => ?_
          have e24 := e23.trans e4
          refine ⟨.ref kd, rfl, kd, rfl, .inl ⟨kv, .inl (e24 _ _ gk)⟩, .str s, rfl, .ref l, rfl, r2, rfl, by show 2 ≤ sizeLine; rw [sizeLine_eq]; omega, fun T hT => ?_⟩
          have x5 : Ex G4 (upd G4 T (.tup [.ref l, r2])) := Ex.new hT
          have e25 := e24.trans x5
          generalize upd G4 T (.tup [.ref l, r2]) = G5 at x5 e25
          refine ⟨kv, Sum.inr s, e25 _ _ gk, rfl, sz_lt (by omega), fun v hv => ?_, fun hn => by rw [hv0] at hn; cases hn⟩
          exact ⟨⟨_, _, _, rfl⟩, keep6 e25, F, kv, e25 _ _ gk, gkk, gkv.mono fun v q ⟨t, l, w, a1, a2, a3, a4, a5⟩ => ⟨t, l, w, a1, e25 _ _ a2, e25 _ _ a3, a4.ext e25, a5⟩, by omega, gw, hr1⟩
        | twice hz1 hF1 hb1 =>
          obtain rfl := Option.some.inj (hy.symm.trans hz1)
          obtain ⟨rfl, rfl⟩ := Prod.mk.inj (Option.some.inj (hF0.symm.trans hF1))
          refine q_when (b := true) (et_is htest (by rw [hb1]; rfl)) (fun _ G4 e4 => ?_) fun z => nomatch z
          have e24 := e23.trans e4
          refine hget G4 0 (.ref l0) e4 rfl G4 (Ex.refl _) _ fun G5 e5 => ?_
          refine ⟨.ref l, rfl, by show 3 ≤ sizeLine; rw [sizeLine_eq]; omega, fun T hT => ?_⟩
          have x6 : Ex G5 (upd G5 T (.tup [.str "twice", .ref l0, .ref l])) := Ex.new hT
          have e26 := (e24.trans e5).trans x6
          exact k (.ref T) _ (keepH e26) ⟨T, _, rfl, hx_of (not_old (fresh_back (keepH (e24.trans e5)) hT)) tup_tbl upd_same, .cons rfl (.cons ⟨l0, _, rfl, hx_of (not_old nl0) lst_tbl (e26 _ _ hl0), nums_ov _⟩ (.cons ⟨l, _, rfl, hx_of (not_old nlH) lst_tbl (e26 _ _ gl'), nums_ov _⟩ .nil))⟩
    · obtain ⟨ra, us, rfl, hra, hus⟩ := hpart.tup
      have hul := hus.length
      refine s_if (b := false) (et_B (ev_isStr (o := (W.n s as).o) (ev_var rfl) (hpart.ext e2))) (fun z => nomatch z) fun _ G3 e3 => ?_
      have e23 := e2.trans e3
      have clash : ∀ (J : Hp), Ex G' J → o = some (.clash pl) → tRet (tTup (tCons (tC (.str "clash")) (tCons (tVar 4) tNil))) { nx := fun σ' G' => True, rt := Q } [some u, some v, some (.ref kd), some (.ref Dl), some (.ref l), some (.ref ra), some r2, none, none] J := fun J eJ ho => by
        subst ho
        refine ⟨.ref l, rfl, by show 2 ≤ sizeLine; rw [sizeLine_eq]; omega, fun T hT => ?_⟩
        have x6 : Ex J (upd J T (.tup [.str "clash", .ref l])) := Ex.new hT
        have e26 := eJ.trans x6
        exact k (.ref T) _ (keepH e26) ⟨T, _, rfl, hx_of (not_old (fresh_back (keepH eJ) hT)) tup_tbl upd_same, .cons rfl (.cons ⟨l, _, rfl, hx_of (not_old nlH) lst_tbl (e26 _ _ gl'), nums_ov _⟩ .nil)⟩
      have st1 := st_of (K := K) (e23 _ _ hra)
      rcases y with t | ⟨t, bs⟩
      · obtain rfl : r2 = .str t := hr2
        cases gr with
        | fits hz1 => rw [hy] at hz1; cases hz1
        | clash hz1 => rw [hy] at hz1; cases hz1
        | clashV hz1 =>
          exact s_when (b := true) (et_is (et_or (a := true) (b := true) (et_B (ev_isStr (o := .str t) (ev_var rfl) rfl)) fun z => nomatch z) rfl) (fun _ J eJ => clash J (e23.trans eJ) rfl) fun z => nomatch z
      · obtain ⟨rb, vs, rfl, hrb, hvs⟩ := hr2.tup
        have hvl := hvs.length
        have st2 := st_of (K := K) (e3 _ _ hrb)
        have htest : EvT (tOr (tB (tIsi K "str" (tVar 6))) (tOr (tTest (tOp rNe (tOp (rIxT K) (tVar 5) (tC (.int 0))) (tOp (rIxT K) (tVar 6) (tC (.int 0))))) (tTest (tOp rNe (tLen K (tVar 5)) (tLen K (tVar 6)))))) [some u, some v, some (.ref kd), some (.ref Dl), some (.ref l), some (.ref ra), some (.ref rb), none, none] G3
            (false || (!decide (V.str s = V.str t) || !decide (V.int (((V.str s :: us).length : Nat) : Int) = V.int (((V.str t :: vs).length : Nat) : Int)))) :=
          et_or (et_B (ev_isStr (o := (W.n t bs).o) (ev_var rfl) (hr2.ext e3))) fun _ => et_or (et_test (ev_op (ev_op (ev_var rfl) ev_c (rv_ixT st1 (atI_nat (j := 0) rfl))) (ev_op (ev_var rfl) ev_c (rv_ixT st2 (atI_nat (j := 0) rfl))) (rv_ne rfl))) fun _ => et_test (ev_op (ev_lenT (ev_var rfl) st1) (ev_lenT (ev_var rfl) st2) (rv_ne rfl))
        cases gr with
        | clashV hz1 => rw [hy] at hz1; cases hz1
        | fits hz1 hl1 hr1 =>
          rw [hy] at hz1
          obtain ⟨rfl, rfl⟩ := W.n.inj (Option.some.inj hz1)
          refine s_when (b := false) (et_is htest ?_) (fun z => nomatch z) fun _ G4 e4 => ?_
          · simp [hul, hvl, hl1]
          have e24 := e23.trans e4
          exact ⟨⟨_, _, _, rfl⟩, keep6 e24, F, kv, e24 _ _ gk, gkk, gkv.mono fun v q ⟨t, l, w, a1, a2, a3, a4, a5⟩ => ⟨t, l, w, a1, e24 _ _ a2, e24 _ _ a3, a4.ext e24, a5⟩, by omega, gw, hr1⟩
        | clash hz1 hn1 =>
          rw [hy] at hz1
          obtain ⟨rfl, rfl⟩ := W.n.inj (Option.some.inj hz1)
          refine s_when (b := true) (et_is htest ?_) (fun _ J eJ => clash J (e23.trans eJ) rfl) fun z => nomatch z
          by_cases h1 : s = t
          · have h2 : ¬ as.length = bs.length := fun z => hn1 ⟨h1, z⟩
            have h3 : ¬ (V.int (((V.str s :: us).length : Nat) : Int) = V.int (((V.str t :: vs).length : Nat) : Int)) := fun z => by
              have := V.int.inj z
              simp at this
              omega
            rw [decide_eq_false h3]
            simp
          · rw [decide_eq_false (fun z => h1 (V.str.inj z))]
            rfl
  · rintro σ' G' ⟨⟨a, b, cc, rfl⟩, GE, F, kv, gk, gkk, gkv, gl, gw, gr⟩
    rw [hxl, List.drop_length] at gr
    cases gr
    exact k .non G' (fun b o hb => GE b o (fun q => by rw [q, nkd] at hb; cases hb) (eH6 _ _ hb)) rfl
end
end K24

set_option Elab.async false
set_option linter.all false
set_option maxRecDepth 100000
set_option maxHeartbeats 4000000
/-! list(d.items()) where the keys are tuples. -/
namespace K24
open PySem PySem.W PySem.Calls PyProof.Rows PyProof.V PySem.Spec
section
variable {prog : Program} {w : World} {A : Around} {E : Value → Shared → Prop} {s : Shared} {r d : Addr} {es : Array DictEntry} {ep : Nat}
theorem raw_init {R : Result → Shared → Prop} (hh : A.handled = none) (hv : s.heap.IsItemsView r d) (hm : DT.Raw s.heap d es ep) (S : Addr) (hSr : S ≠ r) (hSd : d ≠ S) (hS : s.heap.get? S = some { cls := .type "list", data := .seq #[] })
    (hR : ∀ h' tk acc c as, (∀ b o, b ≠ S → s.heap.get? b = some o → h'.get? b = some o) → h'.get? S = some { cls := .type "list", dict := none, data := .seq acc c, slots := #[] } → as.length = es.size → DT.Made es S h' as →
      acc.toList = as.map Value.ref → R (.ok (.ret .none)) { s with heap := h', toks := tk }) (hn : es.size ≤ sizeLine) :
    wpAny (model prog w) A.in1 (Builtin.«list.__init__» ⟨[.ref S, .ref r], []⟩)
      (fun fin s' => match fin with | .done f => R (.ok f) s' | .again c' => c'.quiet = true ∧ codeAny (model prog w) A c' R s') (fun e s' => R (.error e) s') s := by
  show wpAny _ _ (do let old ← Builtin.List.listItems (.ref S); Builtin.List.listUpdate (.ref S) (fun _ => #[]); letGo old.toList.reverse; Builtin.List.listExtendWith (.ref S) (.ref r) .none) _ _ s
  refine wpAny_bind ?_
  unfold Builtin.List.listItems
  refine wpAny_bind (wpAny_seqItems hS rfl (wpAny_pure ?_))
  show wpAny _ _ (updateSeq S (fun _ => #[]) >>= fun _ => letGo (#[] : Array Value).toList.reverse >>= fun _ => Builtin.List.listExtendWith (.ref S) (.ref r) .none) _ _ s
  refine wpAny_bind (wpAny_updateSeq hS rfl ?_)
  have hS₂ := Heap.get?_update_self (Obj.mapSeq (fun _ => (#[] : Array Value))) hS rfl
  have oth : ∀ b o, b ≠ S → s.heap.get? b = some o → (s.heap.update S (Obj.mapSeq (fun _ => (#[] : Array Value)))).get? b = some o :=
    fun b o hb e => (Heap.get?_update_other _ _ (Ne.symm hb)).trans e
  refine wpAny_bind (wpAny_letGo ?_)
  refine DT.extI (es := es) (ep := ep) hh (let ⟨o, ho, x⟩ := hv; ⟨o, oth r o hSr.symm ho, x⟩) (hm.at' fun o e => oth d o hSd e) S hSr hSd .none _ hS₂ (fun h' tk acc c as hk hS' hl hG hacc => ?_) hn
  exact hR h' tk acc c as (fun b o hb e => hk b o hb (oth b o hb e)) hS' hl (hG.low (Nat.le_of_lt (Heap.lt_size hS₂))) hacc
theorem raw_call {Q : Value → Shared → Prop} (hh : A.handled = none) (hv : s.heap.IsItemsView r d) (hm : DT.Raw s.heap d es ep) (hn : es.size ≤ sizeLine)
    (hQ : ∀ h' tk acc c as, (∀ b o, s.heap.get? b = some o → h'.get? b = some o) → h'.get? s.heap.objs.size = some { cls := .type "list", dict := none, data := .seq acc c, slots := #[] } → as.length = es.size → DT.Made es s.heap.objs.size h' as →
      acc.toList = as.map Value.ref → Q (.ref s.heap.objs.size) { s with heap := h', toks := tk }) :
    wpAny (model prog w) A (call (.type "list") [.ref r]) Q E s := by
  refine callType_codes (Q₁ := fun obj s₁ => obj = .ref s.heap.objs.size ∧ s₁ = { s with heap := s.heap.push { cls := .type "list", data := .seq #[] } }) PySem.F.called_list (PySem.F.typeCall_list_1 _) PySem.F.entry_list_init
    (code_list_new _ ⟨rfl, rfl⟩) fun obj s₁ h₁ => ?_
  obtain ⟨rfl, rfl⟩ := h₁
  have hS : (s.heap.push { cls := .type "list", data := .seq #[] }).get? s.heap.objs.size = some { cls := .type "list", data := .seq #[] } := Heap.get?_push_size _ rfl
  have hr : r < s.heap.objs.size := let ⟨_, ho, _⟩ := hv; Heap.lt_size ho
  have hd : d < s.heap.objs.size := hm.lt
  refine ⟨⟨_, hS, rfl⟩, PySem.F.args_list_init_2 _ _, raw_init (es := es) (ep := ep) (A := A.in1) hh (let ⟨o, ho, x⟩ := hv; ⟨o, Heap.get?_push_of_some _ ho, x⟩) (hm.push _) _ (Nat.ne_of_gt hr) (Nat.ne_of_lt hd) hS (fun h' tk acc c as hk hS' hl hG hacc => ?_) hn⟩
  exact ⟨rfl, hQ h' tk acc c as (fun b o e => hk b o (Nat.ne_of_lt (Heap.lt_size e)) (Heap.get?_push_of_some _ e)) hS' hl hG hacc⟩
end
end K24
namespace K24
open PySem PySem.Spec PyProof.Rows L2
def putP : Hp → List Addr → List (V × V) → Hp
  | H, a :: as, p :: ps => putP (upd H a (.tup [p.1, p.2])) as ps
  | H, _, _ => H
theorem putP_off {b : Addr} : ∀ (as : List Addr) (ps : List (V × V)) (H : Hp), b ∉ as → putP H as ps b = H b
  | [], _, _, _ => rfl
  | _ :: _, [], _, _ => rfl
  | a :: as, p :: ps, H, h => by
    show putP (upd H a (.tup [p.1, p.2])) as ps b = H b
    rw [putP_off as ps _ (fun z => h (List.mem_cons_of_mem _ z)), upd_ne (fun z => h (by rw [z]; exact List.mem_cons_self))]
theorem putP_at : ∀ (as : List Addr) (ps : List (V × V)) (H : Hp), as.length = ps.length → as.Nodup → Paired (fun (t : Addr) (p : V × V) => putP H as ps t = some (.tup [p.1, p.2])) as ps
  | [], [], _, _, _ => .nil
  | [], _ :: _, _, h, _ => by cases h
  | _ :: _, [], _, h, _ => by cases h
  | a :: as, p :: ps, H, h, hn => by
    have hn' := List.nodup_cons.mp hn
    have ih := putP_at as ps (upd H a (.tup [p.1, p.2])) (Nat.succ.inj h) hn'.2
    refine .cons ?_ ih
    show putP (upd H a (.tup [p.1, p.2])) as ps a = some (.tup [p.1, p.2])
    rw [putP_off as ps _ hn'.1, upd_same]
section
variable {X : Cx} {e : Expr} {te : TE} {p apos cpos pos : Pos}
theorem laidP {pins : List (Addr × Obj)} {σ : L2.St} {H : Hp} {s : Shared} {h' : Heap} {tk : Nat} {ps : List (V × V)} {es : Array DictEntry} {acc : Array Value} {c : Nat} {as : List Addr} (I : Inv X pins σ H s) (hz : ps.length ≤ sizeLine) (kv : Paired (fun (q : V × V) (e : DictEntry) => RelV q.1 e.key ∧ RelV q.2 e.val) ps es.toList)
    (hk : ∀ b o, s.heap.get? b = some o → h'.get? b = some o) (hS : h'.get? s.heap.objs.size = some { cls := .type "list", dict := none, data := .seq acc c, slots := #[] }) (hl : as.length = es.size) (hG : DT.Made es s.heap.objs.size h' as) (hacc : acc.toList = as.map Value.ref) :
    ∃ H' : Hp, (∀ b o, H b = some o → H' b = some o) ∧ H s.heap.objs.size = none ∧ (∀ t ∈ as, H t = none) ∧ s.heap.objs.size ∉ as ∧ H' s.heap.objs.size = some (.lst (as.map V.ref)) ∧ Paired (fun (t : Addr) (q : V × V) => H' t = some (.tup [q.1, q.2])) as ps ∧ Inv X pins σ H' { s with heap := h', toks := tk } := by
  have lk : ps.length = es.size := by have := Paired.length kv; simpa using this
  have hSn : s.heap.objs.size ∉ as := fun z => Nat.lt_irrefl _ (hG.above _ z)
  have nd : as.Nodup := List.Pairwise.imp (fun {a b} (h : a < b) => Nat.ne_of_lt h) hG.rise
  have new : ∀ t ∈ as, H t = none := fun t ht => I.hok.fresh (Nat.le_of_lt (hG.above t ht))
  have newS : H s.heap.objs.size = none := I.hok.fresh (Nat.le_refl _)
  have atP := putP_at as ps (upd H s.heap.objs.size (.lst (as.map V.ref))) (by omega) nd
  have off : ∀ b, b ∉ as → b ≠ s.heap.objs.size → putP (upd H s.heap.objs.size (.lst (as.map V.ref))) as ps b = H b := fun b h1 h2 => by rw [putP_off as ps _ h1, upd_ne h2]
  have low : ∀ b o, s.heap.get? b = some o → b ∉ as ∧ b ≠ s.heap.objs.size := fun b o e => ⟨fun z => absurd (Heap.lt_size e) (Nat.not_lt.mpr (Nat.le_of_lt (hG.above b z))), Nat.ne_of_lt (Heap.lt_size e)⟩
  have kp : ∀ b u, H b = some u → (putP (upd H s.heap.objs.size (.lst (as.map V.ref))) as ps) b = some u := fun b u e => by
    rw [off b (fun z => by rw [new b z] at e; cases e) (fun z => by rw [z, newS] at e; cases e)]
    exact e
  have eS : putP (upd H s.heap.objs.size (.lst (as.map V.ref))) as ps s.heap.objs.size = some (.lst (as.map V.ref)) := by rw [putP_off as ps _ hSn, upd_same]
  refine ⟨putP (upd H s.heap.objs.size (.lst (as.map V.ref))) as ps, kp, newS, new, hSn, eS, atP, ?_⟩
  refine I.call' (ch := []) rfl ⟨fun b o q _ _ _ => hk b o q, fun b o q _ _ _ => ⟨o.slots, hk b o q⟩, fun b o q n _ => ?_, fun b o q _ => ⟨o, hk b o q⟩, fun b xs q => kp b _ q, fun b o u q => kp b _ q, fun b ps q => ⟨#[], by rw [kp b _ q]; simp⟩⟩ (fun b u q => ?_) I.bare fun b z => by simp at z
  · obtain ⟨z1, z2⟩ := low b o q
    rw [off b z1 z2]
    exact n
  · by_cases hb : b ∈ as
    · obtain ⟨j, pk, e1, e2, e3⟩ := LiI.paired_ix atP hb
      rw [e3] at q
      cases q
      obtain ⟨en, f1, f3⟩ := hG.pairs j b e1
      obtain ⟨qv, g1, g2, g3⟩ := LiI.paired_get kv e2
      rw [Array.getElem?_toList, f1] at g1
      cases g1
      exact ⟨by show 2 ≤ sizeLine; decide, [en.key, en.val], .cons g2 (.cons g3 .nil), ⟨_, f3, rfl, _, rfl⟩⟩
    · by_cases hb2 : b = s.heap.objs.size
      · rw [hb2] at q ⊢
        rw [eS] at q
        cases q
        refine ⟨by rw [List.length_map]; omega, acc.toList, c, by rw [hacc]; exact LiI.vals_refs as, ?_⟩
        rw [Array.toArray_toList]
        exact hS
      · rw [off b hb hb2] at q
        exact (I.hok b u q).stay (fun d v _ y => hk d v y) (fun d y => kp d _ y) fun d xs y => kp d _ y
def rItemsLT : V → Hp → VK → Prop := fun x H Q => ∃ (d : Addr) (kvs : List (List Key × V)), x = .ref d ∧ H d = some (.dT kvs) ∧
  ∀ (H' : Hp) (p : Addr) (ts bs : List Addr), (∀ b o, H b = some o → H' b = some o) → H p = none → p ∉ ts → H' p = some (.lst (ts.map V.ref)) → bs.length = kvs.length → ts.length = kvs.length →
    (∀ (i : Nat) (q : List Key × V), kvs[i]? = some q → ∃ t b, ts[i]? = some t ∧ bs[i]? = some b ∧ H b = some (.tup (q.1.map kV)) ∧ H' t = some (.tup [.ref b, q.2])) → Q (.ref p) H'
def tListItemsT (te : TE) : TE := fun σ H Q => te σ H fun x H1 => rItemsLT x H1 Q
/-- list(e.items()), the keys tuples -/
theorem pe_listItemsT (hc : X.calm = true) (he : PE X e te) (hg : Gl X "list") (hm : X.mg "list" = none) (hv : bootBuiltins "list" = some (.type "list")) (hbase : attributeBase e "items" X.env (eval e X.env) = eval e X.env := by rfl) (hline : (apos.endLine == cpos.line) = true := by rfl)
    (hs : starEach [.Call (.Attribute e "items" apos) [] [] cpos] X.env = (false, eval (.Call (.Attribute e "items" apos) [] [] cpos) X.env) :: starEach [] X.env := by rfl) :
    PE X (.Call (.Name "list" p) [.Call (.Attribute e "items" apos) [] [] cpos] [] pos) (tListItemsT te) := by
  refine ⟨fun pins s σ H Q I hq => ?_⟩
  refine wpAny_Call_Name_kw (ld_blt I hg hm hv ?_)
  refine PyProof.Rows.callWith_type1 ?_ hs rfl
  rw [hs]
  show wpAny _ _ (spliced ((false, eval (.Call (.Attribute e "items" apos) [] [] cpos) X.env) :: backTo pos (starEach [] X.env))) _ _ s
  refine Calls.spliced_cons ?_
  refine wpAny_Call_method (T := "dict") (id := "dict.items") hbase rfl hline F.plainAttrs_dict F.slot_dict_items F.type_dict_items (thn (he.run pins s σ H _ I hq) fun u s1 ⟨x, H1, I1, rx, d, kvs, ex, hd, q⟩ => ?_)
  subst ex
  obtain rfl : u = Value.ref d := rx
  obtain ⟨hz, hs0, xs, rel, o, es, ep, ho, hx, hdat, hes, hnd⟩ := I1.hok d _ hd
  obtain ⟨t1, t2, _⟩ := isD_at I1 (.inr ⟨kvs, .inl hd⟩)
  have raw : DT.Raw s1.heap d es ep := ⟨o, ho, hx, hdat⟩
  have hxs : xs.length = es.size := by have := congrArg List.length hes; simpa using this.symm
  have lk : kvs.length = xs.length := Paired.length rel
  have I2 : Inv X pins σ H1 { s1 with heap := s1.heap.push { cls := .type "dict_items", data := .fields #[.ref d] } } := I1.kept (t' := s1.toks) fun b ob q => Heap.get?_push_of_some _ q
  refine ⟨t1, t2, ?_⟩
  show wpAny _ _ (callWith cpos (.builtin "dict.items") [.ref d] [] []) _ X.xe s1
  refine method_meetsIn F.slot_dict_items F.entry_dict_items rfl (PySem.evalArgs_none ⟨rfl, t1, F.args_dict_items_1 _, _, DT.meetsItems (es := es) (ep := ep) hs0, raw, ?_⟩)
  refine Calls.spliced_nil ?_
  refine raw_call (es := es) (ep := ep) (I1.ok.hd hc) ⟨_, Heap.get?_push_size _ rfl, rfl, rfl⟩ (raw.push _) (by omega) fun h' tk acc c as hk hS hl hG hacc => ?_
  have kv : Paired (fun (q : V × V) (e : DictEntry) => RelV q.1 e.key ∧ RelV q.2 e.val) ((kvs.zip xs).map fun z => (V.ref z.2.2.1, z.1.2)) es.toList := by
    rw [hes]
    clear hes hnd hxs lk hz hd q hdat
    induction rel with
    | nil => exact .nil
    | cons a _ ih => exact .cons ⟨rfl, a.2.2⟩ ih
  have hpl : ((kvs.zip xs).map fun z : (List Key × V) × (List Key × Addr × Value) => (V.ref z.2.2.1, z.1.2)).length = kvs.length := by simp; omega
  obtain ⟨H', k1, k2, k3, k4, k5, k6, J⟩ := laidP (tk := tk) I2 (by omega) kv hk hS hl hG hacc
  refine ⟨.ref _, H', J, rfl, q H' _ as (xs.map fun z => z.2.1) k1 k2 k4 k5 (by simp; omega) (by omega) fun i qq hi => ?_⟩
  have hil := (List.getElem?_eq_some_iff.mp hi).1
  obtain ⟨xi, hxi, r1, r2, r3⟩ := LiI.paired_get rel hi
  have hzi : ((kvs.zip xs).map fun z : (List Key × V) × (List Key × Addr × Value) => (V.ref z.2.2.1, z.1.2))[i]? = some (V.ref xi.2.1, qq.2) := by
    rw [List.getElem?_map, List.getElem?_zip_eq_some (z := (qq, xi)) |>.mpr ⟨hi, hxi⟩]
    rfl
  obtain ⟨t, ht⟩ : ∃ t, as[i]? = some t := ⟨as[i]'(by omega), by simp⟩
  obtain ⟨pq, hpq, hpt⟩ := LiI.paired_get k6 ht
  rw [hzi] at hpq
  cases hpq
  exact ⟨t, xi.2.1, ht, by rw [List.getElem?_map, hxi]; rfl, r2, hpt⟩
end
end K24

set_option Elab.async false
set_option linter.all false
set_option maxRecDepth 100000
set_option maxHeartbeats 4000000
/-! Data with dicts, the same. -/
namespace K24
open PySem PySem.Spec PyProof.Rows L2 Evl
theorem paired_mono {α β : Type} {R S : α → β → Prop} (f : ∀ a b, R a b → S a b) : ∀ {l : List α} {m : List β}, Paired R l m → Paired S l m
  | _, _, .nil => .nil
  | _, _, .cons h t => .cons (f _ _ h) (paired_mono f t)
def SmO (H : Hp) (u v : V) : Prop := ∃ o, OV H u o ∧ OV H v o ∧ o.dq < 9 ∧ o.sz ≤ 40000
def Sm (H : Hp) : Nat → V → V → Prop
  | 0, _, _ => False
  | m + 1, u, v => (∃ (a b : Addr) (kvs kws : List (Key × V)) (os : List O), u = .ref a ∧ v = .ref b ∧ H a = some (.dK kvs) ∧ H b = some (.dK kws) ∧ kws.map (·.1) = kvs.map (·.1) ∧ OVs H (kvs.map (·.2)) os ∧ OVs H (kws.map (·.2)) os ∧ O.dqs os < 7 ∧ O.szs os + 2 * os.length ≤ 30000) ∨
    (∃ (a b : Addr) (kvs kws : List (List Key × V)) (os : List O), u = .ref a ∧ v = .ref b ∧ H a = some (.dT kvs) ∧ H b = some (.dT kws) ∧ kws.map (·.1) = kvs.map (·.1) ∧ OVs H (kvs.map (·.2)) os ∧ OVs H (kws.map (·.2)) os ∧ O.dqs os < 6 ∧ O.szs os + 2 * os.length + ((kvs.map fun p => p.1.length + 1).sum) ≤ 30000) ∨
    ∃ (bb : Bool) (a b : Addr) (us ws : List V), u = .ref a ∧ v = .ref b ∧ SqB H bb a us ∧ SqB H bb b ws ∧ us.length = ws.length ∧ us.length ≤ 1000 ∧ ∀ (i : Nat) (x y : V), us[i]? = some x → ws[i]? = some y → SmO H x y ∨ Sm H m x y
theorem SmO.ext {H G : Hp} {u v : V} (h : SmO H u v) (e : Ex H G) : SmO G u v := by
  obtain ⟨o, h1, h2, h3, h4⟩ := h
  exact ⟨o, h1.ext e, h2.ext e, h3, h4⟩
theorem Sm.ext {H G : Hp} (e : Ex H G) : ∀ {m : Nat} {u v : V}, Sm H m u v → Sm G m u v
  | 0, _, _, h => h.elim
  | m + 1, u, v, h => by
    rcases h with ⟨a, b, kvs, kws, os, h1, h2, h3, h4, h5, h6, h7, h8⟩ | ⟨a, b, kvs, kws, os, h1, h2, h3, h4, h5, h6, h7, h8⟩ | ⟨bb, a, b, us, ws, h1, h2, h3, h4, h5, h6, h7⟩
    · exact .inl ⟨a, b, kvs, kws, os, h1, h2, e _ _ h3, e _ _ h4, h5, h6.ext e, h7.ext e, h8⟩
    · exact .inr (.inl ⟨a, b, kvs, kws, os, h1, h2, e _ _ h3, e _ _ h4, h5, h6.ext e, h7.ext e, h8⟩)
    · exact .inr (.inr ⟨bb, a, b, us, ws, h1, h2, h3.ext e, h4.ext e, h5, h6, fun i x y hx hy => (h7 i x y hx hy).imp (fun z => z.ext e) (fun z => Sm.ext e z)⟩)
def itO : List Key → List O → List O
  | k :: ks, x :: xs => .tup [kO k, x] :: itO ks xs
  | _, _ => []
def itT : List (List Key) → List O → List O
  | k :: ks, x :: xs => .tup [.tup (k.map kO), x] :: itT ks xs
  | _, _ => []
theorem itO_dq : ∀ (ks : List Key) (os : List O), O.dqs (itO ks os) ≤ O.dqs os + 1
  | [], _ => Nat.zero_le _
  | _ :: _, [] => Nat.zero_le _
  | k :: ks, x :: xs => by
    have h := itO_dq ks xs
    have h0 : (kO k).dq = 0 := by cases k <;> rfl
    show max (max (kO k).dq (max x.dq 0) + 1) (O.dqs (itO ks xs)) ≤ max x.dq (O.dqs xs) + 1
    omega
theorem itO_sz : ∀ (ks : List Key) (os : List O), O.szs (itO ks os) ≤ O.szs os + 2 * os.length
  | [], _ => Nat.zero_le _
  | _ :: _, [] => Nat.zero_le _
  | k :: ks, x :: xs => by
    have h := itO_sz ks xs
    have h0 : (kO k).sz = 1 := by cases k <;> rfl
    show ((kO k).sz + (x.sz + 0) + 1) + O.szs (itO ks xs) ≤ (x.sz + O.szs xs) + 2 * (xs.length + 1)
    omega
theorem kOs_dq : ∀ k : List Key, O.dqs (k.map kO) = 0
  | [] => rfl
  | a :: r => by
    have h0 : (kO a).dq = 0 := by cases a <;> rfl
    show max (kO a).dq (O.dqs (r.map kO)) = 0
    rw [kOs_dq r, h0]
    rfl
theorem kOs_sz : ∀ k : List Key, O.szs (k.map kO) = k.length
  | [] => rfl
  | a :: r => by
    have h0 : (kO a).sz = 1 := by cases a <;> rfl
    show (kO a).sz + O.szs (r.map kO) = r.length + 1
    rw [kOs_sz r, h0]
    omega
theorem kOs_ov {H : Hp} : ∀ k : List Key, OVs H (k.map kV) (k.map kO)
  | [] => rfl
  | a :: r => .cons (kO_ov a) (kOs_ov r)
theorem itT_dq : ∀ (ks : List (List Key)) (os : List O), O.dqs (itT ks os) ≤ O.dqs os + 2
  | [], _ => Nat.zero_le _
  | _ :: _, [] => Nat.zero_le _
  | k :: ks, x :: xs => by
    have h := itT_dq ks xs
    have h0 := kOs_dq k
    show max (max (O.dqs (k.map kO) + 1) (max x.dq 0) + 1) (O.dqs (itT ks xs)) ≤ max x.dq (O.dqs xs) + 2
    omega
theorem itT_sz : ∀ (ks : List (List Key)) (os : List O), O.szs (itT ks os) ≤ O.szs os + 2 * os.length + (ks.map fun k => k.length + 1).sum
  | [], _ => Nat.zero_le _
  | _ :: _, [] => Nat.zero_le _
  | k :: ks, x :: xs => by
    have h := itT_sz ks xs
    have h0 := kOs_sz k
    show ((O.szs (k.map kO) + 1) + (x.sz + 0) + 1) + O.szs (itT ks xs) ≤ (x.sz + O.szs xs) + 2 * (xs.length + 1) + ((k.length + 1) + (ks.map fun k => k.length + 1).sum)
    omega
theorem itO_ov {H : Hp} : ∀ {ts : List Addr} {kvs : List (Key × V)} {os : List O}, Paired (fun (t : Addr) (q : Key × V) => H t = some (.tup [kV q.1, q.2])) ts kvs → OVs H (kvs.map (·.2)) os → OVs H (ts.map V.ref) (itO (kvs.map (·.1)) os)
  | _, _, os, .nil, h => by
    obtain rfl : os = [] := by
      cases os with
      | nil => rfl
      | cons a r => obtain ⟨_, _, z, _⟩ := h; cases z
    rfl
  | _, _, os, .cons (a := t) (b := q) h1 h2, h => by
    cases os with
    | nil => cases h
    | cons o r =>
      obtain ⟨v, us, e, hv, hus⟩ := h
      obtain ⟨rfl, rfl⟩ := List.cons.inj e
      exact .cons ⟨t, _, rfl, h1, .cons (kO_ov q.1) (.cons hv .nil)⟩ (itO_ov h2 hus)
theorem itT_ov {H : Hp} : ∀ {kvs : List (List Key × V)} {ts bs : List Addr} {os : List O}, ts.length = kvs.length → bs.length = kvs.length → (∀ (i : Nat) (q : List Key × V), kvs[i]? = some q → ∃ t b, ts[i]? = some t ∧ bs[i]? = some b ∧ H b = some (.tup (q.1.map kV)) ∧ H t = some (.tup [.ref b, q.2])) → OVs H (kvs.map (·.2)) os → OVs H (ts.map V.ref) (itT (kvs.map (·.1)) os)
  | [], ts, bs, os, h1, _, _, h => by
    obtain rfl := List.length_eq_zero_iff.mp h1
    cases os <;> rfl
  | q :: kvs, [], bs, os, h1, _, _, h => by cases h1
  | q :: kvs, t :: ts, [], os, h1, h2, _, h => by cases h2
  | q :: kvs, t :: ts, b :: bs, os, h1, h2, h3, h => by
    cases os with
    | nil => cases h
    | cons o r =>
      obtain ⟨v, us, e, hv, hus⟩ := h
      obtain ⟨rfl, rfl⟩ := List.cons.inj e
      obtain ⟨t', b', e1, e2, e3, e4⟩ := h3 0 q rfl
      obtain rfl : t = t' := by simpa using e1
      obtain rfl : b = b' := by simpa using e2
      exact .cons ⟨t, _, rfl, e4, .cons ⟨b, _, rfl, e3, kOs_ov q.1⟩ (.cons hv .nil)⟩ (itT_ov (by simpa using h1) (by simpa using h2) (fun i p hp => by simpa using h3 (i + 1) p (by simpa using hp)) hus)
section
variable {P : Program} {w : World} {K : PySem.W.Frag} {mg : Str → Option Value} {base : Heap}
def spSx (m : Nat) : Sp := fun vs H Q _ => ∃ u v, vs = [u, v] ∧ Sm H m u v ∧ RetV (.bl true) H Q
abbrev tSx (m : Nat) (t : TA) : TE := fun σ H Q => tCall (spSa 9) [] E0 t σ H Q ∨ tCall (spSx m) [] E0 t σ H Q
theorem ok_sameX (T : T24 P w K mg base) : ∀ m, Ok P w K mg base CX0 "_law_same" ["_law_found", "_law_due"] (m + 11) (spSx m)
  | 0 => T.ok 41 rfl sc_sa (fun vs H Q E h => by obtain ⟨u, v, rfl, _⟩ := h; rfl) (fun kV doc pm an cdv ct us hl => match us, hl with | [_, _], _ => rfl) (fun f cdv A outer s H vs Q E hr h => by obtain ⟨u, v, _, h0, _⟩ := h; exact h0.elim)
  | m + 1 => by
    obtain ⟨fR, dR, GR, bR, kR, mR⟩ := (ok_sameX T m).ex
    obtain ⟨fO, dO, GO, bO, kO', mO⟩ := (ok_same T 9).ex
    refine T.ok 41 rfl sc_sa (fun vs H Q E h => ?_) (fun kV doc pm an cdv ct us hl => match us, hl with | [_, _], _ => rfl) (fun f cdv A outer s H vs Q E hr h => ?_)
    · obtain ⟨u, v, rfl, _⟩ := h
      rfl
    · obtain ⟨u, v, rfl, hS, k⟩ := h
      refine ⟨_, pss_cons (ps_if (pt_val (pe_isiLT T.isi T.list T.tuple (pv 1)))
          (pss_cons (ps_if (PW.pt (pw_or (pt_cmpR op_ne (pe_isiB T.isi T.list PyProof.Rows.boot_list (pv 0)) (pe_isiB T.isi T.list PyProof.Rows.boot_list (pv 1)) (nomark _)) (pw_or1 (pt_cmpR op_ne (pe_isiB T.isi T.tuple PyProof.Rows.boot_tuple (pv 0)) (pe_isiB T.isi T.tuple PyProof.Rows.boot_tuple (pv 1)) (nomark _))))) (pss_one ps_never) pss_nil)
          (pss_one (ps_ret (pe_and (pe_cmpR op_eq (pe_callB call_len (by rfl) T.len PySem.boot_len (pa_cons (pv 0) pa_nil)) (pe_callB call_len (by rfl) T.len PySem.boot_len (pa_cons (pv 1) pa_nil)) (nomark _))
            (pe_one (pe_callB (cr_all rfl) (by rfl) T.all (by decide +kernel) (pa_cons (pe_lc (own := [("_law_x", 2), ("_law_y", 3)]) (g := gPair K 2 3) (tt := tYes) (te := tSx m (tCons (tVar 2) (tCons (tVar 3) tNil))) rfl sc_sa.nd (RZ.pi_zipA (by rfl) T.zip (pa_cons (pv 0) (pa_cons (pv 1) pa_nil))) (blkOk_by (N := nSa) (sc := defScope s__law_same) (by decide +kernel))
              (fun _ _ _ _ _ => pg_tup rfl (pgs_cons (pg_name (i := 2) sc_sa.nd rfl (Or.inl rfl)) (pgs_cons (pg_name (i := 3) sc_sa.nd rfl (Or.inl rfl)) pgs_nil))) (fun _ _ _ _ _ => pts_nil) (fun _ _ _ _ _ => pe_or2 (pe_call GO (hr.mono (by omega)) (by rfl) mO kO' bO .nil pass0 (pa_cons (pv 2) (pa_cons (pv 3) pa_nil))) (pe_call GR hr (by rfl) mR kR bR .nil pass0 (pa_cons (pv 2) (pa_cons (pv 3) pa_nil))))) pa_nil)))))))
          pss_nil)
        (pss_cons (ps_if (pt_val (pe_isiB T.isi T.dict boot_dict23 (pv 1))) (pss_one (ps_ret (pe_and (pe_isiB T.isi T.dict boot_dict23 (pv 0))
            (pe_one (pe_call GO (hr.mono (by omega)) (by rfl) mO kO' bO .nil pass0 (pa_cons (pe_or2 (LiI.pe_listItems rfl (pv 0) (by rfl) T.list PyProof.Rows.boot_list) (pe_listItemsT rfl (pv 0) (by rfl) T.list PyProof.Rows.boot_list)) (pa_cons (pe_or2 (LiI.pe_listItems rfl (pv 1) (by rfl) T.list PyProof.Rows.boot_list) (pe_listItemsT rfl (pv 1) (by rfl) T.list PyProof.Rows.boot_list)) pa_nil))))))) pss_nil)
        (pss_cons (ps_if (pt_val (pe_isiB T.isi T.int PyProof.Rows.boot_int (pv 1))) (pss_one (ps_ret (pe_and (pe_isiB T.isi T.int PyProof.Rows.boot_int (pv 0)) (pe_and (pe_cmpR op_eq (pe_isiB T.isi T.bool PyProof.Rows.boot_bool (pv 0)) (pe_isiB T.isi T.bool PyProof.Rows.boot_bool (pv 1)) (nomark _))
            (pe_one (pe_cmpR op_eq (pv 0) (pv 1) (nomark _))))))) pss_nil)
        (pss_one (ps_ret (pe_and (pe_not (pe_callB call_isiT (by rfl) T.isi PyProof.Rows.boot_isinstance (pa_cons (pv 0) (pa_cons (pe_tup (pa_cons (pe_bltn (v := .ty "int") (by rfl) T.int PyProof.Rows.boot_int rfl) (pa_cons (pe_bltn (v := .ty "list") (by rfl) T.list PyProof.Rows.boot_list rfl) (pa_cons (pe_bltn (v := .ty "tuple") (by rfl) T.tuple PyProof.Rows.boot_tuple rfl) (pa_cons (pe_bltn (v := .ty "dict") (by rfl) T.dict (by decide +kernel) rfl) pa_nil))))) pa_nil))))
          (pe_one (pe_cmpR op_eq (pv 0) (pv 1) (nomark _)))))))), ?_⟩
      rcases hS with ⟨a, b, kvs, kws, os, rfl, rfl, ha, hb, hkk, ho1, ho2, hdq, hsz⟩ | ⟨a, b, kvs, kws, os, rfl, rfl, ha, hb, hkk, ho1, ho2, hdq, hsz⟩ | ⟨bb, a1, a2, us, ws, rfl, rfl, sq1, sq2, hlen, hl1, hall⟩
      · have tyA : ∀ {G}, Ex H G → TyX K G (.ref a) (.type "dict") := fun e => .base (.dK (e _ _ ha))
        have tyB : ∀ {G}, Ex H G → TyX K G (.ref b) (.type "dict") := fun e => .base (.dK (e _ _ hb))
        refine q_when (b := false) (et_is (et_B (ev_isi2 (b1 := false) (b2 := false) (ev_var rfl) (tyB (Ex.refl _)) (by decide +kernel) (by decide +kernel))) rfl) (fun z => nomatch z) fun _ H1 e1 => ?_
        refine q_when (b := true) (et_B (ev_isi (ev_var rfl) (tyB e1) (by decide +kernel))) (fun _ H2 e2 => ?_) fun z => nomatch z
        have e02 := e1.trans e2
        refine s_ret (ev_andV (a := true) (b := true) (ev_isi (ev_var rfl) (tyA e02) (by decide +kernel)) fun _ G1 g1 Q1 q1 => ?_) fun H3 e3 => k H3 (e02.trans e3)
        refine .inl ⟨.ref a, rfl, a, kvs, rfl, g1 _ _ (e02 _ _ ha), fun G2 p1 ts1 x1 n1 _ _ h1 pr1 => .inl ⟨.ref b, rfl, b, kws, rfl, x1 _ _ (g1 _ _ (e02 _ _ hb)), fun G3 p2 ts2 x2 n2 _ _ h2 pr2 => ?_⟩⟩
        have x2' : Ex G2 G3 := x2
        have x1' : Ex G1 G2 := x1
        have e3 := ((e02.trans g1).trans x1').trans x2'
        have pr1' : Paired (fun (t : Addr) (q : Key × V) => G3 t = some (.tup [kV q.1, q.2])) ts1 kvs := by
          exact paired_mono (fun a b h => x2' _ _ h) pr1
        have v1 := itO_ov pr1' (ho1.ext e3)
        have v2 := itO_ov pr2 (ho2.ext e3)
        rw [hkk] at v2
        have d1 := itO_dq (kvs.map (·.1)) os
        have d2 := itO_sz (kvs.map (·.1)) os
        exact ⟨.ref p1, .ref p2, .lst (itO (kvs.map (·.1)) os), rfl, ⟨p1, _, rfl, x2' _ _ h1, v1⟩, ⟨p2, _, rfl, h2, v2⟩, by show O.dqs (itO (kvs.map (·.1)) os) + 1 < 9; omega, by decide, by show O.szs (itO (kvs.map (·.1)) os) + 1 ≤ 40000; omega, fun G4 g4 => q1 G4 ((x1'.trans x2').trans g4)⟩
      · have tyA : ∀ {G}, Ex H G → TyX K G (.ref a) (.type "dict") := fun e => .base (.dT (e _ _ ha))
        have tyB : ∀ {G}, Ex H G → TyX K G (.ref b) (.type "dict") := fun e => .base (.dT (e _ _ hb))
        refine q_when (b := false) (et_is (et_B (ev_isi2 (b1 := false) (b2 := false) (ev_var rfl) (tyB (Ex.refl _)) (by decide +kernel) (by decide +kernel))) rfl) (fun z => nomatch z) fun _ H1 e1 => ?_
        refine q_when (b := true) (et_B (ev_isi (ev_var rfl) (tyB e1) (by decide +kernel))) (fun _ H2 e2 => ?_) fun z => nomatch z
        have e02 := e1.trans e2
        refine s_ret (ev_andV (a := true) (b := true) (ev_isi (ev_var rfl) (tyA e02) (by decide +kernel)) fun _ G1 g1 Q1 q1 => ?_) fun H3 e3 => k H3 (e02.trans e3)
        refine .inr ⟨.ref a, rfl, a, kvs, rfl, g1 _ _ (e02 _ _ ha), fun G2 p1 ts1 bs1 x1 n1 _ h1 l1 l1' pr1 => .inr ⟨.ref b, rfl, b, kws, rfl, x1 _ _ (g1 _ _ (e02 _ _ hb)), fun G3 p2 ts2 bs2 x2 n2 _ h2 l2 l2' pr2 => ?_⟩⟩
        have x2' : Ex G2 G3 := x2
        have x1' : Ex G1 G2 := x1
        have e3 := ((e02.trans g1).trans x1').trans x2'
        have v1 := itT_ov (H := G3) l1' l1 (fun i q hq => by
          obtain ⟨t, b, f1, f2, f3, f4⟩ := pr1 i q hq
          exact ⟨t, b, f1, f2, x2' _ _ (x1' _ _ f3), x2' _ _ f4⟩) (ho1.ext e3)
        have v2 := itT_ov (H := G3) l2' l2 (fun i q hq => by
          obtain ⟨t, b, f1, f2, f3, f4⟩ := pr2 i q hq
          exact ⟨t, b, f1, f2, x2' _ _ f3, f4⟩) (ho2.ext e3)
        rw [hkk] at v2
        have d1 := itT_dq (kvs.map (·.1)) os
        have d2 := itT_sz (kvs.map (·.1)) os
        rw [List.map_map] at d2
        have d2 : O.szs (itT (kvs.map (·.1)) os) ≤ O.szs os + 2 * os.length + (kvs.map fun p => p.1.length + 1).sum := d2
        exact ⟨.ref p1, .ref p2, .lst (itT (kvs.map (·.1)) os), rfl, ⟨p1, _, rfl, x2' _ _ h1, v1⟩, ⟨p2, _, rfl, h2, v2⟩, by show O.dqs (itT (kvs.map (·.1)) os) + 1 < 9; omega, by decide, by show O.szs (itT (kvs.map (·.1)) os) + 1 ≤ 40000; omega, fun G4 g4 => q1 G4 ((x1'.trans x2').trans g4)⟩
      · have tyB : ∀ {G}, Ex H G → ∀ {p : Addr} {xs : List V}, SqB H bb p xs → TyX K G (.ref p) (.type (if bb = true then "list" else "tuple")) := fun {G} e {p xs} h => by
          have h2 := h.ext e
          cases bb with
          | true => exact .base (.lst h2)
          | false => exact .base (.tup h2)
        have kL : kitB (if bb = true then "list" else "tuple") "list" = some bb := by cases bb <;> decide +kernel
        have kT : kitB (if bb = true then "list" else "tuple") "tuple" = some (!bb) := by cases bb <;> decide +kernel
        refine q_if (b := true) (et_is (et_B (ev_isi2 (ev_var rfl) (tyB (Ex.refl _) sq2) kL kT)) (by cases bb <;> rfl)) (fun _ H1 e1 => ?_) (fun z => nomatch z)
        refine q_when (b := false) (et_is (et_or (a := false) (b := false) (et_is (et_test (ev_op (ev_isi (ev_var rfl) (tyB e1 sq1) kL) (ev_isi (ev_var rfl) (tyB e1 sq2) kL) rv_neB)) (by simp)) fun _ => et_is (et_test (ev_op (ev_isi (ev_var rfl) (tyB e1 sq1) kT) (ev_isi (ev_var rfl) (tyB e1 sq2) kT) rv_neB)) (by simp)) rfl) (fun z => nomatch z) fun _ H2 e2 => ?_
        have e02 := e1.trans e2
        have sq12 := sq1.ext e02
        have sq22 := sq2.ext e02
        refine s_ret (ev_andV (a := true) (b := true) (ev_is (ev_op (ev_lenQ (ev_var rfl) sq12) (ev_lenQ (ev_var rfl) sq22) (rv_eq rfl)) (congrArg V.bl (decide_eq_true (by rw [hlen])))) fun _ G1 g1 Q1 q1 => ?_) fun H3 e3 => k H3 (e02.trans e3)
        have turn : ∀ (Dl : Addr) (i : Nat) (x : V) (G G' : Hp), G1 Dl = none → i < us.length → (Ex G1 G ∧ G Dl = some (.lst ((List.replicate i true).map V.bl))) → YPair (fun i => us[i]?) (fun i => ws[i]?) i G x G' → gPair K 2 3 x (wipe [some (.ref a1), some (.ref a2), none, none] [2, 3]) G' fun σ2 H2 => wipe σ2 [2, 3] = wipe [some (.ref a1), some (.ref a2), none, none] [2, 3] ∧ tYes σ2 H2 fun b H3 =>
            if b = true then tSx m (tCons (tVar 2) (tCons (tVar 3) tNil)) σ2 H3 fun y H4 => ∃ acc, H4 Dl = some (.lst acc) ∧ acc.length < sizeLine ∧ (Ex G1 (upd H4 Dl (.lst (acc ++ [y]))) ∧ (upd H4 Dl (.lst (acc ++ [y]))) Dl = some (.lst ((List.replicate (i + 1) true).map V.bl))) else Ex G1 H3 ∧ H3 Dl = some (.lst ((List.replicate (i + 1) true).map V.bl)) := by
          rintro Dl i x G G' hD hi ⟨c1, c2⟩ ⟨t, x1, x2, rfl, ht, rfl, hx1, hx2⟩
          have eT : Ex G (upd G t (.tup [x1, x2])) := Ex.new ht
          refine ⟨t, _, rfl, st_of upd_same, rfl, _, _, rfl, _, _, rfl, rfl, rfl, ?_⟩
          unfold tYes
          dsimp only
          rw [if_pos rfl]
          have eall := ((e02.trans g1).trans c1).trans eT
          have fin : ∀ G3, Ex (upd G t (.tup [x1, x2])) G3 → ∃ acc, G3 Dl = some (.lst acc) ∧ acc.length < sizeLine ∧ (Ex G1 (upd G3 Dl (.lst (acc ++ [.bl true]))) ∧ (upd G3 Dl (.lst (acc ++ [.bl true]))) Dl = some (.lst ((List.replicate (i + 1) true).map V.bl))) := fun G3 g3 => ⟨_, g3 _ _ (eT _ _ c2), sz_lt (by simp; omega), Ex.mut ((c1.trans eT).trans g3) hD, by
            rw [upd_same, List.replicate_succ']
            simp⟩
          rcases hall i x1 x2 hx1 hx2 with ⟨o, o1, o2, o3, o4⟩ | hs
          · exact .inl ⟨_, rfl, _, rfl, x1, x2, o, rfl, o1.ext eall, o2.ext eall, o3, by decide, o4, fun G3 g3 => fin G3 g3⟩
          · exact .inr ⟨_, rfl, _, rfl, x1, x2, rfl, Sm.ext eall hs, fun G3 g3 => fin G3 g3⟩
        have fin : ∀ (Dl : Addr) (G : Hp), (Ex G1 G ∧ G Dl = some (.lst ((List.replicate (min us.length ws.length) true).map V.bl))) → ∃ (p : Addr) (bs : List Bool), [V.ref Dl] = [V.ref p] ∧ SqL K G p (bs.map V.bl) ∧ Q1 (.bl (bs.all id)) G := by
          rintro Dl G ⟨c1, c2⟩
          exact ⟨Dl, _, rfl, sq_of c2, by rw [all_true]; exact q1 G c1⟩
        have h1 := sq12.ext g1
        have h2 := sq22.ext g1
        refine ⟨_, rfl, _, rfl, a1, a2, us, ws, rfl, ?_⟩
        cases bb with
        | true => exact .inl ⟨sq_of h1, sq_of h2, fun Dl hD => lc_it (walk_zip (K := K) (a := a1) (b := a2) (xs := us) (ys := ws) rfl) (fun i G => Ex G1 G ∧ G Dl = some (.lst ((List.replicate i true).map V.bl))) ⟨Ex.new hD, upd_same⟩ (fun i G _ c => ⟨sq_of (c.1 _ _ h1), sq_of (c.1 _ _ h2)⟩) (fun i x G G' hi c y => turn Dl i x G G' hD (by omega) c y) (fun G c => fin Dl G c)⟩
        | false => exact .inr ⟨st_of h1, st_of h2, fun Dl hD => lc_it (walk_zipT (K := K) (a := a1) (b := a2) (xs := us) (ys := ws) rfl) (fun i G => Ex G1 G ∧ G Dl = some (.lst ((List.replicate i true).map V.bl))) ⟨Ex.new hD, upd_same⟩ (fun i G _ c => ⟨st_of (c.1 _ _ h1), st_of (c.1 _ _ h2)⟩) (fun i x G G' hi c y => turn Dl i x G G' hD (by omega) c y) (fun G c => fin Dl G c)⟩
end
end K24

set_option Elab.async false
set_option linter.all false
set_option maxRecDepth 100000
set_option maxHeartbeats 4000000
/-! Words put, once more; texts in order. -/
namespace K24
open PySem PySem.Spec PyProof.Rows L2 Evl
theorem lt_anti : ∀ {a b : List Nat}, ltCps a b = false → ltCps b a = false → a = b
  | [], [], _, _ => rfl
  | [], _ :: _, h, _ => by cases h
  | _ :: _, [], _, h => by cases h
  | x :: a, y :: b, h1, h2 => by
    simp only [ltCps, Bool.or_eq_false_iff, decide_eq_false_iff_not, Bool.and_eq_false_iff, beq_eq_false_iff_ne] at h1 h2
    have e : x = y := by omega
    subst e
    rw [lt_anti (h1.2.resolve_left fun z => z rfl) (h2.2.resolve_left fun z => z rfl)]
theorem lt_trans : ∀ {a b c : List Nat}, ltCps b a = false → ltCps c b = false → ltCps c a = false
  | [], _, [], _, _ => rfl
  | [], [], _ :: _, _, h => h
  | [], _ :: _, _ :: _, h, h2 => rfl
  | x :: a, [], c, h, _ => by cases h
  | x :: a, y :: b, [], h, h2 => by cases h2
  | x :: a, y :: b, z :: c, h1, h2 => by
    simp only [ltCps, Bool.or_eq_false_iff, decide_eq_false_iff_not, Bool.and_eq_false_iff, beq_eq_false_iff_ne] at h1 h2 ⊢
    refine ⟨by omega, ?_⟩
    by_cases e : z = x
    · have e1 : y = x := by omega
      have e2 : z = y := by omega
      exact .inr (lt_trans (h1.2.resolve_left fun q => q e1) (h2.2.resolve_left fun q => q e2))
    · exact .inl e
theorem rising_all : ∀ {p : Str} {l : List Str}, risingS p l = true → (∀ x ∈ l, ltCps x.cps.toList p.cps.toList = false) ∧ l.Pairwise fun a b => ltCps b.cps.toList a.cps.toList = false
  | p, [], _ => ⟨fun _ h => (nomatch h), .nil⟩
  | p, x :: r, h => by
    unfold risingS at h
    rw [Bool.and_eq_true, Bool.not_eq_true'] at h
    obtain ⟨h1, h2⟩ := rising_all h.2
    refine ⟨fun y hy => ?_, List.pairwise_cons.mpr ⟨h1, h2⟩⟩
    rcases List.mem_cons.mp hy with rfl | hy
    · exact h.1
    · exact lt_trans h.1 (h1 y hy)
theorem sortedS_pw {l : List Str} (h : sortedS l = true) : l.Pairwise fun a b => ltCps b.cps.toList a.cps.toList = false := by
  cases l with
  | nil => exact .nil
  | cons x r =>
    obtain ⟨h1, h2⟩ := rising_all h
    exact List.pairwise_cons.mpr ⟨h1, h2⟩
theorem sorted_eq {a b : List Str} (hp : a.Perm b) (ha : sortedS a = true) (hb : sortedS b = true) : a = b :=
  hp.eq_of_pairwise (fun x y _ _ h1 h2 => by
    have := lt_anti h2 h1
    cases x with
    | mk cx => cases y with
      | mk cy =>
        have e : cx = cy := by
          cases cx; cases cy
          exact congrArg Array.mk this
        rw [e]) (sortedS_pw ha) (sortedS_pw hb)
/-! ### sizes, forms -/
mutual
theorem W.nd_sub {f : Str → Option W} {m : Nat} (hm : 1 ≤ m) (h : ∀ s z, f s = some z → z.nd ≤ m) : ∀ z : W, (z.sub f).nd ≤ z.nd * m
  | .v s => by
    show ((f s).getD (.v s)).nd ≤ 1 * m
    cases e : f s with
    | none => show 1 ≤ 1 * m; omega
    | some x => have := h s x e; show x.nd ≤ 1 * m; omega
  | .n s as => by
    have := W.nds_sub hm h as
    show W.nds (W.subs f as) + 1 ≤ (W.nds as + 1) * m
    rw [Nat.add_mul]
    omega
theorem W.nds_sub {f : Str → Option W} {m : Nat} (hm : 1 ≤ m) (h : ∀ s z, f s = some z → z.nd ≤ m) : ∀ zs : List W, W.nds (W.subs f zs) ≤ W.nds zs * m
  | [] => Nat.zero_le _
  | x :: xs => by
    have h1 := W.nd_sub hm h x
    have h2 := W.nds_sub hm h xs
    show (x.sub f).nd + W.nds (W.subs f xs) ≤ (x.nd + W.nds xs) * m
    rw [Nat.add_mul]
    omega
end
theorem subs_len (f : Str → Option W) (as : List W) : (W.os (W.subs f as)).length = (W.os as).length := by
  rw [subs_map, W.os_map, W.os_map, List.length_map, List.length_map, List.length_map]
mutual
theorem W.fit_sub {f : Str → Option W} (h : ∀ s z, f s = some z → z.o.fit = true) : ∀ z : W, z.o.fit = true → (z.sub f).o.fit = true
  | .v s, k => by
    show (((f s).getD (.v s)).o).fit = true
    cases e : f s with
    | none => exact k
    | some x => exact h s x e
  | .n s as, k => by
    have k : (headB (.str s) (W.os as).length && O.fits (W.os as)) = true := k
    show (headB (.str s) (W.os (W.subs f as)).length && O.fits (W.os (W.subs f as))) = true
    rw [Bool.and_eq_true] at k ⊢
    rw [subs_len]
    exact ⟨k.1, W.fits_sub h as k.2⟩
theorem W.fits_sub {f : Str → Option W} (h : ∀ s z, f s = some z → z.o.fit = true) : ∀ zs : List W, O.fits (W.os zs) = true → O.fits (W.os (W.subs f zs)) = true
  | [], _ => rfl
  | x :: xs, k => by
    have k : (x.o.fit && O.fits (W.os xs)) = true := k
    show ((x.sub f).o.fit && O.fits (W.os (W.subs f xs))) = true
    rw [Bool.and_eq_true] at k ⊢
    exact ⟨W.fit_sub h x k.1, W.fits_sub h xs k.2⟩
end
theorem eqL_len (s : Str) : ∀ {xs ys : List O}, xs.length = ys.length → eqL (.str s :: xs) = eqL (.str s :: ys)
  | [], [], _ => rfl
  | [_], [_], _ => rfl
  | [_, _], [_, _], _ => rfl
  | _ :: _ :: _ :: _, _ :: _ :: _ :: _, _ => rfl
  | [], _ :: _, h => by cases h
  | _ :: _, [], h => by cases h
  | [_], _ :: _ :: _, h => by simp at h
  | _ :: _ :: _, [_], h => by simp at h
  | [_, _], _ :: _ :: _ :: _, h => by simp at h
  | _ :: _ :: _ :: _, [_, _], h => by simp at h
theorem W.fitW_sub {f : Str → Option W} (h : ∀ s z, f s = some z → z.o.fit = true) (z : W) (k : z.o.fitW = true) : (z.sub f).o.fitW = true := by
  unfold O.fitW at k ⊢
  rw [Bool.or_eq_true] at k ⊢
  rcases k with k | k
  · exact .inl (W.fit_sub h z k)
  · cases z with
    | v s => cases k
    | n s as =>
      refine .inr ?_
      have k : ((eqL (.str s :: W.os as) || headB (.str s) (W.os as).length) && O.fits (W.os as)) = true := k
      show ((eqL (.str s :: W.os (W.subs f as)) || headB (.str s) (W.os (W.subs f as)).length) && O.fits (W.os (W.subs f as))) = true
      rw [eqL_len s (subs_len f as), subs_len]
      rw [Bool.and_eq_true] at k ⊢
      exact ⟨k.1, W.fits_sub h as k.2⟩
/-! ### one substitution behind another -/
mutual
theorem W.sub_sub (f g : Str → Option W) : ∀ z : W, (z.sub f).sub g = z.sub fun s => some (((W.v s).sub f).sub g)
  | .v s => rfl
  | .n s as => by
    show W.n s (W.subs g (W.subs f as)) = .n s (W.subs _ as)
    rw [W.subs_subs f g as]
theorem W.subs_subs (f g : Str → Option W) : ∀ zs : List W, W.subs g (W.subs f zs) = W.subs (fun s => some (((W.v s).sub f).sub g)) zs
  | [] => rfl
  | x :: xs => by
    show ((x.sub f).sub g) :: W.subs g (W.subs f xs) = _ :: _
    rw [W.sub_sub f g x, W.subs_subs f g xs]
end
mutual
theorem W.sub_congr {f g : Str → Option W} (h : ∀ s, (f s).getD (.v s) = (g s).getD (.v s)) : ∀ z : W, z.sub f = z.sub g
  | .v s => h s
  | .n s as => by
    show W.n s (W.subs f as) = .n s (W.subs g as)
    rw [W.subs_congr h as]
theorem W.subs_congr {f g : Str → Option W} (h : ∀ s, (f s).getD (.v s) = (g s).getD (.v s)) : ∀ zs : List W, W.subs f zs = W.subs g zs
  | [] => rfl
  | x :: xs => by
    show x.sub f :: W.subs f xs = x.sub g :: W.subs g xs
    rw [W.sub_congr h x, W.subs_congr h xs]
end
theorem lk_outB (ps qs : List (Str × W)) : ∀ (ys : List Str) (s : Str), ys.Nodup → (lk (outB ps qs ys) s).getD (.v s) = if s ∈ ys then bh ps qs s else .v s
  | [], s, _ => rfl
  | a :: r, s, hn => by
    rw [List.nodup_cons] at hn
    have ih := lk_outB ps qs r s hn.2
    show (lk (if (bh ps qs a).beq (.v a) then outB ps qs r else (a, bh ps qs a) :: outB ps qs r) s).getD (.v s) = _
    by_cases hb : (bh ps qs a).beq (.v a) = true
    · rw [if_pos hb, ih]
      by_cases e : s = a
      · subst e
        rw [if_neg hn.1, if_pos List.mem_cons_self, W.beq_eq hb]
      · simp only [List.mem_cons, e, false_or]
    · rw [if_neg hb]
      by_cases e : a = s
      · subst e
        rw [if_pos List.mem_cons_self]
        unfold lk
        rw [List.find?_cons, decide_eq_true rfl]
        rfl
      · have : lk ((a, bh ps qs a) :: outB ps qs r) s = lk (outB ps qs r) s := by
          unfold lk
          rw [List.find?_cons, decide_eq_false e]
        rw [this, ih]
        simp only [List.mem_cons, Ne.symm e, false_or]
theorem sub_outB {ps qs : List (Str × W)} {ys : List Str} (hn : ys.Nodup) (h : ∀ s, s ∈ ys ↔ s ∈ ps.map (·.1) ∨ s ∈ qs.map (·.1)) (z : W) : z.sub (lk (outB ps qs ys)) = (z.sub (lk ps)).sub (lk qs) := by
  rw [W.sub_sub]
  refine W.sub_congr (fun s => ?_) z
  rw [lk_outB ps qs ys s hn]
  show _ = bh ps qs s
  by_cases e : s ∈ ys
  · rw [if_pos e]
  · rw [if_neg e]
    have h1 : lk ps s = none := lk_none fun q => e ((h s).mpr (.inl q))
    have h2 : lk qs s = none := lk_none fun q => e ((h s).mpr (.inr q))
    show W.v s = ((((lk ps s).getD (.v s))).sub (lk qs))
    rw [h1]
    show W.v s = (lk qs s).getD (.v s)
    rw [h2]
    rfl
/-! ### what is matched -/
theorem fdGet_app {F G : FD} {s : Str} {x : List Nat × W} (h : fdGet F s = some x) : fdGet (F ++ G) s = some x := by
  unfold fdGet at h ⊢
  rw [List.find?_append]
  cases hf : F.find? (fun p => decide (p.1 = s)) with
  | none => rw [hf] at h; cases h
  | some p => rw [hf] at h; exact h
theorem fdGet_new {F G : FD} {s : Str} {x : List Nat × W} (h : fdGet F s = none) : fdGet ((F ++ [(s, x)]) ++ G) s = some x := by
  refine fdGet_app ?_
  unfold fdGet at h ⊢
  rw [List.find?_append]
  cases hf : F.find? (fun p => decide (p.1 = s)) with
  | none =>
    rw [Option.none_or, List.find?_cons, decide_eq_true rfl]
    rfl
  | some p => rw [hf] at h; cases h
theorem lk_fdW (F : FD) (s : Str) : lk (fdW F) s = (fdGet F s).map (·.2) := by
  unfold lk fdW fdGet
  rw [List.find?_map, Option.map_map, Option.map_map]
  rfl
theorem fdGet_none {F : FD} {s : Str} (h : fdGet F s = none) : s ∉ F.map (·.1) := fun z => by
  obtain ⟨p, hp, rfl⟩ := List.mem_map.mp z
  unfold fdGet at h
  cases hf : F.find? (fun q => decide (q.1 = p.1)) with
  | none => exact absurd (List.find?_eq_none.mp hf p hp) (by simp)
  | some q => rw [hf] at h; cases h
theorem fdGet_some {F : FD} {s : Str} {x : List Nat × W} (h : fdGet F s = some x) : s ∈ F.map (·.1) := by
  unfold fdGet at h
  cases hf : F.find? (fun q => decide (q.1 = s)) with
  | none => rw [hf] at h; cases h
  | some q =>
    have e1 := List.find?_some hf
    have e : q.1 = s := of_decide_eq_true e1
    exact List.mem_map.mpr ⟨q, List.mem_of_find?_eq_some hf, e⟩
/-- what a match tells: more pairs, by which the pattern becomes the word; their names -/
def Hit (p : List W) (z : List W) (F F' : FD) : Prop := (∃ E, F' = F ++ E) ∧ (∀ G, W.subs (lk (fdW (F' ++ G))) p = z) ∧ ∀ s, s ∈ F'.map (·.1) ↔ s ∈ F.map (·.1) ∨ ∃ a ∈ p, s ∈ a.vars
theorem mem_varsL {s : Str} : ∀ (as : List W) (acc : List Str), s ∈ W.varsL acc as ↔ s ∈ acc ∨ ∃ a ∈ as, s ∈ a.vars
  | [], acc => by show s ∈ acc ↔ _; simp
  | a :: r, acc => by
    show s ∈ W.varsL (acc ++ a.vars.filter fun s => !acc.contains s) r ↔ _
    rw [mem_varsL r, List.mem_append, List.mem_filter]
    simp only [List.mem_cons, exists_eq_or_imp, Bool.not_eq_true', List.contains_eq_mem, decide_eq_false_iff_not]
    constructor
    · rintro ((h | h) | h)
      · exact .inl h
      · exact .inr (.inl h.1)
      · exact .inr (.inr h)
    · rintro (h | h | h)
      · exact .inl (.inl h)
      · by_cases k : s ∈ acc
        · exact .inl (.inl k)
        · exact .inl (.inr ⟨h, k⟩)
      · exact .inr h
mutual
theorem um_hit : ∀ (p z : W) (pl : List Nat) (F F' : FD), um p z pl F = (none, F') → Hit [p] [z] F F'
  | .v s, z, pl, F, F', h => by
    unfold um at h
    cases hg : fdGet F s with
    | none =>
      rw [hg] at h
      obtain ⟨_, rfl⟩ := Prod.mk.inj h
      refine ⟨⟨_, rfl⟩, fun G => ?_, fun t => ?_⟩
      · show [(lk (fdW ((F ++ [(s, pl, z)]) ++ G)) s).getD (.v s)] = [z]
        rw [lk_fdW, fdGet_new hg]
        rfl
      · rw [List.map_append, List.mem_append]
        simp [W.vars]
    | some x =>
      obtain ⟨p0, z0⟩ := x
      rw [hg] at h
      dsimp only at h
      by_cases hb : z0.beq z = true
      · rw [if_pos hb] at h
        obtain ⟨_, rfl⟩ := Prod.mk.inj h
        refine ⟨⟨[], by simp⟩, fun G => ?_, fun t => ?_⟩
        · show [(lk (fdW (F ++ G)) s).getD (.v s)] = [z]
          rw [lk_fdW, fdGet_app hg, ← W.beq_eq hb]
          rfl
        · simp only [List.mem_cons, List.not_mem_nil, or_false, exists_eq_left, W.vars]
          constructor
          · exact .inl
          · rintro (k | rfl)
            · exact k
            · exact fdGet_some hg
      · rw [if_neg hb] at h
        cases (Prod.mk.inj h).1
  | .n _ _, .v _, pl, F, F', h => by cases (Prod.mk.inj h).1
  | .n s as, .n t bs, pl, F, F', h => by
    unfold um at h
    by_cases hc : s = t ∧ as.length = bs.length
    · rw [if_pos hc] at h
      obtain ⟨rfl, hl⟩ := hc
      obtain ⟨h1, h2, h3⟩ := ums_hit as bs 0 pl F F' h hl
      refine ⟨h1, fun G => ?_, fun u => ?_⟩
      · show [W.n s (W.subs _ as)] = [W.n s bs]
        rw [h2 G]
      · rw [h3 u]
        simp only [List.mem_cons, List.not_mem_nil, or_false, exists_eq_left]
        show _ ↔ _ ∨ u ∈ W.varsL [] as
        rw [mem_varsL as []]
        simp
    · rw [if_neg hc] at h
      cases (Prod.mk.inj h).1
theorem ums_hit : ∀ (as bs : List W) (i : Nat) (pl : List Nat) (F F' : FD), ums as bs i pl F = (none, F') → as.length = bs.length → Hit as bs F F'
  | [], [], i, pl, F, F', h, _ => by
    unfold ums at h
    obtain ⟨_, rfl⟩ := Prod.mk.inj h
    exact ⟨⟨[], by simp⟩, fun _ => rfl, fun s => by simp⟩
  | [], _ :: _, i, pl, F, F', h, hl => by cases hl
  | _ :: _, [], i, pl, F, F', h, hl => by cases hl
  | a :: as, b :: bs, i, pl, F, F', h, hl => by
    unfold ums at h
    cases hu : um a b (pl ++ [i]) F with
    | mk o F1 =>
      rw [hu] at h
      cases o with
      | some f => cases (Prod.mk.inj h).1
      | none =>
        obtain ⟨⟨E1, e1⟩, g1, k1⟩ := um_hit a b (pl ++ [i]) F F1 hu
        obtain ⟨⟨E2, e2⟩, g2, k2⟩ := ums_hit as bs (i + 1) pl F1 F' h (by simpa using hl)
        refine ⟨⟨E1 ++ E2, by rw [e2, e1, List.append_assoc]⟩, fun G => ?_, fun s => ?_⟩
        · have q1 := g1 (E2 ++ G)
          rw [← List.append_assoc, ← e2] at q1
          have q1 : [a.sub (lk (fdW (F' ++ G)))] = [b] := q1
          show a.sub _ :: W.subs _ as = b :: bs
          rw [(List.cons.inj q1).1, g2 G]
        · rw [k2 s, k1 s]
          simp only [List.mem_cons, List.not_mem_nil, or_false, exists_eq_left, exists_eq_or_imp, or_assoc]
end
theorem um_sub {p z : W} {F : FD} (h : um p z [] [] = (none, F)) : p.sub (lk (fdW F)) = z := by
  obtain ⟨_, g, _⟩ := um_hit p z [] [] F h
  have g := g []
  rw [List.append_nil] at g
  exact (List.cons.inj (show [p.sub (lk (fdW F))] = [z] from g)).1
theorem um_keys {p z : W} {F : FD} (h : um p z [] [] = (none, F)) (s : Str) : s ∈ F.map (·.1) ↔ s ∈ p.vars := by
  obtain ⟨_, _, k⟩ := um_hit p z [] [] F h
  rw [k s]
  simp
end K24

set_option Elab.async false
set_option linter.all false
set_option maxRecDepth 100000
set_option maxHeartbeats 4000000
/-! repr of dicts of words; of lists of words. -/
namespace K24
open PySem PySem.Spec PyProof.Rows L2 Evl
section
variable {X : Cx} {pins : List (Addr × Obj)} {σ : L2.St} {H : Hp} {s : Shared}
mutual
theorem WV.reads (I : Inv X pins σ H s) : ∀ (z : W) (v : V) (u : Value), WV H v z → RelV v u → Reads s.heap u z.o.py []
  | .v x, v, u, h, r => by
    obtain rfl : v = .str x := h
    obtain ⟨t, rfl⟩ := r
    exact Reads.str x t
  | .n x as, v, u, h, r => by
    obtain ⟨a, us, rfl, ha, hu⟩ := h.tup
    cases r
    obtain ⟨its, rv, ⟨o, ho, hc, n, hd⟩, _⟩ := I.tuple (st_of (K := X.K) ha)
    have h2 : ReadsAll s.heap its (.str x :: O.pys (W.os as)) [] := by
      cases rv with
      | cons r1 r2 =>
        obtain ⟨t, rfl⟩ := r1
        exact ReadsAll.cons (as := []) (Reads.str x t) (WVs.reads I as us _ hu r2)
    exact Reads.tuple ho hc hd h2
theorem WVs.reads (I : Inv X pins σ H s) : ∀ (zs : List W) (vs : List V) (us : List Value), WVs H vs zs → Vals vs us → ReadsAll s.heap us (O.pys (W.os zs)) []
  | [], vs, us, h, r => by
    obtain rfl : vs = [] := h
    cases r
    exact ReadsAll.nil
  | z :: zs, vs, us, h, r => by
    obtain ⟨v, ws, rfl, h1, h2⟩ := h
    cases r with
    | cons r1 r2 => exact ReadsAll.cons (as := []) (WV.reads I z v _ h1 r1) (WVs.reads I zs ws _ h2 r2)
end
end
def pyD (ps : List (Str × W)) : List (PyData × PyData) := ps.map fun p => (.str p.1, p.2.o.py)
def shD (ps : List (Str × W)) : Str := (PyData.dict (pyD ps)).shown
theorem pyD_ok {m : Nat} : ∀ {ps : List (Str × W)}, (∀ p ∈ ps, SS.contains p.1 = true ∧ p.2.o.ss = true ∧ p.2.sz ≤ m ∧ p.2.dp ≤ 20) → PyData.showableKv (pyD ps) = true ∧ PyData.leavesShortKv 8 (pyD ps) = true ∧ PyData.weightKv (pyD ps) ≤ ps.length * (9 * m + 11) ∧ PyData.depthKv (pyD ps) ≤ 20
  | [], _ => ⟨rfl, rfl, Nat.zero_le _, Nat.zero_le _⟩
  | p :: r, h => by
    obtain ⟨h1, h2, h3, h4⟩ := h p List.mem_cons_self
    obtain ⟨a, b, c, d⟩ := pyD_ok (ps := r) fun q hq => h q (List.mem_cons_of_mem _ hq)
    have hw : p.2.o.wd = true := by rw [W.wd]; exact h2
    obtain ⟨a1, b1, c1, d1, e1⟩ := O.py_nd hw
    have ks : p.1.cps.size ≤ 8 := of_decide_eq_true (ss_of ss_size h1)
    rw [W.osz] at d1
    rw [W.odp] at e1
    refine ⟨?_, ?_, ?_, ?_⟩
    · show (PyData.showable (.str p.1) && PyData.showable p.2.o.py && PyData.showableKv (pyD r)) = true
      rw [b1, a]
      rfl
    · show (PyData.leavesShort 8 (.str p.1) && PyData.leavesShort 8 p.2.o.py && PyData.leavesShortKv 8 (pyD r)) = true
      rw [c1, b]
      have : PyData.leavesShort 8 (.str p.1) = true := ss_of ss_cps h1
      rw [this]
      rfl
    · show PyData.weight (.str p.1) + PyData.weight p.2.o.py + 2 + PyData.weightKv (pyD r) ≤ (r.length + 1) * (9 * m + 11)
      have : PyData.weight (.str p.1) = p.1.cps.size := by simp only [PyData.weight]
      rw [Nat.add_mul]
      omega
    · show max (max (PyData.depth (.str p.1)) (PyData.depth p.2.o.py)) (PyData.depthKv (pyD r)) ≤ 20
      have : PyData.depth (.str p.1) = 0 := by simp only [PyData.depth]
      omega
section
variable {X : Cx}
def rReprD : List V → Hp → VK → Prop := fun xs H Q => ∃ (d : Addr) (ps : List (Str × W)), xs = [.ref d] ∧ SubV H d ps ∧ (∀ p ∈ ps, SS.contains p.1 = true ∧ p.2.o.ss = true ∧ p.2.sz ≤ 1000 ∧ p.2.dp ≤ 20) ∧ ps.length ≤ 64 ∧ Q (.str (shD ps)) H
theorem call_reprD (hg : X.A.guards = some []) (hu : X.A.units + 100 < cLine) : CallR X (.builtin "repr") rReprD := by
  intro pins s σ H xs us Q I r h
  obtain ⟨d, ps, rfl, hd, hok, hl, q⟩ := h
  obtain ⟨u, rfl, r1⟩ := vals1 r
  obtain rfl : u = .ref d := r1
  obtain ⟨kvs, h1, h2, h3⟩ := hd.ex
  obtain ⟨hz, hs0, vs, kv, o, es, ep, ho, hx, hdat, hk, hp, hn⟩ := I.hok d _ h1
  obtain ⟨a, b, c, e⟩ := pyD_ok (m := 1000) hok
  have key : ∀ (es : List DictEntry) (vs : List (Key × Value)) (kvs : List (Key × V)) (ps : List (Str × W)), Pairs (mixKind X.prog X.w) es vs → KV kvs vs → kvs.map (·.1) = (ps.map keyW).map (·.1) → OVs H (kvs.map (·.2)) ((ps.map keyW).map (·.2)) →
      ReadsAll s.heap (es.map (·.key)) ((pyD ps).map (·.1)) [] ∧ ReadsAll s.heap (es.map (·.val)) ((pyD ps).map (·.2)) [] := by
    intro es
    induction es with
    | nil =>
      intro vs kvs ps hp kv hk ho
      cases hp
      cases kv
      cases ps with
      | nil => exact ⟨ReadsAll.nil, ReadsAll.nil⟩
      | cons p r => cases hk
    | cons en es ih =>
      intro vs kvs ps hp kv hk ho
      cases hp with
      | cons i1 i2 i3 =>
        cases kv with
        | cons j1 j2 =>
          cases ps with
          | nil => cases hk
          | cons p r =>
            obtain ⟨k1, k2⟩ := List.cons.inj hk
            obtain ⟨v, us, e1, ov, os⟩ := ho
            obtain ⟨rfl, rfl⟩ := List.cons.inj e1
            obtain ⟨g1, g2⟩ := ih _ _ r i3 j2 k2 os
            have rk := relV_key (show keyIs _ en.key = true from i1)
            rw [← j1.1] at rk
            dsimp only at k1
            rw [k1] at rk
            obtain ⟨t, ht⟩ : ∃ t, en.key = .str p.1 t := rk
            refine ⟨ReadsAll.cons (as := []) ?_ g1, ReadsAll.cons (as := []) ?_ g2⟩
            · show Reads s.heap en.key (.str p.1) []
              rw [ht]
              exact Reads.str _ _
            · show Reads s.heap en.val p.2.o.py []
              rw [i2]
              exact WV.reads I p.2 _ _ ov j1.2
  obtain ⟨g1, g2⟩ := key _ _ _ _ hp kv h2 h3
  have rd : Reads s.heap (.ref d) (.dict (pyD ps)) (d :: [] ++ []) := Reads.dict ho hx.1 hdat g1 g2
  have hdep : (PyData.dict (pyD ps)).depth ≤ 21 := by
    show PyData.depthKv (pyD ps) + 1 ≤ 21
    omega
  refine PySem.repr_of_reads' rd a (fun _ z => ?_) hg (by omega) (fun _ _ e => e) (fun h' t tk hk => ⟨.str _, H, I.kept hk, ⟨_, rfl⟩, q⟩) (PyData.shown_fits (B := 8) (by decide) (by decide) b ?_)
  · have z : sysModules ∈ [d] := z
    rw [List.mem_singleton] at z
    rw [z] at hs0
    simp at hs0
  · show PyData.weightKv (pyD ps) ≤ 2 ^ 20
    have : ps.length * (9 * 1000 + 11) ≤ 64 * 9011 := Nat.mul_le_mul_right _ hl
    omega
end
section
variable {K : PySem.W.Frag} {σ : L2.St} {H : Hp} {te : TE} {v : V}
abbrev tRprD (te : TE) : TE := tCB rReprD (tCons te tNil)
theorem ev_reprD {d : Addr} {ps : List (Str × W)} (h : Ev te σ H (.ref d)) (hd : SubV H d ps) (hok : ∀ p ∈ ps, SS.contains p.1 = true ∧ p.2.o.ss = true ∧ p.2.sz ≤ 1000 ∧ p.2.dp ≤ 20) (hl : ps.length ≤ 64) : Ev (tRprD te) σ H (.str (shD ps)) := fun H1 x Q q =>
  h H1 x _ fun H2 x2 => ⟨d, ps, rfl, hd.ext (x.trans x2), hok, hl, q H2 x2⟩
/-- a list of words, loosely -/
theorem ev_reprO {o : O} (h : Ev te σ H v) (ov : OV H v o) (hw : o.wd = true) (hd : o.dp ≤ 28) (hs : o.sz ≤ 100000) : Ev (tRpr K te) σ H (.str o.py.shown) := fun H1 x Q q =>
  h H1 x _ fun H2 x2 => by
    obtain ⟨a, b, c, d, e2⟩ := O.py_nd hw
    refine ⟨v, o.py, rfl, OV.dp (ov.ext (x.trans x2)) hw, a, b, by omega, PyData.shown_fits (B := 8) (by decide) (by decide) c (by omega), ?_, q H2 x2⟩
    cases o with
    | str s => exact .inr ⟨s, ov⟩
    | lst xs => obtain ⟨p, _, h, _⟩ := ov; exact .inl ⟨p, h⟩
    | tup xs => obtain ⟨p, _, h, _⟩ := ov; exact .inl ⟨p, h⟩
    | _ => cases hw
end
end K24

set_option Elab.async false
set_option linter.all false
set_option maxRecDepth 100000
set_option maxHeartbeats 4000000
/-! _law_put_right: the draws. -/
namespace K24
open PySem PySem.Spec PyProof.Rows L2 Evl
/-- a word that the law asks of -/
structure Aw (z : W) : Prop where
  dz : Dz z
  nd : z.nd ≤ 81
  fit : z.o.fit = true
  dp : z.dp ≤ 6
theorem nN3 : nN 3 = 40 := rfl
theorem nN2 : nN 2 = 13 := rfl
theorem kk2 : kk 2 = 26 := rfl
theorem kk3 : kk 3 = 80 := rfl
theorem Dw.aw {z : W} (h : Dw 3 z) : Aw z := ⟨h.dz (by decide), by have := h.nd; rw [nN3] at this; omega, h.fit, by have := h.dp; omega⟩
/-- the variables that may be drawn -/
structure Vrs (G : Hp) (p q va : Addr) (xs : List Str) : Prop where
  hv : G va = some (.lst (sVs xs))
  n1 : va ≠ p
  n2 : va ≠ q
  hl : xs.length ≤ 4
  hS : ∀ s ∈ xs, s ∈ SV
theorem Vrs.ext {G J : Hp} {p q va : Addr} {xs : List Str} (h : Vrs G p q va xs) (e : Ex G J) : Vrs J p q va xs := ⟨e _ _ h.hv, h.n1, h.n2, h.hl, h.hS⟩
theorem Vrs.but {G J : Hp} {p q va : Addr} {xs : List Str} (h : Vrs G p q va xs) (e : But p q G J) : Vrs J p q va xs := ⟨e _ _ h.n1 h.n2 h.hv, h.n1, h.n2, h.hl, h.hS⟩
abbrev nPr : List Str := ["_law_stream", "_law_variables", "_law_word", "_law_one", "_law_other", "_law_passed", "_law_was", "_law_both", "_law_due", "_law_name"]
theorem sc_pr : FnScope nPr ["_law_stream", "_law_variables"] (defScope s__law_put_right) := ⟨rfl, rfl, rfl, by decide +kernel, rfl, by decide +kernel, by decide +kernel⟩
abbrev XP (P : Program) (w : World) (K : PySem.W.Frag) (mg : Str → Option Value) (base : Heap) (f c : Addr) (A : Around) (outer : List Env) (s : Shared) (H : Hp) : Cx := (cxOf CX0 P w K mg base nPr "_law_put_right" (defScope s__law_put_right) f (.ref c) A outer s H E0).nox
def stP (i : Nat) : Stmt := (defBody s__law_put_right).getD i (.Pass ⟨0, 0, 0, 0⟩)
section
variable {P : Program} {w : World} {K : PySem.W.Frag} {mg : Str → Option Value} {base : Heap} {f c : Addr} {A : Around} {outer : List Env} {s : Shared} {HX : Hp}
theorem pb1 (T : T24 P w K mg base) (hr : Room 45 (XP P w K mg base f c A outer s HX).A) : ∃ t, PS (XP P w K mg base f c A outer s HX) (stP 0) t ∧
    ∀ (D : Ends) (G : Hp) (p q va : Addr) (n : Int) (xs : List Str), Spr G p q n → n + 500 ≤ 90000 → Vrs G p q va xs →
      (∀ (r : V) (J : Hp) (n' : Int) (z : W), Spr J p q n' → n' ≤ n + 500 → But p q G J → WV J r z → Aw z → D.nx [some (.ref p), some (.ref va), some r, none, none, none, none, none, none, none] J) →
      t D (L2.start nPr [.ref p, .ref va]) G := by
  obtain ⟨fD, dD, GD, bD, kD, mD⟩ := (ok_dr T).ex
  obtain ⟨fA, dA, GA, bA, kA, mA⟩ := (ok_d_atom T).ex
  obtain ⟨fW, dW, GW, bW, kW, mW⟩ := (ok_d_word T 3).ex
  refine ⟨_, ps_set (i := 2) sc_pr.nd rfl (by first | exact Or.inl rfl | exact Or.inr rfl) (pe_ifExp (pt_cmpR op_eq (pe_call GD (hr.mono (by decide)) (by rfl) mD kD bD .nil pass0 (pa_cons (pv 0) (pa_cons pe_int pa_nil))) pe_int (nomark _))
    (pe_call GA (hr.mono (by decide)) (by rfl) mA kA bA .nil pass0 (pa_cons (pv 0) (pa_cons pe_int (pa_cons (pv 1) pa_nil)))) (pe_call GW (hr.mono (by decide)) (by rfl) mW kW bW .nil pass0 (pa_cons (pv 0) (pa_cons pe_int (pa_cons (pv 1) pa_nil))))), ?_⟩
  intro D G p q va n xs S hn hv k
  refine ⟨.ref p, rfl, p, q, n, 3, rfl, S, by omega, by decide, by decide, fun rr G1 r0 r1 S1 B1 => ⟨rfl, _, rfl, ?_⟩⟩
  have v1 := hv.but B1
  dsimp only
  by_cases hb : decide (V.int rr = V.int 0) = true
  · rw [if_pos hb]
    refine ⟨.ref p, rfl, .ref va, rfl, p, q, va, n + 1, xs, rfl, S1, by omega, v1.hv, v1.n1, v1.n2, v1.hl, v1.hS, fun r J n' z SJ hn' BJ hw dz hz => ?_⟩
    exact k r J n' z SJ (by omega) (B1.trans BJ) hw ⟨dz, hz.1, hz.2.1, hz.2.2⟩
  · rw [if_neg hb]
    refine ⟨.ref p, rfl, .ref va, rfl, p, q, va, n + 1, xs, rfl, S1, by rw [kk3]; omega, v1.hv, v1.n1, v1.n2, v1.hl, v1.hS, fun r J n' z SJ hn' BJ hw dz => ?_⟩
    rw [kk3] at hn'
    exact k r J n' z SJ (by omega) (B1.trans BJ) hw dz.aw
/-- a word behind "=" perhaps -/
structure Bw (z : W) : Prop where
  dz : Dz z
  nd : z.nd ≤ 95
  dp : z.dp ≤ 7
theorem Aw.bw {z : W} (h : Aw z) : Bw z := ⟨h.dz, by have := h.nd; omega, by have := h.dp; omega⟩
theorem Aw.eq {x y : W} (h : Aw x) (hy : Dw 2 y) : Bw (.n "=" [y, x]) := by
  have h1 := h.nd
  have h2 := hy.nd
  have h3 := h.dp
  have h4 := hy.dp
  rw [nN2] at h2
  have hnd : (W.n "=" [y, x]).nd ≤ 95 := by
    show y.nd + (x.nd + 0) + 1 ≤ 95
    omega
  have hdp : (W.n "=" [y, x]).dp ≤ 7 := by
    show max y.dp (max x.dp 0) + 1 ≤ 7
    omega
  refine ⟨⟨?_, ?_, by omega, by omega⟩, hnd, hdp⟩
  · unfold O.fitW
    have : (W.n "=" [y, x]).o.fitA = true := by
      show ((eqL [.str "=", y.o, x.o] || headB (.str "=") 2) && (y.o.fit && (x.o.fit && true))) = true
      rw [h.fit, hy.fit]
      rfl
    rw [this, Bool.or_true]
  · show (SS.contains "=" && (y.o.ss && (x.o.ss && true))) = true
    rw [h.dz.ss, hy.ss]
    decide +kernel
theorem ss_pos {s : Str} (h : SS.contains s = true) (hv : varB s = true) : ∃ c, atI s.cps.toList 0 = some c := by
  have key : SS.all (fun s => !varB s || !s.cps.toList.isEmpty) = true := by decide +kernel
  have := ss_of key h
  rw [hv] at this
  cases e : s.cps.toList with
  | nil => rw [e] at this; cases this
  | cons c cs => exact ⟨c, atI_nat (j := 0) rfl⟩
theorem pb2 (T : T24 P w K mg base) (hr : Room 45 (XP P w K mg base f c A outer s HX).A) : ∃ t, PS (XP P w K mg base f c A outer s HX) (stP 1) t ∧
    ∀ (D : Ends) (G : Hp) (c3 c4 c5 c6 c7 c8 c9 : Option V) (p q va : Addr) (n : Int) (xs : List Str) (u : V) (y : W), Spr G p q n → n + 500 ≤ 90000 → Vrs G p q va xs → WV G u y → Aw y →
      (∀ (r : V) (J : Hp) (n' : Int) (z : W), Spr J p q n' → n' ≤ n + 100 → But p q G J → WV J r z → Bw z → D.nx [some (.ref p), some (.ref va), some r, c3, c4, c5, c6, c7, c8, c9] J) →
      t D [some (.ref p), some (.ref va), some u, c3, c4, c5, c6, c7, c8, c9] G := by
  obtain ⟨fD, dD, GD, bD, kD, mD⟩ := (ok_dr T).ex
  obtain ⟨fW, dW, GW, bW, kW, mW⟩ := (ok_d_word T 2).ex
  refine ⟨_, ps_set (i := 2) sc_pr.nd rfl (by first | exact Or.inl rfl | exact Or.inr rfl) (pe_ifExp (PW.pt (pw_and (pt_cmpR op_in_str (pe_ix (ix_or ix_str ix_tup) (pv 2) pe_int (fun _ _ => rfl)) pe_str (by rfl)) (pw_and1 (pt_cmpR op_eq (pe_call GD (hr.mono (by decide)) (by rfl) mD kD bD .nil pass0 (pa_cons (pv 0) (pa_cons pe_int pa_nil))) pe_int (nomark _)))))
    (pe_tup (pa_cons pe_str (pa_cons (pe_call GW (hr.mono (by decide)) (by rfl) mW kW bW .nil pass0 (pa_cons (pv 0) (pa_cons pe_int (pa_cons (pv 1) pa_nil)))) (pa_cons (pv 2) pa_nil)))) (pv 2)), ?_⟩
  intro D G c3 c4 c5 c6 c7 c8 c9 p q va n xs u y S hn hv hu hy k
  have stay : ∀ J, But p q G J → ∀ n', Spr J p q n' → n' ≤ n + 100 → tAsg (tVar 2) (gName 2) D [some (.ref p), some (.ref va), some u, c3, c4, c5, c6, c7, c8, c9] J := fun J B n' SJ hn' =>
    ⟨u, rfl, k u J n' y SJ hn' B (hu.tx (S.tx B)) hy.bw⟩
  have rest : ∀ b : Bool, (fun (c : Bool) H1 => if c = true then (tTest (tOp rEq (tCall spDr [] E0 (tCons (tVar 0) (tCons (tC (.int 4)) tNil))) (tC (.int 0)))) [some (.ref p), some (.ref va), some u, c3, c4, c5, c6, c7, c8, c9] H1 (fun c H1 => if c = true then (tTup (tCons (tC (.str "=")) (tCons (tCall (spDw 2) [] E0 (tCons (tVar 0) (tCons (tC (.int 2)) (tCons (tVar 1) tNil)))) (tCons (tVar 2) tNil)))) [some (.ref p), some (.ref va), some u, c3, c4, c5, c6, c7, c8, c9] H1 (fun v H' => gName 2 v [some (.ref p), some (.ref va), some u, c3, c4, c5, c6, c7, c8, c9] H' fun σ' H'' => D.nx σ' H'') else tVar 2 [some (.ref p), some (.ref va), some u, c3, c4, c5, c6, c7, c8, c9] H1 (fun v H' => gName 2 v [some (.ref p), some (.ref va), some u, c3, c4, c5, c6, c7, c8, c9] H' fun σ' H'' => D.nx σ' H'')) else (if false = true then (tTup (tCons (tC (.str "=")) (tCons (tCall (spDw 2) [] E0 (tCons (tVar 0) (tCons (tC (.int 2)) (tCons (tVar 1) tNil)))) (tCons (tVar 2) tNil)))) [some (.ref p), some (.ref va), some u, c3, c4, c5, c6, c7, c8, c9] H1 (fun v H' => gName 2 v [some (.ref p), some (.ref va), some u, c3, c4, c5, c6, c7, c8, c9] H' fun σ' H'' => D.nx σ' H'') else tVar 2 [some (.ref p), some (.ref va), some u, c3, c4, c5, c6, c7, c8, c9] H1 (fun v H' => gName 2 v [some (.ref p), some (.ref va), some u, c3, c4, c5, c6, c7, c8, c9] H' fun σ' H'' => D.nx σ' H''))) b G := by
    intro b
    cases b with
    | false => exact stay G But.refl n S (by omega)
    | true =>
      show (tTest (tOp rEq (tCall spDr [] E0 (tCons (tVar 0) (tCons (tC (.int 4)) tNil))) (tC (.int 0)))) _ G _
      refine ⟨.ref p, rfl, p, q, n, 4, rfl, S, by omega, by decide, by decide, fun rr G1 r0 r1 S1 B1 => ⟨rfl, _, rfl, ?_⟩⟩
      have v1 := hv.but B1
      by_cases hb : decide (V.int rr = V.int 0) = true
      · rw [hb]
        refine ⟨.ref p, rfl, .ref va, rfl, p, q, va, n + 1, xs, rfl, S1, by rw [kk2]; omega, v1.hv, v1.n1, v1.n2, v1.hl, v1.hS, fun r J n' z SJ hn' BJ hw dz => ?_⟩
        rw [kk2] at hn'
        refine ⟨u, rfl, by show 3 ≤ sizeLine; rw [sizeLine_eq]; omega, fun t ht => ?_⟩
        have x5 : Ex J (upd J t (.tup [.str "=", r, u])) := Ex.new ht
        exact k (.ref t) _ n' (.n "=" [z, y]) (SJ.ext x5) (by omega) ((B1.trans BJ).trans (But.of x5)) (WV.of upd_same (.cons (hw.ext x5) (.cons ((hu.tx (S.tx (B1.trans BJ))).ext x5) .nil))) (hy.eq dz)
      · have hb : decide (V.int rr = V.int 0) = false := by simpa using hb
        rw [hb]
        exact stay G1 B1 (n + 1) S1 (by omega)
  cases y with
  | v sv =>
    obtain rfl : u = .str sv := hu
    obtain ⟨c, hc⟩ := ss_pos hy.dz.ss hy.fit
    have hlen := ss_len (s := sv) (List.contains_iff_mem.mp hy.dz.ss)
    exact ⟨.str sv, rfl, .inl ⟨sv, 0, c, rfl, rfl, sz_of (by have : sv.length ≤ 100 := hlen; omega), hc, ⟨_, _, rfl, rfl, _, rfl, rest _⟩⟩⟩
  | n sn as =>
    obtain ⟨r, us, rfl, hr1, hus⟩ := hu.tup
    exact ⟨.ref r, rfl, .inr ⟨r, _, 0, .str sn, rfl, rfl, st_of hr1, atI_nat (j := 0) rfl, ⟨_, _, rfl, rfl, _, rfl, rest _⟩⟩⟩
end
end K24

set_option Elab.async false
set_option linter.all false
set_option maxRecDepth 100000
set_option maxHeartbeats 4000000
/-! _law_put_right: substitutions drawn; the word put. -/
namespace K24
open PySem PySem.Spec PyProof.Rows L2 Evl
theorem SubV.but {H G : Hp} {d p q : Addr} {n : Int} {ps : List (Str × W)} (h : SubV H d ps) (S : Spr H p q n) (B : But p q H G) : SubV G d ps := by
  obtain ⟨kvs, a, b, c⟩ := h.ex
  obtain ⟨xs, ys, hp, hq⟩ := S.lst
  exact h.tx (S.tx B) fun o ho => B _ _ (fun z => by rw [z, hp] at a; cases a) (fun z => by rw [z, hq] at a; cases a) ho
/-- a substitution as the law draws it -/
structure Sk (ps : List (Str × W)) : Prop where
  len : ps.length ≤ 4
  all : ∀ x ∈ ps, x.1 ∈ SK ∧ Dw 2 x.2
theorem sk_key : ∀ s ∈ SK, SS.contains s = true ∧ varB s = true := by decide +kernel
theorem Sk.ok {ps : List (Str × W)} (h : Sk ps) : SbOk ps := by
  have hl := h.len
  refine ⟨by omega, fun p hp => sk_key _ (h.all p hp).1, fun p hp => ?_⟩
  have hd := (h.all p hp).2
  have h1 := hd.nd
  have h2 := W.sz_nd p.2
  rw [nN2] at h1
  exact ⟨hd.fit, hd.ss, by omega⟩
theorem Sk.perm {ps qs : List (Str × W)} (h : Sk ps) (p : qs.Perm ps) : Sk qs := ⟨by rw [p.length_eq]; exact h.len, fun x hx => h.all x (p.mem_iff.mp hx)⟩
theorem Sk.rep {ps : List (Str × W)} (h : Sk ps) : ∀ p ∈ ps, SS.contains p.1 = true ∧ p.2.o.ss = true ∧ p.2.sz ≤ 1000 ∧ p.2.dp ≤ 20 := fun p hp => by
  have hd := (h.all p hp).2
  have h1 := hd.nd
  have h2 := W.sz_nd p.2
  have h3 := hd.dp
  rw [nN2] at h1
  exact ⟨(sk_key _ (h.all p hp).1).1, hd.ss, by omega, by omega⟩
theorem Sk.lk {ps : List (Str × W)} (h : Sk ps) {s : Str} {z : W} (e : lk ps s = some z) : Dw 2 z := (h.all _ (lk_mem e)).2
theorem Sk.d12 {ps : List (Str × W)} (h : Sk ps) : ∀ p ∈ ps, p.2.dp < 12 := fun p hp => by
  have := (h.all p hp).2.dp
  omega
theorem lk_perm {ps qs : List (Str × W)} (nd : (ps.map (·.1)).Nodup) (p : qs.Perm ps) : lk qs = lk ps := by
  have nq : (qs.map (·.1)).Nodup := (p.map _).nodup_iff.mpr nd
  funext s
  cases h : lk ps s with
  | none =>
    cases h2 : lk qs s with
    | none => rfl
    | some z =>
      have := lk_self nd _ (p.mem_iff.mp (lk_mem h2))
      rw [h] at this
      cases this
  | some z => exact lk_self nq _ (p.mem_iff.mpr (lk_mem h))
theorem SubV.nodup {H : Hp} {d : Addr} {ps : List (Str × W)} (h : SubV H d ps) : (ps.map (·.1)).Nodup := by
  obtain ⟨_, _, _, _, nd, _⟩ := h.get
  exact nd
/-- what a word becomes -/
theorem Bw.sub {z : W} (h : Bw z) {ps : List (Str × W)} (k : Sk ps) : (z.sub (lk ps)).o.fitW = true ∧ (z.sub (lk ps)).o.ss = true ∧ (z.sub (lk ps)).nd ≤ 95 * 13 ∧ (z.sub (lk ps)).dp ≤ 10 := by
  refine ⟨W.fitW_sub (fun s z e => (k.lk e).fit) z h.dz.fit, W.ss_sub (fun s z e => (k.lk e).ss) z h.dz.ss, ?_, ?_⟩
  · have h1 := W.nd_sub (f := lk ps) (m := 13) (by decide) (fun s z e => by have := (k.lk e).nd; rw [nN2] at this; exact this) z
    have h2 : z.nd * 13 ≤ 95 * 13 := Nat.mul_le_mul_right _ h.nd
    omega
  · have h1 := W.dp_sub (f := lk ps) (m := 3) (fun s z e => by have := (k.lk e).dp; omega) z
    have := h.dp
    omega
/-- a right word, not too great -/
theorem lw_of {G : Hp} {v : V} {z : W} (h : WV G v z) (f : z.o.fitW = true) (ss : z.o.ss = true) (nd : z.nd ≤ 4000) (dp : z.dp < 12) : Lw G v z := by
  refine ⟨⟨z.o, ⟨h, ss, ?_, z.e3⟩, f, strip_o z⟩, dp⟩
  have := W.sz_nd z
  rw [W.osz]
  omega
theorem W.dq : ∀ z : W, z.o.dq = z.dp := by
  have key : ∀ n : Nat, ∀ z : W, z.sz ≤ n → z.o.dq = z.dp := by
    intro n
    induction n with
    | zero => intro z h; cases z <;> simp [W.sz] at h
    | succ n ih =>
      intro z h
      cases z with
      | v s => rfl
      | n s as =>
        have hs : W.szs as + 2 ≤ n + 1 := h
        have : ∀ l : List W, W.szs l ≤ n → O.dqs (W.os l) = W.dps l := by
          intro l
          induction l with
          | nil => intro _; rfl
          | cons a r ih2 =>
            intro h
            have h : a.sz + W.szs r ≤ n := h
            show max a.o.dq (O.dqs (W.os r)) = max a.dp (W.dps r)
            rw [ih a (by omega), ih2 (by omega)]
        show max 0 (O.dqs (W.os as)) + 1 = W.dps as + 1
        rw [this as (by omega)]
        omega
  exact fun z => key _ z (Nat.le_refl _)
section
variable {P : Program} {w : World} {K : PySem.W.Frag} {mg : Str → Option Value} {base : Heap} {f c : Addr} {A : Around} {outer : List Env} {s : Shared} {HX : Hp}
theorem pb3 (T : T24 P w K mg base) (hr : Room 45 (XP P w K mg base f c A outer s HX).A) : ∃ t, PS (XP P w K mg base f c A outer s HX) (stP 2) t ∧
    ∀ (D : Ends) (G : Hp) (c2 c3 c4 c5 c6 c7 c8 c9 : Option V) (p q va : Addr) (n : Int) (xs : List Str), Spr G p q n → n + 500 ≤ 90000 → Vrs G p q va xs →
      (∀ (d1 d2 : Addr) (J : Hp) (n' : Int) (ps qs : List (Str × W)), Spr J p q n' → n' ≤ n + 240 → But p q G J → SubV J d1 ps → SubV J d2 qs → Sk ps → Sk qs → D.nx [some (.ref p), some (.ref va), c2, some (.ref d1), some (.ref d2), c5, c6, c7, c8, c9] J) →
      t D [some (.ref p), some (.ref va), c2, c3, c4, c5, c6, c7, c8, c9] G := by
  obtain ⟨fS, dS, GS, bS, kS, mS⟩ := (ok_substitution T).ex
  refine ⟨_, ps_asg (pe_tup (pa_cons (pe_call GS (hr.mono (by decide)) (by rfl) mS kS bS .nil pass0 (pa_cons (pv 0) (pa_cons (pv 1) pa_nil))) (pa_cons (pe_call GS (hr.mono (by decide)) (by rfl) mS kS bS .nil pass0 (pa_cons (pv 0) (pa_cons (pv 1) pa_nil))) pa_nil)))
    (pg_tup rfl (pgs_cons (pg_name (i := 3) sc_pr.nd rfl (Or.inr rfl)) (pgs_cons (pg_name (i := 4) sc_pr.nd rfl (Or.inr rfl)) pgs_nil))), ?_⟩
  intro D G c2 c3 c4 c5 c6 c7 c8 c9 p q va n xs S hn hv k
  refine ⟨.ref p, rfl, .ref va, rfl, p, q, va, n, xs, rfl, S, by omega, hv.hv, hv.n1, hv.n2, hv.hl, hv.hS, fun d1 G1 n1 ps h1 S1 hn1 B1 hd1 l1 k1 => ?_⟩
  have v1 := hv.but B1
  refine ⟨.ref p, rfl, .ref va, rfl, p, q, va, n1, xs, rfl, S1, by omega, v1.hv, v1.n1, v1.n2, v1.hl, v1.hS, fun d2 G2 n2 qs h2 S2 hn2 B2 hd2 l2 k2 => ?_⟩
  refine ⟨by show 2 ≤ sizeLine; rw [sizeLine_eq]; omega, fun t ht => ?_⟩
  have x3 : Ex G2 (upd G2 t (.tup [.ref d1, .ref d2])) := Ex.new ht
  refine ⟨t, _, rfl, st_of upd_same, rfl, _, _, rfl, _, _, rfl, rfl, ?_⟩
  exact k d1 d2 _ n2 ps qs (S2.ext x3) (by omega) ((B1.trans B2).trans (But.of x3)) ((hd1.but S1 B2).ext x3) (hd2.ext x3) ⟨l1, k1⟩ ⟨l2, k2⟩
theorem pb4 (T : T24 P w K mg base) (hr : Room 45 (XP P w K mg base f c A outer s HX).A) : ∃ t, PS (XP P w K mg base f c A outer s HX) (stP 3) t ∧
    ∀ (D : Ends) (G : Hp) (c1 c2 c4 c5 c6 c7 c8 c9 : Option V) (p q d1 : Addr) (n : Int) (ps : List (Str × W)), Spr G p q n → n + 500 ≤ 90000 → SubV G d1 ps → Sk ps →
      (∀ (dp : Addr) (J : Hp) (n' : Int) (ps' : List (Str × W)), Spr J p q n' → n' ≤ n + 4 → But p q G J → SubV J dp ps' → ps'.Perm ps → D.nx [some (.ref p), c1, c2, some (.ref d1), c4, some (.ref dp), c6, c7, c8, c9] J) →
      t D [some (.ref p), c1, c2, some (.ref d1), c4, c5, c6, c7, c8, c9] G := by
  obtain ⟨fT, dT, GT, bT, kT, mT⟩ := (ok_turned T).ex
  refine ⟨_, ps_set (i := 5) sc_pr.nd rfl (by first | exact Or.inl rfl | exact Or.inr rfl) (pe_call GT (hr.mono (by decide)) (by rfl) mT kT bT .nil pass0 (pa_cons (pv 0) (pa_cons (pv 3) pa_nil))), ?_⟩
  intro D G c1 c2 c4 c5 c6 c7 c8 c9 p q d1 n ps S hn hd sk k
  have hl := sk.len
  refine ⟨.ref p, rfl, .ref d1, rfl, p, q, d1, n, ps, rfl, S, by omega, by omega, hd, fun r J qs hr' hp hq SJ BJ => ?_⟩
  exact k r J _ qs SJ (by omega) BJ hq hp
theorem pb5 (T : T24 P w K mg base) (hr : Room 45 (XP P w K mg base f c A outer s HX).A) (hg : (XP P w K mg base f c A outer s HX).A.guards = some []) : ∃ t, PS (XP P w K mg base f c A outer s HX) (stP 4) t ∧
    ∀ (D : Ends) (G : Hp) (c0 c1 c2 c3 c4 c6 c7 c8 c9 : Option V) (dp : Addr) (ps : List (Str × W)), SubV G dp ps → Sk ps →
      (∀ J, Ex G J → D.nx [c0, c1, c2, c3, c4, some (.ref dp), some (.str (shD ps)), c7, c8, c9] J) →
      t D [c0, c1, c2, c3, c4, some (.ref dp), c6, c7, c8, c9] G := by
  have hu := hr.un
  refine ⟨_, ps_set (i := 6) sc_pr.nd rfl (by first | exact Or.inl rfl | exact Or.inr rfl) (pe_callB (call_reprD hg (by omega)) (by rfl) T.repr PyProof.Rows.boot_repr (pa_cons (pv 5) pa_nil)), ?_⟩
  intro D G c0 c1 c2 c3 c4 c6 c7 c8 c9 dp ps hd sk k
  have hl := sk.len
  exact q_asg (D := D) (tz := fun D => D.nx) (ev_reprD (ev_var (i := 5) rfl) hd sk.rep (by omega)) k
abbrev tPut (K : PySem.W.Frag) (E : L2.St → XK) (t1 t2 : TE) : TE := tCallS (spPut K) E (tCons t1 (tCons t2 tNil))
/-- a word in which another is put, staying -/
theorem evp_put {σ : L2.St} {G : Hp} {E : L2.St → XK} {t1 t2 : TE} {z : W} {d : Addr} {ps : List (Str × W)} (h1 : EvP t1 σ G (fun v J => Lw J v z)) (h2 : Ev t2 σ G (.ref d)) (hd : SubV G d ps) (ok : SbOk ps) :
    EvP (tPut K E t1 t2) σ G (fun r J => WV J r (z.sub (lk ps))) := fun H1 e Q q =>
  h1 H1 e _ fun v H2 e2 hv => h2 H2 (e.trans e2) _ fun H3 e3 => ⟨v, .ref d, rfl, .inr ⟨z, hv.ext e3, .inr ⟨d, ps, rfl, hd.ext ((e.trans e2).trans e3), ok, fun r J e4 hw => q r J ((e2.trans e3).trans e4) hw⟩⟩⟩
theorem evp_dput {σ : L2.St} {G : Hp} {m : Nat} {t1 t2 : TE} {z : W} {d : Addr} {ps : List (Str × W)} (h1 : EvP t1 σ G (fun v J => WV J v z)) (h2 : Ev t2 σ G (.ref d)) (hd : SubV G d ps) (hz : z.dp < m) (hm : m ≤ 40) (hs : z.sz ≤ 9000) :
    EvP (tCall (spEx m) [] E0 (tCons t1 (tCons t2 tNil))) σ G (fun r J => WV J r (z.sub (lk ps))) := fun H1 e Q q =>
  h1 H1 e _ fun v H2 e2 hv => h2 H2 (e.trans e2) _ fun H3 e3 => ⟨v, d, z, ps, rfl, WV.ext e3 hv, hd.ext ((e.trans e2).trans e3), hz, hm, hs, fun r J e4 hw => q r J ((e2.trans e3).trans e4) hw⟩
abbrev EvW (te : TE) (σ : L2.St) (H : Hp) (z : W) : Prop := EvP te σ H (fun v G => WV G v z)
abbrev tSame (m : Nat) (t1 t2 : TE) : TE := tCall (spSa m) [] E0 (tCons t1 (tCons t2 tNil))
theorem ev_sameW {σ : L2.St} {G : Hp} {t1 t2 : TE} {z : W} {m : Nat} (h1 : EvW t1 σ G z) (h2 : EvW t2 σ G z) (hd : z.dp < m) (hm : m ≤ 40) (hs : z.nd ≤ 20000) : Ev (tSame m t1 t2) σ G (.bl true) := fun H1 e Q q =>
  h1 H1 e _ fun x H2 e2 hx => h2 H2 (e.trans e2) _ fun y H3 e3 hy => ⟨x, y, z.o, rfl, WV.ext e3 hx, hy, by rw [W.dq]; exact hd, hm, by have := W.sz_nd z; rw [W.osz]; omega, fun H4 e4 => q H4 ((e2.trans e3).trans e4)⟩
theorem evw_var {σ : L2.St} {G : Hp} {i : Nat} {v : V} {z : W} (h : σ[i]? = some (some v)) (hw : WV G v z) : EvW (tVar i) σ G z := EvP.of (ev_var h) fun J e => WV.ext e hw
theorem pb6 (T : T24 P w K mg base) (hr : Room 45 (XP P w K mg base f c A outer s HX).A) (hg : (XP P w K mg base f c A outer s HX).A.guards = some []) : ∃ t, PS (XP P w K mg base f c A outer s HX) (stP 5) t ∧
    ∀ (D : Ends) (G : Hp) (c1 c4 c7 c8 c9 : Option V) (p q d1 dp : Addr) (n : Int) (ps ps' : List (Str × W)) (u : V) (z : W), Spr G p q n → n + 500 ≤ 90000 → WV G u z → Bw z → SubV G d1 ps → Sk ps → SubV G dp ps' → ps'.Perm ps →
      (∀ (J : Hp) (n' : Int), Spr J p q n' → n' ≤ n + 100 → But p q G J → D.nx [some (.ref p), c1, some u, some (.ref d1), c4, some (.ref dp), some (.str (shD ps')), c7, c8, c9] J) →
      t D [some (.ref p), c1, some u, some (.ref d1), c4, some (.ref dp), some (.str (shD ps')), c7, c8, c9] G := by
  have hu := hr.un
  obtain ⟨fL, dL, GL, bL, kL, mL⟩ := (ok_d_loose T 12).ex
  obtain ⟨fP, dP, GP, bP, kP, mP⟩ := (ok_put T).ex
  obtain ⟨fX, dX, GX, bX, kX, mX⟩ := (ok_law_put T 12).ex
  obtain ⟨fS, dS, GS, bS, kS, mS⟩ := (ok_same T 20).ex
  refine ⟨_, ps_if (PW.pt (pw_or (pt_not (pt_val (pe_call GS (hr.mono (by decide)) (by rfl) mS kS bS .nil pass0
      (pa_cons (pe_callS (sp := spPut K) GP (hr.mono (by decide)) (by rfl) mP kP bP (fun σ => passAt L2.takes0 σ) (pa_cons (pe_call GL (hr.mono (by decide)) (by rfl) mL kL bL .nil pass0 (pa_cons (pv 0) (pa_cons (pv 2) pa_nil))) (pa_cons (pv 5) pa_nil)))
        (pa_cons (pe_call GX (hr.mono (by decide)) (by rfl) mX kX bX .nil pass0 (pa_cons (pv 2) (pa_cons (pv 3) pa_nil))) pa_nil)))))
      (pw_or1 (pt_cmpR op_ne (pe_callB (call_reprD hg (by omega)) (by rfl) T.repr PyProof.Rows.boot_repr (pa_cons (pv 5) pa_nil)) (pv 6) (nomark _))))) (pss_one ps_never) pss_nil, ?_⟩
  intro D G c1 c4 c7 c8 c9 p q d1 dp n ps ps' u z S hn hu' hz hd1 sk hdp hperm k
  have hnd := hz.nd
  have hzs := W.sz_nd z
  have hlk := lk_perm hd1.nodup hperm
  have sk' := sk.perm hperm
  obtain ⟨f1, f2, f3, f4⟩ := hz.sub sk
  refine ⟨.ref p, rfl, u, rfl, p, q, u, n, z, rfl, S, by omega, hu', hz.dz.dp, by decide, by omega, fun r J n' o SJ hn' BJ hov hst => ?_⟩
  have hdJ := hdp.but S BJ
  have hd1J := hd1.but S BJ
  have huJ := hu'.tx (S.tx BJ)
  refine ⟨.ref dp, rfl, r, .ref dp, rfl, .inr ⟨z, hz.dz.lw (hov.ext hx_ex) hst, .inr ⟨dp, ps', rfl, hdJ, sk'.ok, fun r2 J2 e2 hw2 => ?_⟩⟩⟩
  rw [hlk] at hw2
  refine evp_dput (z := z) (ps := ps) (m := 12) (G := J2) (t1 := tVar 2) (t2 := tVar 3) (evw_var (i := 2) rfl (WV.ext e2 huJ)) (ev_var (i := 3) rfl) (hd1J.ext e2) hz.dz.dp (by decide) (by omega) J2 (Ex.refl _) _ fun r3 J3 e3 hw3 => ?_
  refine ⟨r2, r3, (z.sub (lk ps)).o, rfl, WV.ext e3 hw2, hw3, by rw [W.dq]; omega, by decide, by have := W.sz_nd (z.sub (lk ps)); rw [W.osz]; omega, fun J4 e4 => ?_⟩
  have e24 := (e2.trans e3).trans e4
  refine ⟨true, rfl, ?_⟩
  have hl := sk'.len
  refine ev_op (ev_reprD (ev_var (i := 5) rfl) (hdJ.ext e24) sk'.rep (by omega)) (ev_var (i := 6) rfl) (rv_ne rfl) J4 (Ex.refl _) _ fun J5 e5 => ?_
  rw [decide_eq_true rfl]
  refine ⟨false, rfl, ?_⟩
  have e25 := e24.trans e5
  exact k J5 n' (SJ.ext e25) (by omega) (BJ.trans (But.of e25))
end
end K24

set_option Elab.async false
set_option linter.all false
set_option maxRecDepth 100000
set_option maxHeartbeats 4000000
/-! _law_put_right: behind, and what is due. -/
namespace K24
open PySem PySem.Spec PyProof.Rows L2 Evl
theorem putK_sub (kvs : List (Key × V)) (k : Key) (v : V) : ((putK kvs k v).map (·.1)).Sublist (kvs.map (·.1) ++ [k]) := by
  unfold putK
  split
  · have e : (kvs.map fun kv => if kv.1 = k then (kv.1, v) else kv).map (·.1) = kvs.map (·.1) := by
      rw [List.map_map]
      refine List.map_congr_left fun p _ => ?_
      show (if p.1 = k then (p.1, v) else p).1 = p.1
      split <;> rfl
    rw [e]
    exact List.sublist_append_left _ _
  · rw [List.map_append]
    exact List.Sublist.refl _
theorem mergeK_sub : ∀ (more kvs : List (Key × V)), ((mergeK kvs more).map (·.1)).Sublist (kvs.map (·.1) ++ more.map (·.1))
  | [], kvs => by show (kvs.map (·.1)).Sublist _; simp
  | p :: r, kvs => by
    refine (mergeK_sub r (putK kvs p.1 p.2)).trans ?_
    have h := (putK_sub kvs p.1 p.2).append_right (r.map (·.1))
    rw [List.append_assoc] at h
    exact h
theorem valV_mergeK {j : Key} {v : V} : ∀ (more kvs : List (Key × V)), valV (mergeK kvs more) j = some v → (j, v) ∈ more ∨ valV kvs j = some v
  | [], kvs, h => .inr h
  | p :: r, kvs, h => by
    rcases valV_mergeK r (putK kvs p.1 p.2) h with h | h
    · exact .inl (List.mem_cons_of_mem _ h)
    · rw [valV_put] at h
      by_cases e : j = p.1
      · rw [if_pos e] at h
        obtain rfl := Option.some.inj h
        subst e
        exact .inl List.mem_cons_self
      · rw [if_neg e] at h
        exact .inr h
theorem valV_some {kvs : List (Key × V)} {k : Key} (h : k ∈ kvs.map (·.1)) : ∃ v, valV kvs k = some v := by
  obtain ⟨p, hp, rfl⟩ := List.mem_map.mp h
  unfold valV
  cases hf : kvs.find? (fun q => decide (q.1 = p.1)) with
  | none => exact absurd (List.find?_eq_none.mp hf p hp) (by simp)
  | some q => exact ⟨q.2, rfl⟩
theorem bh_perm {ps ps' qs qs' : List (Str × W)} (h1 : lk ps' = lk ps) (h2 : lk qs' = lk qs) : bh ps' qs' = bh ps qs := by
  funext s
  unfold bh
  rw [h1, h2]
theorem outB_perm {ps ps' qs qs' : List (Str × W)} (h : bh ps' qs' = bh ps qs) : ∀ ys : List Str, outB ps' qs' ys = outB ps qs ys
  | [] => rfl
  | s :: r => by
    show (if (bh ps' qs' s).beq (.v s) then outB ps' qs' r else (s, bh ps' qs' s) :: outB ps' qs' r) = _
    rw [h, outB_perm h r]
    rfl
/-- the names of both, in order -/
structure Ys (ps qs : List (Str × W)) (ys : List Str) : Prop where
  nd : ys.Nodup
  mem : ∀ s, s ∈ ys ↔ s ∈ ps.map (·.1) ∨ s ∈ qs.map (·.1)
  srt : sortedS ys = true
theorem Ys.eq {ps qs : List (Str × W)} {ys zs : List Str} (h : Ys ps qs ys) (k : Ys ps qs zs) : ys = zs :=
  sorted_eq ((List.perm_ext_iff_of_nodup h.nd k.nd).mpr fun s => by rw [h.mem, k.mem]) h.srt k.srt
def duO (ps qs : List (Str × W)) (ys : List Str) : List (Str × W) := ys.map fun s => (s, bh ps qs s)
theorem pw_sorted {l : List Str} (h : l.Pairwise fun a b => ltCps b.cps.toList a.cps.toList = false) : sortedS l = true := PyProof.Rows.sortedS_of_pairwise l h
/-- keys that are texts -/
theorem sub_keys {zs : List Str} : ∀ {l : List Key}, l.Sublist (zs.map fun s => (Sum.inr s : Key)) → ∃ ws : List Str, l = ws.map (fun s => (Sum.inr s : Key)) ∧ ws.Sublist zs := fun {l} h => by
  obtain ⟨ws, h1, h2⟩ := List.sublist_map_iff.mp h
  exact ⟨ws, h2, h1⟩
/-- a pair new at t: a text and a word -/
structure Pw (G : Hp) (x : Addr × V × Str) (z : W) : Prop where
  ht : G x.1 = some (.tup [.str x.2.2, x.2.1])
  hw : WV G x.2.1 z
section
variable {P : Program} {w : World} {K : PySem.W.Frag} {mg : Str → Option Value} {base : Heap} {f c : Addr} {A : Around} {outer : List Env} {s : Shared} {HX : Hp}
theorem pb7 (T : T24 P w K mg base) (hr : Room 45 (XP P w K mg base f c A outer s HX).A) : ∃ t, PS (XP P w K mg base f c A outer s HX) (stP 6) t ∧
    ∀ (D : Ends) (G : Hp) (c1 c2 c3 c6 c7 c8 c9 : Option V) (p q dp d2 : Addr) (n : Int) (ps ps' qs : List (Str × W)), Spr G p q n → n + 500 ≤ 90000 → SubV G d2 qs → Sk qs → SubV G dp ps' → ps'.Perm ps → Sk ps →
      (∀ (pd : Addr) (J : Hp) (n' : Int) (ys : List Str), Spr J p q n' → n' ≤ n + 4 → But p q G J → G pd = none → Ys ps qs ys → SubV J pd (outB ps qs ys) → D.nx [some (.ref p), c1, c2, c3, some (.ref d2), some (.ref dp), c6, some (.ref pd), c8, c9] J) →
      t D [some (.ref p), c1, c2, c3, some (.ref d2), some (.ref dp), c6, c7, c8, c9] G := by
  obtain ⟨fT, dT, GT, bT, kT, mT⟩ := (ok_turned T).ex
  obtain ⟨fB, dB, GB, bB, kB, mB⟩ := (ok_behind T).ex
  refine ⟨_, ps_set (i := 7) sc_pr.nd rfl (by first | exact Or.inl rfl | exact Or.inr rfl) (pe_callS (sp := spBh K) GB (hr.mono (by decide)) (by rfl) mB kB bB (fun σ => passAt L2.takes0 σ) (pa_cons (pv 5) (pa_cons (pe_call GT (hr.mono (by decide)) (by rfl) mT kT bT .nil pass0 (pa_cons (pv 0) (pa_cons (pv 4) pa_nil))) pa_nil))), ?_⟩
  intro D G c1 c2 c3 c6 c7 c8 c9 p q dp d2 n ps ps' qs S hn hd2 sq hdp hperm sp k
  have l1 := sq.len
  have l2 := (sp.perm hperm).len
  have np : (ps.map (·.1)).Nodup := (hperm.map _).nodup_iff.mp hdp.nodup
  refine ⟨.ref dp, rfl, .ref p, rfl, .ref d2, rfl, p, q, d2, n, qs, rfl, S, by omega, by omega, hd2, fun r J qs' hr' hp hq SJ BJ => ?_⟩
  have hb : bh ps' qs' = bh ps qs := bh_perm (lk_perm np hperm) (lk_perm hd2.nodup hp)
  have l3 := (sq.perm hp).len
  refine ⟨.ref dp, .ref r, rfl, .inr ⟨dp, ps', rfl, hdp.but S BJ, (sp.perm hperm).ok, (sp.perm hperm).d12, .inr ⟨r, qs', rfl, hq, (sq.perm hp).ok, (sq.perm hp).d12, by omega, fun pd J2 ys npd e2 hn2 hm2 hs2 hv2 => ?_⟩⟩⟩
  rw [outB_perm hb] at hv2
  refine k pd J2 _ ys (SJ.ext e2) (by omega) (BJ.trans (But.of e2)) (BJ.back SJ npd) ⟨hn2, fun s => ?_, hs2⟩ hv2
  rw [hm2 s, (hperm.map _).mem_iff, (hp.map _).mem_iff]
theorem pb8 (T : T24 P w K mg base) (hr : Room 45 (XP P w K mg base f c A outer s HX).A) : ∃ t, PS (XP P w K mg base f c A outer s HX) (stP 7) t ∧
    ∀ (D : Ends) (G : Hp) (c0 c1 c2 c5 c6 c7 c8 c9 : Option V) (d1 d2 : Addr) (ps qs : List (Str × W)) (ys : List Str), SubV G d1 ps → Sk ps → SubV G d2 qs → Sk qs → Ys ps qs ys →
      (∀ (dd : Addr) (J : Hp), Ex G J → G dd = none → SubV J dd (duO ps qs ys) → D.nx [c0, c1, c2, some (.ref d1), some (.ref d2), c5, c6, c7, some (.ref dd), none] J) →
      t D [c0, c1, c2, some (.ref d1), some (.ref d2), c5, c6, c7, c8, none] G := by
  obtain ⟨fX, dX, GX, bX, kX, mX⟩ := (ok_law_put T 12).ex
  refine ⟨_, ps_set (i := 8) sc_pr.nd rfl (by first | exact Or.inl rfl | exact Or.inr rfl) (pe_callTy (call_dictP rfl) (by rfl) T.dict (by decide +kernel) (pa_cons (pe_lc (own := [("_law_name", 9)]) (g := gName 9) (tt := tYes) (te := tTup (tCons (tVar 9) (tCons (tCall (spEx 12) [] E0 (tCons (tCall (spEx 12) [] E0 (tCons (tVar 9) (tCons (tVar 3) tNil))) (tCons (tVar 4) tNil))) tNil))) rfl sc_pr.nd
      (pi_list (pe_callB cr_sortedS (by rfl) T.sorted (by decide +kernel) (pa_cons (pe_op op_cat (pe_callTy (call_listD rfl) (by rfl) T.list PyProof.Rows.boot_list (pa_cons (pv 3) pa_nil)) (pe_callTy (call_listD rfl) (by rfl) T.list PyProof.Rows.boot_list (pa_cons (pv 4) pa_nil))) pa_nil)))
      (blkOk_by (N := nPr) (sc := defScope s__law_put_right) (by decide +kernel)) (fun _ _ _ _ _ => pg_name (i := 9) sc_pr.nd rfl (Or.inl rfl)) (fun _ _ _ _ _ => pts_nil)
      (fun _ _ _ _ _ => pe_tup (pa_cons (pv 9) (pa_cons (pe_call GX (hr.mono (by decide)) (by rfl) mX kX bX .nil pass0 (pa_cons (pe_call GX (hr.mono (by decide)) (by rfl) mX kX bX .nil pass0 (pa_cons (pv 9) (pa_cons (pv 3) pa_nil))) (pa_cons (pv 4) pa_nil))) pa_nil)))) pa_nil)), ?_⟩
  intro D G c0 c1 c2 c5 c6 c7 c8 c9 d1 d2 ps qs ys hd1 sk1 hd2 sk2 hys k
  obtain ⟨k1, a1, a2, a3, a4, a5, a6⟩ := hd1.get
  obtain ⟨k2, b1, b2, b3, b4, b5, b6⟩ := hd2.get
  have la := sk1.len
  have lb := sk2.len
  have ka : (k1.map fun kv => kV kv.1) = sVs (ps.map (·.1)) := by
    have := congrArg (List.map kV) a3
    rw [List.map_map, List.map_map] at this
    unfold sVs
    rw [List.map_map]
    exact this
  have kb : (k2.map fun kv => kV kv.1) = sVs (qs.map (·.1)) := by
    have := congrArg (List.map kV) b3
    rw [List.map_map, List.map_map] at this
    unfold sVs
    rw [List.map_map]
    exact this
  refine ⟨.ref d1, rfl, d1, k1, rfl, .inl a1, fun l1 n1 => ⟨.ref d2, rfl, d2, k2, rfl, .inl (Ex.new n1 _ _ b1), fun l2 n2 => ?_⟩⟩
  rw [ka] at n2 ⊢
  rw [kb]
  have x1 : Ex G (upd G l1 (.lst (sVs (ps.map (·.1))))) := Ex.new n1
  have x2 := Ex.new (H := upd G l1 (.lst (sVs (ps.map (·.1))))) (o := .lst (sVs (qs.map (·.1)))) n2
  refine ⟨l1, l2, _, _, rfl, rfl, x2 _ _ upd_same, upd_same, sz_of (by unfold sVs; simp; omega), fun l3 n3 => ?_⟩
  have e2 := x1.trans x2
  generalize upd (upd G l1 (.lst (sVs (ps.map (·.1))))) l2 (.lst (sVs (qs.map (·.1)))) = G2 at e2 n3 ⊢
  have x3 : Ex G2 (upd G2 l3 (.lst (sVs (ps.map (·.1)) ++ sVs (qs.map (·.1))))) := Ex.new n3
  have ecat : sVs (ps.map (·.1)) ++ sVs (qs.map (·.1)) = (ps.map (·.1) ++ qs.map (·.1)).map V.str := by unfold sVs; rw [List.map_append]
  refine ⟨l3, ps.map (·.1) ++ qs.map (·.1), rfl, sq_of (by rw [upd_same, ecat]), by simp; omega, fun zs pz hperm hsort nz => ?_⟩
  have e3 := e2.trans x3
  generalize upd G2 l3 (.lst (sVs (ps.map (·.1)) ++ sVs (qs.map (·.1)))) = G3 at e3 nz ⊢
  have x4 : Ex G3 (upd G3 pz (.lst (zs.map V.str))) := Ex.new nz
  have hz4 : (upd G3 pz (.lst (zs.map V.str))) pz = some (.lst (zs.map V.str)) := upd_same
  have e4 := e3.trans x4
  generalize upd G3 pz (.lst (zs.map V.str)) = G4 at e4 hz4 ⊢
  have hzl : zs.length ≤ 8 := by have := hperm.length_eq; simp at this; omega
  have hzSK : ∀ s ∈ zs, s ∈ SK := fun s hs => by
    rcases List.mem_append.mp (hperm.mem_iff.mp hs) with h | h
    · obtain ⟨x, hx, rfl⟩ := List.mem_map.mp h
      exact (sk1.all x hx).1
    · obtain ⟨x, hx, rfl⟩ := List.mem_map.mp h
      exact (sk2.all x hx).1
  refine ⟨pz, rfl, ⟨_, sq_of hz4⟩, fun Dl hD => ?_⟩
  refine lc_list (xs := zs.map V.str) (fun i J => Ex G4 J ∧ ∃ L : List (Addr × V × Str), J Dl = some (.lst (L.map fun x => V.ref x.1)) ∧ L.map (fun x => x.2.2) = zs.take i ∧ ∀ x ∈ L, Pw J x (bh ps qs x.2.2)) ⟨Ex.new hD, [], upd_same, by simp, fun x hx => nomatch hx⟩ (fun i J _ c => sq_of (c.1 _ _ hz4)) ?_ ?_
  · rintro i x J hi ⟨eJ, L, hJ, hL, hP⟩
    obtain ⟨y, hy, rfl⟩ := sVs_get (xs := zs) hi
    have hil := (List.getElem?_eq_some_iff.mp hy).1
    have hLl : L.length = i := by
      have := congrArg List.length hL
      simp at this
      omega
    have eA := e4.trans eJ
    refine ⟨rfl, ?_⟩
    unfold tYes
    dsimp only
    rw [if_pos rfl]
    have hv1 : EvW (tCall (spEx 12) [] E0 (tCons (tVar 9) (tCons (tVar 3) tNil))) ((wipe [c0, c1, c2, some (.ref d1), some (.ref d2), c5, c6, c7, c8, none] [9]).set 9 (some (.str y))) J ((W.v y).sub (lk ps)) := evp_dput (m := 12) (z := .v y) (evw_var (i := 9) rfl rfl) (ev_var (i := 3) rfl) (hd1.ext eA) (by show 0 < 12; decide) (by decide) (by show 1 ≤ 9000; decide)
    have hdp : ((W.v y).sub (lk ps)).dp ≤ 3 := by
      have := W.dp_sub (f := lk ps) (m := 3) (fun s z e => by have := (sk1.lk e).dp; omega) (.v y)
      exact this
    have hnd : ((W.v y).sub (lk ps)).nd ≤ 13 := by
      have := W.nd_sub (f := lk ps) (m := 13) (by decide) (fun s z e => by have := (sk1.lk e).nd; rw [nN2] at this; exact this) (.v y)
      exact this
    have hsz := W.sz_nd ((W.v y).sub (lk ps))
    have hv2 := evp_dput (m := 12) (t2 := tVar 4) hv1 (ev_var (i := 4) (v := .ref d2) rfl) (hd2.ext eA) (by omega) (by decide) (by omega)
    refine ⟨.str y, rfl, hv2 J (Ex.refl _) _ fun r J2 e2' hw => ⟨by show 2 ≤ sizeLine; rw [sizeLine_eq]; omega, fun t nt => ?_⟩⟩
    have x5 : Ex J2 (upd J2 t (.tup [.str y, r])) := Ex.new nt
    have ht5 : (upd J2 t (.tup [.str y, r])) t = some (.tup [.str y, r]) := upd_same
    have e5 := e2'.trans x5
    have hw5 := WV.ext x5 hw
    generalize upd J2 t (.tup [.str y, r]) = J5 at e5 ht5 hw5 ⊢
    have hJ5 := e5 _ _ hJ
    have tx := Tx.lst (o := .lst ((L.map fun x => V.ref x.1) ++ [.ref t])) hJ5
    refine ⟨_, hJ5, sz_lt (by rw [List.length_map]; omega), Ex.mut (eJ.trans e5) hD, L ++ [(t, r, y)], ?_, ?_, fun x hx => ?_⟩
    · rw [upd_same, List.map_append]
      rfl
    · rw [List.map_append, hL, take_snoc hy]
      rfl
    · rcases List.mem_append.mp hx with hx | hx
      · have hp := hP x hx
        exact ⟨tx _ _ (e5 _ _ hp.ht), (WV.ext e5 hp.hw).tx tx⟩
      · obtain rfl : x = (t, r, y) := by simpa using hx
        exact ⟨tx _ _ ht5, hw5.tx tx⟩
  · rintro J ⟨eJ, L, hJ, hL, hP⟩
    rw [List.length_map, List.take_length] at hL
    refine ⟨Dl, L.map (·.1), L.map (fun x => ((Sum.inr x.2.2 : Key), x.2.1)), rfl, by rw [List.map_map]; exact sq_of hJ, ?_, fun dd ndd => ?_⟩
    · clear hL hJ
      induction L with
      | nil => exact .nil
      | cons a r ih => exact .cons (st_of (hP a List.mem_cons_self).ht) (ih fun x hx => hP x (List.mem_cons_of_mem _ hx))
    have x6 : Ex J (upd J dd (.dK (mergeK [] (L.map (fun x => ((Sum.inr x.2.2 : Key), x.2.1)))))) := Ex.new ndd
    have h6 : (upd J dd (.dK (mergeK [] (L.map (fun x => ((Sum.inr x.2.2 : Key), x.2.1)))))) dd = some (.dK (mergeK [] (L.map (fun x => ((Sum.inr x.2.2 : Key), x.2.1))))) := upd_same
    have eA := e4.trans eJ
    have hkeys : (L.map (fun x => ((Sum.inr x.2.2 : Key), x.2.1))).map (·.1) = zs.map fun s => (Sum.inr s : Key) := by
      rw [← hL, List.map_map, List.map_map]
      rfl
    have hsub := mergeK_sub (L.map (fun x => ((Sum.inr x.2.2 : Key), x.2.1))) []
    rw [hkeys] at hsub
    obtain ⟨ws, hws, hwz⟩ := sub_keys hsub
    have hwn : ws.Nodup := by
      have := nodup_mergeK (more := L.map (fun x => ((Sum.inr x.2.2 : Key), x.2.1))) (kvs := []) List.nodup_nil
      rw [hws] at this
      exact nodup_of _ this
    have hwm : ∀ s, s ∈ ws ↔ s ∈ zs := fun s => by
      rw [← mem_inr, ← hws, mem_mergeK, hkeys, mem_inr]
      simp
    have hY : Ys ps qs ws := ⟨hwn, fun s => by rw [hwm s, hperm.mem_iff, List.mem_append], pw_sorted ((sortedS_pw hsort).sublist hwz)⟩
    obtain rfl := hY.eq hys
    refine k dd _ (eA.trans x6) (fresh_back eA ndd) ?_
    refine SubV.of h6 ?_ ?_ ?_
    · rw [hws]
      unfold duO
      rw [List.map_map]
      rfl
    · unfold duO
      rw [List.map_map]
      show (ws.map fun s => s).Nodup
      rw [List.map_id']
      exact hwn
    · have hnd : ((mergeK [] (L.map (fun x => ((Sum.inr x.2.2 : Key), x.2.1)))).map (·.1)).Nodup := nodup_mergeK List.nodup_nil
      have val : ∀ kv ∈ mergeK [] (L.map (fun x => ((Sum.inr x.2.2 : Key), x.2.1))), ∃ s, kv.1 = Sum.inr s ∧ WV (upd J dd (.dK (mergeK [] (L.map (fun x => ((Sum.inr x.2.2 : Key), x.2.1)))))) kv.2 (bh ps qs s) := fun kv hkv => by
        obtain ⟨i, hi⟩ := List.getElem?_of_mem hkv
        have hv := valV_at hnd hi
        rcases valV_mergeK _ _ hv with h | h
        · obtain ⟨x, hx, e⟩ := List.mem_map.mp h
          obtain ⟨e1, e2⟩ := Prod.mk.inj e
          exact ⟨x.2.2, e1.symm, by rw [← e2]; exact WV.ext x6 (hP x hx).hw⟩
        · cases h
      generalize mergeK [] (L.map (fun x => ((Sum.inr x.2.2 : Key), x.2.1))) = M at hws val
      clear hsub hwz hwn hwm hY hys h6 x6 hnd k
      unfold duO
      rw [List.map_map]
      generalize upd J dd _ = Z at val
      induction M generalizing ws with
      | nil =>
        cases ws with
        | nil => rfl
        | cons a r => cases hws
      | cons kv M ih =>
        cases ws with
        | nil => cases hws
        | cons a r =>
          obtain ⟨e1, e2⟩ := List.cons.inj hws
          obtain ⟨s, e3, hw⟩ := val kv List.mem_cons_self
          obtain rfl := Sum.inr.inj (e1.symm.trans e3)
          exact .cons hw (ih r e2 fun x hx => val x (List.mem_cons_of_mem _ hx))
end
end K24

set_option Elab.async false
set_option linter.all false
set_option maxRecDepth 100000
set_option maxHeartbeats 4000000
/-! _law_put_right: what is behind, compared. -/
namespace K24
open PySem PySem.Spec PyProof.Rows L2 Evl
theorem bh_dw {ps qs : List (Str × W)} (h1 : Sk ps) (h2 : Sk qs) {s : Str} (hs : s ∈ SK) : (bh ps qs s).o.fit = true ∧ (bh ps qs s).o.ss = true ∧ (bh ps qs s).nd ≤ 169 ∧ (bh ps qs s).dp ≤ 6 := by
  obtain ⟨k1, k2⟩ := sk_key s hs
  refine ⟨W.fit_sub (fun s z e => (h2.lk e).fit) _ (W.fit_sub (fun s z e => (h1.lk e).fit) _ k2), W.ss_sub (fun s z e => (h2.lk e).ss) _ (W.ss_sub (fun s z e => (h1.lk e).ss) _ k1), ?_, ?_⟩
  · have a1 := W.nd_sub (f := lk ps) (m := 13) (by decide) (fun s z e => by have := (h1.lk e).nd; rw [nN2] at this; exact this) (.v s)
    have a2 := W.nd_sub (f := lk qs) (m := 13) (by decide) (fun s z e => by have := (h2.lk e).nd; rw [nN2] at this; exact this) ((W.v s).sub (lk ps))
    have a3 : (W.v s).nd = 1 := rfl
    unfold bh
    omega
  · have a1 := W.dp_sub (f := lk ps) (m := 3) (fun s z e => by have := (h1.lk e).dp; omega) (.v s)
    have a2 := W.dp_sub (f := lk qs) (m := 3) (fun s z e => by have := (h2.lk e).dp; omega) ((W.v s).sub (lk ps))
    have a3 : (W.v s).dp = 0 := rfl
    unfold bh
    omega
theorem Ys.sk {ps qs : List (Str × W)} {ys : List Str} (h : Ys ps qs ys) (h1 : Sk ps) (h2 : Sk qs) : ∀ s ∈ ys, s ∈ SK := fun s hs => by
  rcases (h.mem s).mp hs with k | k
  · obtain ⟨x, hx, rfl⟩ := List.mem_map.mp k
    exact (h1.all x hx).1
  · obtain ⟨x, hx, rfl⟩ := List.mem_map.mp k
    exact (h2.all x hx).1
theorem nodup_le : ∀ {l m : List Str}, l.Nodup → (∀ x ∈ l, x ∈ m) → l.length ≤ m.length
  | [], _, _, _ => Nat.zero_le _
  | a :: r, m, hn, h => by
    rw [List.nodup_cons] at hn
    have ha := h a List.mem_cons_self
    have := nodup_le (l := r) (m := m.erase a) hn.2 fun x hx => (List.mem_erase_of_ne fun z => hn.1 (by rw [← z]; exact hx)).mpr (h x (List.mem_cons_of_mem _ hx))
    have h2 := List.length_erase_of_mem ha
    have h3 := List.length_pos_of_mem ha
    rw [List.length_cons]
    omega
theorem Ys.len {ps qs : List (Str × W)} {ys : List Str} (h : Ys ps qs ys) (h1 : Sk ps) (h2 : Sk qs) : ys.length ≤ 4 := by
  exact nodup_le h.nd (fun s hs => h.sk h1 h2 s hs)
theorem outB_mem {ps qs : List (Str × W)} : ∀ {ys : List Str} {x : Str × W}, x ∈ outB ps qs ys → x.1 ∈ ys ∧ x.2 = bh ps qs x.1
  | [], x, h => nomatch h
  | a :: r, x, h => by
    have h : x ∈ (if (bh ps qs a).beq (.v a) then outB ps qs r else (a, bh ps qs a) :: outB ps qs r) := h
    split at h
    · obtain ⟨h1, h2⟩ := outB_mem h
      exact ⟨List.mem_cons_of_mem _ h1, h2⟩
    · rcases List.mem_cons.mp h with rfl | h
      · exact ⟨List.mem_cons_self, rfl⟩
      · obtain ⟨h1, h2⟩ := outB_mem h
        exact ⟨List.mem_cons_of_mem _ h1, h2⟩
theorem outB_keys {ps qs : List (Str × W)} : ∀ ys : List Str, ((outB ps qs ys).map (·.1)).Sublist ys
  | [] => List.Sublist.refl _
  | a :: r => by
    show ((if (bh ps qs a).beq (.v a) then outB ps qs r else (a, bh ps qs a) :: outB ps qs r).map (·.1)).Sublist (a :: r)
    split
    · exact (outB_keys r).cons a
    · rw [List.map_cons]
      exact (outB_keys r).cons_cons a
theorem outB_len {ps qs : List (Str × W)} (ys : List Str) : (outB ps qs ys).length ≤ ys.length := by
  have := (outB_keys (ps := ps) (qs := qs) ys).length_le
  simpa using this
theorem outB_ok {ps qs : List (Str × W)} {ys : List Str} (h : Ys ps qs ys) (h1 : Sk ps) (h2 : Sk qs) : SbOk (outB ps qs ys) := by
  have hl := h.len h1 h2
  have ho := outB_len (ps := ps) (qs := qs) ys
  refine ⟨by omega, fun p hp => sk_key _ (h.sk h1 h2 _ (outB_mem hp).1), fun p hp => ?_⟩
  obtain ⟨m1, m2⟩ := outB_mem hp
  obtain ⟨a, b, c, d⟩ := bh_dw h1 h2 (h.sk h1 h2 _ m1)
  have := W.sz_nd (bh ps qs p.1)
  rw [m2]
  exact ⟨a, b, by omega⟩
/-! ### dicts of words, the same -/
theorem dqs_map {α : Type} (f : α → O) {n : Nat} : ∀ {l : List α}, (∀ x ∈ l, (f x).dq ≤ n) → O.dqs (l.map f) ≤ n
  | [], _ => Nat.zero_le _
  | a :: r, h => Nat.max_le.mpr ⟨h a List.mem_cons_self, dqs_map f fun x hx => h x (List.mem_cons_of_mem _ hx)⟩
theorem szs_map {α : Type} (f : α → O) {n : Nat} : ∀ {l : List α}, (∀ x ∈ l, (f x).sz ≤ n) → O.szs (l.map f) ≤ l.length * n
  | [], _ => Nat.zero_le _
  | a :: r, h => by
    have h1 := h a List.mem_cons_self
    have h2 := szs_map f (l := r) fun x hx => h x (List.mem_cons_of_mem _ hx)
    show (f a).sz + O.szs (r.map f) ≤ (r.length + 1) * n
    rw [Nat.add_mul]
    omega
theorem sm_sub {H : Hp} {d e : Addr} {ps : List (Str × W)} {m : Nat} (h1 : SubV H d ps) (h2 : SubV H e ps) (hl : ps.length ≤ 8) (hz : ∀ x ∈ ps, x.2.dp ≤ 6 ∧ x.2.nd ≤ 600) : Sm H (m + 1) (.ref d) (.ref e) := by
  obtain ⟨k1, a1, a2, a3⟩ := h1.ex
  obtain ⟨k2, b1, b2, b3⟩ := h2.ex
  rw [List.map_map] at a3 b3
  refine .inl ⟨d, e, k1, k2, _, rfl, rfl, a1, b1, b2.trans a2.symm, a3, b3, ?_, ?_⟩
  · have := dqs_map (fun x : Str × W => x.2.o) (n := 6) (l := ps) fun x hx => by rw [W.dq]; exact (hz x hx).1
    show O.dqs (ps.map fun x => x.2.o) < 7
    omega
  · have := szs_map (fun x : Str × W => x.2.o) (n := 1200) (l := ps) fun x hx => by rw [W.osz]; have := W.sz_nd x.2; have := (hz x hx).2; omega
    show O.szs (ps.map fun x => x.2.o) + 2 * (ps.map _).length ≤ 30000
    rw [List.length_map]
    omega
/-! ### lists of texts compared -/
theorem strs_eqv : ∀ xs : List Str, PyData.eqvAll (xs.map PyData.str) (xs.map PyData.str) = true
  | [] => rfl
  | a :: r => by
    show (PyData.eqv (.str a) (.str a) && PyData.eqvAll (r.map PyData.str) (r.map PyData.str)) = true
    rw [strs_eqv r]
    simp [PyData.eqv]
theorem strs_lay : ∀ {xs : List Str}, (∀ s ∈ xs, SS.contains s = true) → PyData.canLayAll0 (xs.map PyData.str) = true
  | [], _ => rfl
  | a :: r, h => by
    show ((PyData.str a).canLay0 && PyData.canLayAll0 (r.map PyData.str)) = true
    rw [strs_lay fun s hs => h s (List.mem_cons_of_mem _ hs)]
    have : (PyData.str a).canLay0 = true := by
      simp only [PyData.canLay0]
      exact ss_of ss_lay (h a List.mem_cons_self)
    rw [this]
    rfl
theorem strs_depth : ∀ xs : List Str, PyData.depthAll (xs.map PyData.str) = 0
  | [] => rfl
  | a :: r => by
    show max (PyData.str a).depth (PyData.depthAll (r.map PyData.str)) = 0
    rw [strs_depth r]
    simp [PyData.depth]
theorem strs_shaped {xs : List Str} (h : ∀ s ∈ xs, SS.contains s = true) : SeqAt.shaped (.list (xs.map PyData.str)) = true := by
  unfold SeqAt.shaped
  have h1 : (PyData.list (xs.map PyData.str)).canLay0 = true := strs_lay h
  have h2 : (PyData.list (xs.map PyData.str)).depth ≤ 64 := by
    show PyData.depthAll (xs.map PyData.str) + 1 ≤ 64
    rw [strs_depth]
    decide
  rw [h1, decide_eq_true h2]
  rfl
theorem dp_strs {K : PySem.W.Frag} {H : Hp} : ∀ xs : List Str, DpAll K H (sVs xs) (xs.map PyData.str)
  | [] => .nil
  | a :: r => .cons (.str a) (dp_strs r)
section
variable {K : PySem.W.Frag} {H : Hp}
theorem rv_neStrs {a b : Addr} {xs : List Str} (h1 : H a = some (.lst (sVs xs))) (h2 : H b = some (.lst (sVs xs))) (h : ∀ s ∈ xs, SS.contains s = true) : RV (rNeD K) (.ref a) (.ref b) H (.bl false) := fun H1 e Q q =>
  ⟨.list (xs.map PyData.str), .list (xs.map PyData.str), .lst (sq_of (e _ _ h1)) (dp_strs xs), .lst (sq_of (e _ _ h2)) (dp_strs xs), strs_shaped h, strs_shaped h, by
    have : PyData.eqv (.list (xs.map PyData.str)) (.list (xs.map PyData.str)) = true := strs_eqv xs
    rw [this]
    exact q H1 (Ex.refl _)⟩
theorem rv_eqStrs {a b : Addr} {xs : List Str} (h1 : H a = some (.lst (sVs xs))) (h2 : H b = some (.lst (sVs xs))) (h : ∀ s ∈ xs, SS.contains s = true) : RV (rEqD K) (.ref a) (.ref b) H (.bl true) := fun H1 e Q q =>
  ⟨.list (xs.map PyData.str), .list (xs.map PyData.str), .lst (sq_of (e _ _ h1)) (dp_strs xs), .lst (sq_of (e _ _ h2)) (dp_strs xs), strs_shaped h, strs_shaped h, by
    have : PyData.eqv (.list (xs.map PyData.str)) (.list (xs.map PyData.str)) = true := strs_eqv xs
    rw [this]
    exact q H1 (Ex.refl _)⟩
end
theorem SubV.keys {H : Hp} {d : Addr} {ps : List (Str × W)} (h : SubV H d ps) : ∃ kvs, H d = some (.dK kvs) ∧ (kvs.map fun kv => kV kv.1) = sVs (ps.map (·.1)) ∧ kvs.map (·.1) = (ps.map (·.1)).map (fun s => (Sum.inr s : Key)) := by
  obtain ⟨kvs, a1, a2, a3, _⟩ := h.get
  refine ⟨kvs, a1, ?_, by rw [a3, List.map_map]; rfl⟩
  have := congrArg (List.map kV) a3
  rw [List.map_map, List.map_map] at this
  unfold sVs
  rw [List.map_map]
  exact this
section
variable {P : Program} {w : World} {K : PySem.W.Frag} {mg : Str → Option Value} {base : Heap} {f c : Addr} {A : Around} {outer : List Env} {s : Shared} {HX : Hp}
theorem pb9 (T : T24 P w K mg base) (hr : Room 45 (XP P w K mg base f c A outer s HX).A) : ∃ t, PS (XP P w K mg base f c A outer s HX) (stP 8) t ∧
    ∀ (D : Ends) (G : Hp) (c0 c1 c2 c3 c4 c5 c6 c7 : Option V) (dd : Addr) (ps qs : List (Str × W)) (ys : List Str), Sk ps → Sk qs → Ys ps qs ys → SubV G dd (duO ps qs ys) →
      (∀ (d3 : Addr) (J : Hp), Ex G J → G d3 = none → SubV J d3 (outB ps qs ys) → D.nx [c0, c1, c2, c3, c4, c5, c6, c7, some (.ref d3), none] J) →
      t D [c0, c1, c2, c3, c4, c5, c6, c7, some (.ref dd), none] G := by
  refine ⟨_, ps_set (i := 8) sc_pr.nd rfl (by first | exact Or.inl rfl | exact Or.inr rfl) (pe_callTy (call_dictP rfl) (by rfl) T.dict (by decide +kernel) (pa_cons (pe_lock (pe_lc (own := [("_law_name", 9)]) (g := gName 9) (tt := tTest (tOp (rNeD K) (tDGet (tVar 8) (tVar 9)) (tVar 9))) (te := tTup (tCons (tVar 9) (tCons (tDGet (tVar 8) (tVar 9)) tNil))) rfl sc_pr.nd
      (pi_keys (pv 8)) (blkOk_by (N := nPr) (sc := defScope s__law_put_right) (by decide +kernel)) (fun _ _ _ _ _ => pg_name (i := 9) sc_pr.nd rfl (Or.inl rfl)) (fun _ _ _ _ _ => pts_one (pt_cmpR (op_neD hr.units) (pe_dget (hu_of hr) (pv 8) (pv 9) (fun _ _ => rfl)) (pv 9) (nomark _)))
      (fun _ _ _ _ _ => pe_tup (pa_cons (pv 9) (pa_cons (pe_dget (hu_of hr) (pv 8) (pv 9) (fun _ _ => rfl)) pa_nil))))) pa_nil)), ?_⟩
  intro D G c0 c1 c2 c3 c4 c5 c6 c7 dd ps qs ys sk1 sk2 hys hd k
  obtain ⟨kvs, a1, a2, a3, a4, a5, a6⟩ := hd.get
  have hl := hys.len sk1 sk2
  have hkl : kvs.length = ys.length := by rw [a2]; unfold duO; rw [List.length_map]
  have hkeys : kvs.map (·.1) = ys.map fun s => (Sum.inr s : Key) := by
    rw [a3]
    unfold duO
    rw [List.map_map]
    rfl
  have hdn : (duO ps qs ys).map (·.1) = ys := by
    unfold duO
    rw [List.map_map]
    exact List.map_id _
  have word : ∀ s ∈ ys, ∃ v, valV kvs (Sum.inr s : Key) = some v ∧ WV G v (bh ps qs s) := fun s hs => a5 s _ (lk_self (by rw [hdn]; exact hys.nd) (s, bh ps qs s) (List.mem_map.mpr ⟨s, hs, rfl⟩))
  refine ⟨dd, .dK kvs, a1, trivial, fun od => ?_⟩
  have h1 : (upd G dd (.frz od (.dK kvs))) dd = some (.frz od (.dK kvs)) := upd_same
  have tx1 : Tx G (upd G dd (.frz od (.dK kvs))) := Tx.dct a1
  have back : ∀ b o, b ≠ dd → G b = some o → (upd G dd (.frz od (.dK kvs))) b = some o := fun b o n h => by rw [upd_ne n]; exact h
  generalize upd G dd (.frz od (.dK kvs)) = G1 at h1 tx1 back ⊢
  refine ⟨.ref dd, rfl, dd, od, rfl, .inl ⟨kvs, h1, fun Dl hDl => ?_⟩⟩
  have nDl : Dl ≠ dd := fun z => by rw [z, h1] at hDl; cases hDl
  refine lc_it (walk_keys (kvs := kvs)) (fun i J => Ex G1 J ∧ ∃ L : List (Addr × V × Str), J Dl = some (.lst (L.map fun x => V.ref x.1)) ∧ L.length ≤ i ∧ L.map (fun x => x.2.2) = (outB ps qs (ys.take i)).map (·.1) ∧ ∀ x ∈ L, Pw J x (bh ps qs x.2.2)) ⟨Ex.new hDl, [], upd_same, Nat.le_refl _, by simp [outB], fun x hx => nomatch hx⟩ (fun i J _ c => c.1 _ _ h1) ?_ ?_
  · rintro i x J J' hi ⟨eJ, L, hJ, hLi, hL, hP⟩ ⟨rfl, kk, yv, hk, rfl⟩
    have hki : (kvs.map (·.1))[i]? = some kk := by rw [List.getElem?_map, hk]; rfl
    rw [hkeys, List.getElem?_map] at hki
    obtain ⟨y, hy, rfl⟩ := Option.map_eq_some_iff.mp hki
    have hym := List.mem_of_getElem? hy
    have hySK := hys.sk sk1 sk2 y hym
    obtain ⟨v, hv, hwv⟩ := word y hym
    obtain ⟨f1, f2, f3, f4⟩ := bh_dw sk1 sk2 hySK
    have hget : ∀ Z, Ex J' Z → Ev (tDGet (tVar 8) (tVar 9)) ((wipe [c0, c1, c2, c3, c4, c5, c6, c7, some (.ref dd), none] [9]).set 9 (some (.str y))) Z v := fun Z eZ Z1 e1 Q1 q1 => ⟨.ref dd, rfl, .str y, rfl, dd, v, rfl, .inl ⟨kvs, Sum.inr y, .inr ⟨od, e1 _ _ (eZ _ _ (eJ _ _ h1))⟩, rfl, hv.symm⟩, q1 Z1 (Ex.refl _)⟩
    have hwJ : WV J' v (bh ps qs y) := (hwv.tx tx1).ext eJ
    refine ⟨rfl, ?_⟩
    refine et_test (b := !(bh ps qs y).beq (.v y)) (ev_op (x := v) (hget J' (Ex.refl _)) (ev_var (i := 9) rfl) (rv_neW (y := .v y) hwJ rfl f2 (sk_key y hySK).1 (by omega) (by show 0 ≤ 60; decide))) J' (Ex.refl _) _ fun J2 e2 => ?_
    cases hb : (bh ps qs y).beq (.v y) with
    | true =>
      rw [if_neg (by decide)]
      refine ⟨eJ.trans e2, L, e2 _ _ hJ, by omega, ?_, fun x hx => ⟨e2 _ _ (hP x hx).ht, WV.ext e2 (hP x hx).hw⟩⟩
      rw [take_snoc hy, outB_append, if_pos hb, List.append_nil]
      exact hL
    | false =>
      rw [if_pos (by decide)]
      refine ⟨.str y, rfl, hget J2 e2 J2 (Ex.refl _) _ fun J3 e3 => ⟨by show 2 ≤ sizeLine; rw [sizeLine_eq]; omega, fun t nt => ?_⟩⟩
      have x5 : Ex J3 (upd J3 t (.tup [.str y, v])) := Ex.new nt
      have ht5 : (upd J3 t (.tup [.str y, v])) t = some (.tup [.str y, v]) := upd_same
      have e5 := (e2.trans e3).trans x5
      have hw5 := WV.ext e5 hwJ
      generalize upd J3 t (.tup [.str y, v]) = J5 at e5 ht5 hw5 ⊢
      have hJ5 := e5 _ _ hJ
      have tx := Tx.lst (o := .lst ((L.map fun x => V.ref x.1) ++ [.ref t])) hJ5
      have hil := (List.getElem?_eq_some_iff.mp hy).1
      refine ⟨_, hJ5, sz_lt (by rw [List.length_map]; omega), Ex.mut (eJ.trans e5) hDl, L ++ [(t, v, y)], ?_, by simp; omega, ?_, fun x hx => ?_⟩
      · rw [upd_same, List.map_append]
        rfl
      · rw [List.map_append, hL, take_snoc hy, outB_append, if_neg (by rw [hb]; decide), List.map_append]
        rfl
      · rcases List.mem_append.mp hx with hx | hx
        · have hp := hP x hx
          exact ⟨tx _ _ (e5 _ _ hp.ht), (WV.ext e5 hp.hw).tx tx⟩
        · obtain rfl : x = (t, v, y) := by simpa using hx
          exact ⟨tx _ _ ht5, hw5.tx tx⟩
  · rintro J ⟨eJ, L, hJ, hLi, hL, hP⟩
    rw [hkl, List.take_length] at hL
    have h5 := eJ _ _ h1
    refine ⟨h5, ?_⟩
    have tx5 : Tx J (upd J dd (.dK kvs)) := fun a xs h => by
      rw [upd_ne (fun z => by rw [z, h5] at h; cases h)]
      exact h
    have hJ5 : (upd J dd (.dK kvs)) Dl = some (.lst (L.map fun x => V.ref x.1)) := by rw [upd_ne nDl]; exact hJ
    have ex5 : Ex G (upd J dd (.dK kvs)) := fun b o hb => by
      by_cases z : b = dd
      · rw [z] at hb ⊢
        rw [a1] at hb
        cases hb
        exact upd_same
      · rw [upd_ne z]
        exact eJ _ _ (back b o z hb)
    have hP5 : ∀ x ∈ L, Pw (upd J dd (.dK kvs)) x (bh ps qs x.2.2) := fun x hx => ⟨tx5 _ _ (hP x hx).ht, (hP x hx).hw.tx tx5⟩
    generalize upd J dd (.dK kvs) = J5 at tx5 hJ5 ex5 hP5 ⊢
    refine ⟨Dl, L.map (·.1), L.map (fun x => ((Sum.inr x.2.2 : Key), x.2.1)), rfl, by rw [List.map_map]; exact sq_of hJ5, ?_, fun d3 nd3 => ?_⟩
    · clear hL hJ hJ5 hP hLi
      induction L with
      | nil => exact .nil
      | cons a r ih => exact .cons (st_of (hP5 a List.mem_cons_self).ht) (ih fun x hx => hP5 x (List.mem_cons_of_mem _ hx))
    have hnk : (L.map fun x => x.2.2).Nodup := by rw [hL]; exact outB_nodup hys.nd
    have hndL : ((L.map (fun x => ((Sum.inr x.2.2 : Key), x.2.1))).map (·.1)).Nodup := by
      rw [List.map_map]
      have := nodup_inr hnk
      rw [List.map_map] at this
      exact this
    rw [mergeK_nil hndL]
    have x6 : Ex J5 (upd J5 d3 (.dK (L.map (fun x => ((Sum.inr x.2.2 : Key), x.2.1))))) := Ex.new nd3
    refine k d3 _ (ex5.trans x6) (fresh_back ex5 nd3) (SubV.of upd_same ?_ (outB_nodup hys.nd) ?_)
    · rw [List.map_map]
      have := congrArg (List.map fun s => (Sum.inr s : Key)) hL
      rw [List.map_map, List.map_map] at this
      exact this
    · have hO : (outB ps qs ys).map (fun q => q.2.o) = L.map fun x => (bh ps qs x.2.2).o := by
        have h1 := congrArg (List.map fun s => (bh ps qs s).o) hL
        rw [List.map_map, List.map_map] at h1
        rw [show (L.map fun x => (bh ps qs x.2.2).o) = L.map ((fun s => (bh ps qs s).o) ∘ fun x => x.2.2) from rfl, h1]
        refine List.map_congr_left fun x hx => ?_
        show x.2.o = (bh ps qs x.1).o
        rw [(outB_mem hx).2]
      rw [hO, List.map_map]
      generalize upd J5 d3 (.dK (L.map (fun x => ((Sum.inr x.2.2 : Key), x.2.1)))) = J6 at x6
      clear hL hJ hJ5 hP hLi hnk hndL hO
      induction L with
      | nil => exact .nil
      | cons a r ih => exact .cons (WV.ext x6 (hP5 a List.mem_cons_self).hw) (ih fun x hx => hP5 x (List.mem_cons_of_mem _ hx))
end
end K24

set_option Elab.async false
set_option linter.all false
set_option maxRecDepth 100000
set_option maxHeartbeats 4000000
/-! _law_put_right: to its end. -/
namespace K24
open PySem PySem.Spec PyProof.Rows L2 Evl
section
variable {P : Program} {w : World} {K : PySem.W.Frag} {mg : Str → Option Value} {base : Heap} {f c : Addr} {A : Around} {outer : List Env} {s : Shared} {HX : Hp}
theorem outB_dz {ps qs : List (Str × W)} {ys : List Str} (h : Ys ps qs ys) (h1 : Sk ps) (h2 : Sk qs) : ∀ x ∈ outB ps qs ys, x.2.dp ≤ 6 ∧ x.2.nd ≤ 600 := fun x hx => by
  obtain ⟨m1, m2⟩ := outB_mem hx
  obtain ⟨_, _, c, d⟩ := bh_dw h1 h2 (h.sk h1 h2 _ m1)
  rw [m2]
  exact ⟨d, by omega⟩
theorem ev_sameS {σ : L2.St} {G : Hp} {t1 t2 : TE} {d e : Addr} {ps : List (Str × W)} {m : Nat} (h1 : Ev t1 σ G (.ref d)) (h2 : Ev t2 σ G (.ref e)) (a : SubV G d ps) (b : SubV G e ps) (hl : ps.length ≤ 8) (hz : ∀ x ∈ ps, x.2.dp ≤ 6 ∧ x.2.nd ≤ 600) : Ev (tCall (spSx (m + 1)) [] E0 (tCons t1 (tCons t2 tNil))) σ G (.bl true) := fun H1 x Q q =>
  h1 H1 x _ fun H2 x2 => h2 H2 (x.trans x2) _ fun H3 x3 => ⟨.ref d, .ref e, rfl, sm_sub (a.ext ((x.trans x2).trans x3)) (b.ext ((x.trans x2).trans x3)) hl hz, fun H4 x4 => q H4 ((x2.trans x3).trans x4)⟩
theorem pb10 (T : T24 P w K mg base) (hr : Room 45 (XP P w K mg base f c A outer s HX).A) : ∃ t, PS (XP P w K mg base f c A outer s HX) (stP 9) t ∧
    ∀ (D : Ends) (G : Hp) (c0 c1 c2 c3 c4 c5 c6 c9 : Option V) (pd d3 : Addr) (ps qs : List (Str × W)) (ys : List Str), Sk ps → Sk qs → Ys ps qs ys → SubV G pd (outB ps qs ys) → SubV G d3 (outB ps qs ys) →
      (∀ J, Ex G J → D.nx [c0, c1, c2, c3, c4, c5, c6, some (.ref pd), some (.ref d3), c9] J) →
      t D [c0, c1, c2, c3, c4, c5, c6, some (.ref pd), some (.ref d3), c9] G := by
  obtain ⟨fS, dS, GS, bS, kS, mS⟩ := (ok_sameX T 1).ex
  refine ⟨_, ps_if (PW.pt (pw_or (pt_not (pt_val (pe_call GS (hr.mono (by decide)) (by rfl) mS kS bS .nil pass0 (pa_cons (pv 7) (pa_cons (pv 8) pa_nil)))))
      (pw_or1 (pt_cmpR (op_neD hr.units) (pe_callTy (call_listD rfl) (by rfl) T.list PyProof.Rows.boot_list (pa_cons (pv 7) pa_nil)) (pe_callB (call_sortedD rfl) (by rfl) T.sorted (by decide +kernel) (pa_cons (pv 7) pa_nil)) (nomark _))))) (pss_one ps_never) pss_nil, ?_⟩
  intro D G c0 c1 c2 c3 c4 c5 c6 c9 pd d3 ps qs ys sk1 sk2 hys hp h3 k
  have hl := hys.len sk1 sk2
  have hol := outB_len (ps := ps) (qs := qs) ys
  refine s_when (b := false) (et_or (a := false) (b := false) (et_not (a := true) (et_B (ev_sameS (m := 0) (ev_var (i := 7) rfl) (ev_var (i := 8) rfl) hp h3 (by omega) (outB_dz hys sk1 sk2)))) fun _ => et_test fun H1 e1 Q q => ?_) (fun z => nomatch z) fun _ J e => k J e
  obtain ⟨kvs, a1, a2, a3⟩ := (hp.ext e1).keys
  refine ⟨.ref pd, rfl, pd, kvs, rfl, .inl a1, fun l nl => ?_⟩
  rw [a2]
  have x1 : Ex H1 (upd H1 l (.lst (sVs ((outB ps qs ys).map (·.1))))) := Ex.new nl
  have h1 : (upd H1 l (.lst (sVs ((outB ps qs ys).map (·.1))))) l = some (.lst (sVs ((outB ps qs ys).map (·.1)))) := upd_same
  generalize upd H1 l (.lst (sVs ((outB ps qs ys).map (·.1)))) = H2 at x1 h1 ⊢
  refine ⟨.ref pd, rfl, pd, kvs, (outB ps qs ys).map (·.1), rfl, .inl (x1 _ _ a1), a3, by simp; omega, fun zs z hperm hsort nz => ?_⟩
  have hz : zs = (outB ps qs ys).map (·.1) := sorted_eq hperm hsort (pw_sorted ((sortedS_pw hys.srt).sublist (outB_keys ys)))
  subst hz
  have x2 : Ex H2 (upd H2 z (.lst (((outB ps qs ys).map (·.1)).map V.str))) := Ex.new nz
  exact rv_neStrs (H := upd H2 z (.lst (((outB ps qs ys).map (·.1)).map V.str))) (x2 _ _ h1) upd_same (fun s hs => (sk_key s (hys.sk sk1 sk2 s ((outB_keys ys).subset hs))).1) _ (Ex.refl _) _ fun H4 e4 => q H4 ((x1.trans x2).trans e4)
theorem pb11 (T : T24 P w K mg base) (hr : Room 45 (XP P w K mg base f c A outer s HX).A) : ∃ t, PS (XP P w K mg base f c A outer s HX) (stP 10) t ∧
    ∀ (D : Ends) (G0 G : Hp) (c0 c1 c2 c3 c4 c5 c6 c9 : Option V) (pd d3 : Addr) (qs os : List (Str × W)), qs.length ≤ 8 → SubV G pd os → os.length ≤ 8 → d3 ≠ pd → SubV G d3 qs →
      (∀ J, (∀ b o, b ≠ pd → G b = some o → J b = some o) → SubV J d3 qs → D.nx [c0, c1, c2, c3, c4, c5, c6, some (.ref pd), some (.ref d3), c9] J) →
      t D [c0, c1, c2, c3, c4, c5, c6, some (.ref pd), some (.ref d3), c9] G := by
  refine ⟨_, ps_dput (hu_of hr) (pv 7) pe_str pe_str rfl, ?_⟩
  intro D G0 G c0 c1 c2 c3 c4 c5 c6 c9 pd d3 qs os hl hp ho hne h3 k
  obtain ⟨kvs, a1, a2, _⟩ := hp.get
  refine ⟨.ref pd, rfl, pd, _, rfl, DPut.k (k := Sum.inr "X") a1 (sz_lt (by omega)), ?_⟩
  exact k _ (fun b o nb h => by rw [upd_ne nb]; exact h) (h3.tx (Tx.dct a1) fun o h => by rw [upd_ne hne]; exact h)
theorem pb12 (T : T24 P w K mg base) (hr : Room 45 (XP P w K mg base f c A outer s HX).A) : ∃ t, PS (XP P w K mg base f c A outer s HX) (stP 11) t ∧
    ∀ (D : Ends) (G : Hp) (c0 c1 c2 c5 c6 c7 c9 : Option V) (d1 d2 d3 : Addr) (ps qs : List (Str × W)) (ys : List Str), Sk ps → Sk qs → Ys ps qs ys → SubV G d1 ps → SubV G d2 qs → SubV G d3 (outB ps qs ys) →
      (∀ J, Ex G J → D.nx [c0, c1, c2, some (.ref d1), some (.ref d2), c5, c6, c7, some (.ref d3), c9] J) →
      t D [c0, c1, c2, some (.ref d1), some (.ref d2), c5, c6, c7, some (.ref d3), c9] G := by
  obtain ⟨fS, dS, GS, bS, kS, mS⟩ := (ok_sameX T 1).ex
  obtain ⟨fB, dB, GB, bB, kB, mB⟩ := (ok_behind T).ex
  refine ⟨_, ps_if (pt_not (pt_val (pe_call GS (hr.mono (by decide)) (by rfl) mS kS bS .nil pass0 (pa_cons (pe_callS (sp := spBh K) GB (hr.mono (by decide)) (by rfl) mB kB bB (fun σ => passAt L2.takes0 σ) (pa_cons (pv 3) (pa_cons (pv 4) pa_nil))) (pa_cons (pv 8) pa_nil))))) (pss_one ps_never) pss_nil, ?_⟩
  intro D G c0 c1 c2 c5 c6 c7 c9 d1 d2 d3 ps qs ys sk1 sk2 hys h1 h2 h3 k
  have hl := hys.len sk1 sk2
  have hol := outB_len (ps := ps) (qs := qs) ys
  have l1 := sk1.len
  have l2 := sk2.len
  refine ⟨.ref d1, rfl, .ref d2, rfl, .ref d1, .ref d2, rfl, .inr ⟨d1, ps, rfl, h1, sk1.ok, sk1.d12, .inr ⟨d2, qs, rfl, h2, sk2.ok, sk2.d12, by omega, fun pd J zs npd e1 hn2 hm2 hs2 hv2 => ?_⟩⟩⟩
  obtain rfl := hys.eq ⟨hn2, hm2, hs2⟩
  refine ⟨.ref d3, rfl, .ref pd, .ref d3, rfl, sm_sub (m := 0) hv2 (h3.ext e1) (by omega) (outB_dz hys sk1 sk2), fun J2 e2 => ⟨true, rfl, ?_⟩⟩
  exact k J2 (e1.trans e2)
theorem pb13 (T : T24 P w K mg base) (hr : Room 45 (XP P w K mg base f c A outer s HX).A) : ∃ t, PS (XP P w K mg base f c A outer s HX) (stP 12) t ∧
    ∀ (D : Ends) (G : Hp) (c0 c1 c5 c6 c7 c9 : Option V) (u : V) (z : W) (d1 d2 d3 : Addr) (ps qs : List (Str × W)) (ys : List Str), WV G u z → Bw z → Sk ps → Sk qs → Ys ps qs ys → SubV G d1 ps → SubV G d2 qs → SubV G d3 (outB ps qs ys) →
      (∀ J, Ex G J → D.rt (.bl true) J) →
      t D [c0, c1, some u, some (.ref d1), some (.ref d2), c5, c6, c7, some (.ref d3), c9] G := by
  obtain ⟨fS, dS, GS, bS, kS, mS⟩ := (ok_same T 20).ex
  obtain ⟨fP, dP, GP, bP, kP, mP⟩ := (ok_put T).ex
  refine ⟨_, ps_ret (pe_call GS (hr.mono (by decide)) (by rfl) mS kS bS .nil pass0 (pa_cons (pe_callS (sp := spPut K) GP (hr.mono (by decide)) (by rfl) mP kP bP (fun σ => passAt L2.takes0 σ) (pa_cons (pe_callS (sp := spPut K) GP (hr.mono (by decide)) (by rfl) mP kP bP (fun σ => passAt L2.takes0 σ) (pa_cons (pv 2) (pa_cons (pv 3) pa_nil))) (pa_cons (pv 4) pa_nil)))
    (pa_cons (pe_callS (sp := spPut K) GP (hr.mono (by decide)) (by rfl) mP kP bP (fun σ => passAt L2.takes0 σ) (pa_cons (pv 2) (pa_cons (pv 8) pa_nil))) pa_nil))), ?_⟩
  intro D G c0 c1 c5 c6 c7 c9 u z d1 d2 d3 ps qs ys hu hz sk1 sk2 hys h1 h2 h3 k
  obtain ⟨f1, f2, f3, f4⟩ := hz.sub sk1
  have b2 : ((z.sub (lk ps)).sub (lk qs)).nd ≤ 95 * 13 * 13 := by
    have h1 := W.nd_sub (f := lk qs) (m := 13) (by decide) (fun s z e => by have := (sk2.lk e).nd; rw [nN2] at this; exact this) (z.sub (lk ps))
    have h2 : (z.sub (lk ps)).nd * 13 ≤ 95 * 13 * 13 := Nat.mul_le_mul_right _ f3
    omega
  have b3 : ((z.sub (lk ps)).sub (lk qs)).dp ≤ 13 := by
    have := W.dp_sub (f := lk qs) (m := 3) (fun s z e => by have := (sk2.lk e).dp; omega) (z.sub (lk ps))
    omega
  have p1 : EvP (tPut K (fun _ => E0) (tVar 2) (tVar 3)) [c0, c1, some u, some (.ref d1), some (.ref d2), c5, c6, c7, some (.ref d3), c9] G (fun r J => WV J r (z.sub (lk ps))) :=
    evp_put (z := z) (EvP.of (ev_var (i := 2) rfl) fun J e => hz.dz.lw (OV.ext e hu) (strip_o z)) (ev_var (i := 3) rfl) h1 sk1.ok
  have p1' : EvP (tPut K (fun _ => E0) (tVar 2) (tVar 3)) [c0, c1, some u, some (.ref d1), some (.ref d2), c5, c6, c7, some (.ref d3), c9] G (fun r J => Lw J r (z.sub (lk ps))) := fun H1 e Q q => p1 H1 e Q fun v H2 e2 hv => q v H2 e2 (lw_of hv f1 f2 (by omega) (by omega))
  have p2 := evp_put (K := K) (E := fun _ => E0) p1' (ev_var (i := 4) (v := .ref d2) rfl) h2 sk2.ok
  have p3 : EvP (tPut K (fun _ => E0) (tVar 2) (tVar 8)) [c0, c1, some u, some (.ref d1), some (.ref d2), c5, c6, c7, some (.ref d3), c9] G (fun r J => WV J r (z.sub (lk (outB ps qs ys)))) :=
    evp_put (z := z) (EvP.of (ev_var (i := 2) rfl) fun J e => hz.dz.lw (OV.ext e hu) (strip_o z)) (ev_var (i := 8) rfl) h3 (outB_ok hys sk1 sk2)
  rw [sub_outB hys.nd hys.mem] at p3
  exact s_ret (ev_sameW p2 p3 (by omega) (by decide) (by omega)) k
def spPr : Sp := fun vs H Q _ => ∃ (p q va : Addr) (n : Int) (xs : List Str), vs = [.ref p, .ref va] ∧ Spr H p q n ∧ n + 2000 ≤ 90000 ∧ Vrs H p q va xs ∧ ∀ (G : Hp) (n' : Int), Spr G p q n' → n' ≤ n + 1000 → But p q H G → Q (.bl true) G
theorem ok_put_right (T : T24 P w K mg base) {fd : FuncData} (F : FnP K "_law_put_right" s__law_put_right (He.ga K "_law_put_right") fd) :
    FnG P w K mg base 46 (He.ga K "_law_put_right") fd ["_law_stream", "_law_variables"] spPr := by
  refine FnG.of F sc_pr (fun vs H Q E h => ?_) (fun c _ A outer s H vs Q hg hr h => ?_)
  · obtain ⟨p, q, va, n, xs, rfl, _⟩ := h
    rfl
  obtain ⟨p, q, va, n, xs, rfl, S, hn, hv, kf⟩ := h
  obtain ⟨t1, p1, k1⟩ := pb1 (c := c) (outer := outer) (s := s) (HX := H) T hr
  obtain ⟨t2, p2, k2⟩ := pb2 (c := c) (outer := outer) (s := s) (HX := H) T hr
  obtain ⟨t3, p3, k3⟩ := pb3 (c := c) (outer := outer) (s := s) (HX := H) T hr
  obtain ⟨t4, p4, k4⟩ := pb4 (c := c) (outer := outer) (s := s) (HX := H) T hr
  obtain ⟨t5, p5, k5⟩ := pb5 (c := c) (outer := outer) (s := s) (HX := H) T hr hg
  obtain ⟨t6, p6, k6⟩ := pb6 (c := c) (outer := outer) (s := s) (HX := H) T hr hg
  obtain ⟨t7, p7, k7⟩ := pb7 (c := c) (outer := outer) (s := s) (HX := H) T hr
  obtain ⟨t8, p8, k8⟩ := pb8 (c := c) (outer := outer) (s := s) (HX := H) T hr
  obtain ⟨t9, p9, k9⟩ := pb9 (c := c) (outer := outer) (s := s) (HX := H) T hr
  obtain ⟨t10, p10, k10⟩ := pb10 (c := c) (outer := outer) (s := s) (HX := H) T hr
  obtain ⟨t11, p11, k11⟩ := pb11 (c := c) (outer := outer) (s := s) (HX := H) T hr
  obtain ⟨t12, p12, k12⟩ := pb12 (c := c) (outer := outer) (s := s) (HX := H) T hr
  obtain ⟨t13, p13, k13⟩ := pb13 (c := c) (outer := outer) (s := s) (HX := H) T hr
  refine ⟨tSeq t1 (tSeq t2 (tSeq t3 (tSeq t4 (tSeq t5 (tSeq t6 (tSeq t7 (tSeq t8 (tSeq t9 (tSeq t10 (tSeq t11 (tSeq t12 t13))))))))))),
    PSs.nox (pss_cons p1 (pss_cons p2 (pss_cons p3 (pss_cons p4 (pss_cons p5 (pss_cons p6 (pss_cons p7 (pss_cons p8 (pss_cons p9 (pss_cons p10 (pss_cons p11 (pss_cons p12 (pss_one p13))))))))))))), ?_⟩
  refine k1 _ H p q va n xs S (by omega) hv fun u1 G1 n1 y S1 hn1 B1 hu1 ay => ?_
  refine k2 _ G1 _ _ _ _ _ _ _ p q va n1 xs u1 y S1 (by omega) (hv.but B1) hu1 ay fun u G2 n2 z S2 hn2 B2 hu bz => ?_
  have B02 := B1.trans B2
  refine k3 _ G2 _ _ _ _ _ _ _ _ p q va n2 xs S2 (by omega) (hv.but B02) fun d1 d2 G3 n3 ps qs S3 hn3 B3 hd1 hd2 sk1 sk2 => ?_
  have hu3 := hu.tx (S2.tx B3)
  refine k4 _ G3 _ _ _ _ _ _ _ _ p q d1 n3 ps S3 (by omega) hd1 sk1 fun dp G4 n4 ps' S4 hn4 B4 hdp hperm => ?_
  have hu4 := hu3.tx (S3.tx B4)
  refine k5 _ G4 _ _ _ _ _ _ _ _ _ dp ps' hdp (sk1.perm hperm) fun G5 e5 => ?_
  have S5 := S4.ext e5
  have B35 := B4.trans (But.of e5)
  have hd1_5 := hd1.but S3 B35
  have hd2_5 := hd2.but S3 B35
  refine k6 _ G5 _ _ _ _ _ p q d1 dp n4 ps ps' u z S5 (by omega) (WV.ext e5 hu4) bz hd1_5 sk1 (hdp.ext e5) hperm fun G6 n6 S6 hn6 B6 => ?_
  have hd1_6 := hd1_5.but S5 B6
  have hd2_6 := hd2_5.but S5 B6
  have hdp_6 := (hdp.ext e5).but S5 B6
  have hu6 := (WV.ext e5 hu4).tx (S5.tx B6)
  refine k7 _ G6 _ _ _ _ _ _ _ p q dp d2 n6 ps ps' qs S6 (by omega) hd2_6 sk2 hdp_6 hperm sk1 fun pd G7 n7 ys S7 hn7 B7 npd hys hpd => ?_
  have hd1_7 := hd1_6.but S6 B7
  have hd2_7 := hd2_6.but S6 B7
  have hu7 := hu6.tx (S6.tx B7)
  refine k8 _ G7 _ _ _ _ _ _ _ none d1 d2 ps qs ys hd1_7 sk1 hd2_7 sk2 hys fun dd G8 e8 ndd hdd => ?_
  refine k9 _ G8 _ _ _ _ _ _ _ _ dd ps qs ys sk1 sk2 hys hdd fun d3 G9 e9 nd3 hd3 => ?_
  have e79 := e8.trans e9
  have hl := hys.len sk1 sk2
  have hol := outB_len (ps := ps) (qs := qs) ys
  refine k10 _ G9 _ _ _ _ _ _ _ _ pd d3 ps qs ys sk1 sk2 hys (hpd.ext e79) hd3 fun G10 e10 => ?_
  have e7_10 := e79.trans e10
  have hpd10 := hpd.ext e7_10
  have hne : d3 ≠ pd := fun z => by
    obtain ⟨_, a, _⟩ := hpd.get
    rw [z, e8 _ _ a] at nd3
    cases nd3
  refine k11 _ G10 G10 _ _ _ _ _ _ _ _ pd d3 (outB ps qs ys) (outB ps qs ys) (by omega) hpd10 (by omega) hne (hd3.ext e10) fun G11 B11 hd3_11 => ?_
  -- all that stood at G6 stands
  have G6_11 : But p q G6 G11 := fun b o n1 n2 h => B11 b o (fun z => by rw [z, npd] at h; cases h) (e7_10 _ _ (B7 b o n1 n2 h))
  have S11 : Spr G11 p q n7 := by
    obtain ⟨_, a, _⟩ := hpd.get
    obtain ⟨xs', ys', Sp, Sq⟩ := S7.lst
    exact (S7.ext e7_10).keep (fun o h => B11 _ _ (fun z => by rw [← z, Sp] at a; cases a) h) (fun o h => B11 _ _ (fun z => by rw [← z, Sq] at a; cases a) h)
  have hd1_11 := hd1_6.but S6 G6_11
  have hd2_11 := hd2_6.but S6 G6_11
  have hu11 := hu6.tx (S6.tx G6_11)
  refine k12 _ G11 _ _ _ _ _ _ _ d1 d2 d3 ps qs ys sk1 sk2 hys hd1_11 hd2_11 hd3_11 fun G12 e12 => ?_
  refine k13 _ G12 _ _ _ _ _ _ u z d1 d2 d3 ps qs ys (WV.ext e12 hu11) bz sk1 sk2 hys (hd1_11.ext e12) (hd2_11.ext e12) (hd3_11.ext e12) fun G13 e13 => ?_
  have e := e12.trans e13
  exact kf G13 n7 (S11.ext e) (by omega) ((((((B02.trans B3).trans B35).trans B6).trans G6_11)).trans (But.of e))
end
end K24

set_option Elab.async false
set_option linter.all false
set_option maxRecDepth 100000
set_option maxHeartbeats 4000000
/-! Parts of words, words with a part put; variables. -/
namespace K24
open PySem PySem.Spec PyProof.Rows L2 Evl
structure Rw (N D : Nat) (z : W) : Prop where
  fit : z.o.fitW = true
  ss : z.o.ss = true
  nd : z.nd ≤ N
  dp : z.dp ≤ D
theorem fits_kid : ∀ {as : List W} {i : Nat} {x : W}, O.fits (W.os as) = true → as[i]? = some x → x.o.fit = true
  | [], _, _, _, e => by simp at e
  | a :: as, 0, x, h, e => by
    have h : (a.o.fit && O.fits (W.os as)) = true := h
    obtain rfl : a = x := by simpa using e
    exact (Bool.and_eq_true_iff.mp h).1
  | a :: as, i + 1, x, h, e => by
    have h : (a.o.fit && O.fits (W.os as)) = true := h
    exact fits_kid (Bool.and_eq_true_iff.mp h).2 (by simpa using e)
theorem sss_kid : ∀ {as : List W} {i : Nat} {x : W}, O.sss (W.os as) = true → as[i]? = some x → x.o.ss = true
  | [], _, _, _, e => by simp at e
  | a :: as, 0, x, h, e => by
    have h : (a.o.ss && O.sss (W.os as)) = true := h
    obtain rfl : a = x := by simpa using e
    exact (Bool.and_eq_true_iff.mp h).1
  | a :: as, i + 1, x, h, e => by
    have h : (a.o.ss && O.sss (W.os as)) = true := h
    exact sss_kid (Bool.and_eq_true_iff.mp h).2 (by simpa using e)
theorem nds_kid : ∀ {as : List W} {i : Nat} {x : W}, as[i]? = some x → x.nd ≤ W.nds as
  | [], _, _, e => by simp at e
  | a :: as, 0, x, e => by
    obtain rfl : a = x := by simpa using e
    exact Nat.le_add_right _ _
  | a :: as, i + 1, x, e => Nat.le_trans (nds_kid (as := as) (i := i) (by simpa using e)) (Nat.le_add_left _ _)
theorem fitW_kids {s : Str} {as : List W} (h : (W.n s as).o.fitW = true) : O.fits (W.os as) = true := by
  unfold O.fitW at h
  rw [Bool.or_eq_true] at h
  rcases h with h | h
  · have h : (headB (.str s) (W.os as).length && O.fits (W.os as)) = true := h
    exact (Bool.and_eq_true_iff.mp h).2
  · have h : ((eqL (.str s :: W.os as) || headB (.str s) (W.os as).length) && O.fits (W.os as)) = true := h
    exact (Bool.and_eq_true_iff.mp h).2
theorem Rw.kid {N D : Nat} {s : Str} {as : List W} {i : Nat} {x : W} (h : Rw N D (.n s as)) (e : as[i]? = some x) : Rw N D x := by
  refine ⟨?_, ?_, ?_, ?_⟩
  · unfold O.fitW
    rw [fits_kid (fitW_kids h.fit) e]
    rfl
  · have h1 : (SS.contains s && O.sss (W.os as)) = true := h.ss
    exact sss_kid (Bool.and_eq_true_iff.mp h1).2 e
  · have h1 : W.nds as + 1 ≤ N := h.nd
    have := nds_kid e
    omega
  · have h1 : W.dps as + 1 ≤ D := h.dp
    have := W.lt_dp e
    omega
theorem Rw.at {N D : Nat} : ∀ {pl : List Nat} {z y : W}, Rw N D z → z.at pl = some y → Rw N D y
  | [], z, y, h, e => by
    have e : some z = some y := by cases z <;> exact e
    obtain rfl := Option.some.inj e
    exact h
  | i :: p, .v s, y, h, e => by cases e
  | i :: p, .n s as, y, h, e => by
    have e : (match as[i]? with | some x => x.at p | none => none) = some y := e
    cases hx : as[i]? with
    | none => rw [hx] at e; cases e
    | some x =>
      rw [hx] at e
      exact Rw.at (h.kid hx) e
theorem fits_set : ∀ {as : List W} {i : Nat} {x : W}, O.fits (W.os as) = true → x.o.fit = true → O.fits (W.os (as.set i x)) = true
  | [], _, _, h, _ => h
  | a :: as, 0, x, h, k => by
    have h : (a.o.fit && O.fits (W.os as)) = true := h
    show (x.o.fit && O.fits (W.os as)) = true
    rw [k, (Bool.and_eq_true_iff.mp h).2]
    rfl
  | a :: as, i + 1, x, h, k => by
    have h : (a.o.fit && O.fits (W.os as)) = true := h
    show (a.o.fit && O.fits (W.os (as.set i x))) = true
    rw [(Bool.and_eq_true_iff.mp h).1, fits_set (Bool.and_eq_true_iff.mp h).2 k]
    rfl
theorem sss_set : ∀ {as : List W} {i : Nat} {x : W}, O.sss (W.os as) = true → x.o.ss = true → O.sss (W.os (as.set i x)) = true
  | [], _, _, h, _ => h
  | a :: as, 0, x, h, k => by
    have h : (a.o.ss && O.sss (W.os as)) = true := h
    show (x.o.ss && O.sss (W.os as)) = true
    rw [k, (Bool.and_eq_true_iff.mp h).2]
    rfl
  | a :: as, i + 1, x, h, k => by
    have h : (a.o.ss && O.sss (W.os as)) = true := h
    show (a.o.ss && O.sss (W.os (as.set i x))) = true
    rw [(Bool.and_eq_true_iff.mp h).1, sss_set (Bool.and_eq_true_iff.mp h).2 k]
    rfl
theorem nds_set : ∀ {as : List W} {i : Nat} {x y : W}, as[i]? = some x → W.nds (as.set i y) + x.nd = W.nds as + y.nd
  | [], _, _, _, e => by simp at e
  | a :: as, 0, x, y, e => by
    obtain rfl : a = x := by simpa using e
    show (y.nd + W.nds as) + a.nd = (a.nd + W.nds as) + y.nd
    omega
  | a :: as, i + 1, x, y, e => by
    have := nds_set (as := as) (i := i) (y := y) (by simpa using e)
    show (a.nd + W.nds (as.set i y)) + x.nd = (a.nd + W.nds as) + y.nd
    omega
theorem dps_set : ∀ {as : List W} {i : Nat} {y : W}, W.dps (as.set i y) ≤ max (W.dps as) y.dp
  | [], _, _ => Nat.zero_le _
  | a :: as, 0, y => by
    show max y.dp (W.dps as) ≤ max (max a.dp (W.dps as)) y.dp
    omega
  | a :: as, i + 1, y => by
    have := dps_set (as := as) (i := i) (y := y)
    show max a.dp (W.dps (as.set i y)) ≤ max (max a.dp (W.dps as)) y.dp
    omega
theorem os_set_len (as : List W) (i : Nat) (x : W) : (W.os (as.set i x)).length = (W.os as).length := by
  rw [W.os_map, W.os_map, List.length_map, List.length_map, List.length_set]
/-- what is known of a word with a part put -/
theorem put_all {y : W} (fy : y.o.fit = true) (sy : y.o.ss = true) : ∀ (pl : List Nat) (z : W), z.o.ss = true → (z.at pl).isSome = true → (z.put pl y).o.ss = true ∧ (z.put pl y).nd ≤ z.nd + y.nd ∧ (z.put pl y).dp ≤ z.dp + y.dp ∧ (z.o.fit = true → (z.put pl y).o.fit = true) ∧ (z.o.fitW = true → (z.put pl y).o.fitW = true)
  | [], z, hs, _ => by
    have e : z.put [] y = y := by cases z <;> rfl
    rw [e]
    exact ⟨sy, Nat.le_add_left _ _, Nat.le_add_left _ _, fun _ => fy, fun _ => by unfold O.fitW; rw [fy]; rfl⟩
  | i :: p, .v s, hs, h => by cases h
  | i :: p, .n s as, hs, h => by
    have h : (match as[i]? with | some x => x.at p | none => none).isSome = true := h
    have hs : (SS.contains s && O.sss (W.os as)) = true := hs
    cases hx : as[i]? with
    | none => rw [hx] at h; cases h
    | some x =>
      rw [hx] at h
      have e : (W.n s as).put (i :: p) y = .n s (as.set i (x.put p y)) := by
        show (match as[i]? with | some x => W.n s (as.set i (x.put p y)) | none => .n s as) = _
        rw [hx]
      obtain ⟨a, b, c, d, _⟩ := put_all fy sy p x (sss_kid (Bool.and_eq_true_iff.mp hs).2 hx) h
      rw [e]
      have hn := nds_set (y := x.put p y) hx
      have hd := dps_set (as := as) (i := i) (y := x.put p y)
      have hk := W.lt_dp hx
      refine ⟨?_, ?_, ?_, fun k => ?_, fun k => ?_⟩
      · show (SS.contains s && O.sss (W.os (as.set i (x.put p y)))) = true
        rw [(Bool.and_eq_true_iff.mp hs).1, sss_set (Bool.and_eq_true_iff.mp hs).2 a]
        rfl
      · show W.nds (as.set i (x.put p y)) + 1 ≤ W.nds as + 1 + y.nd
        omega
      · show W.dps (as.set i (x.put p y)) + 1 ≤ W.dps as + 1 + y.dp
        omega
      · have k : (headB (.str s) (W.os as).length && O.fits (W.os as)) = true := k
        have k2 := (Bool.and_eq_true_iff.mp k).2
        show (headB (.str s) (W.os (as.set i (x.put p y))).length && O.fits (W.os (as.set i (x.put p y)))) = true
        rw [os_set_len, (Bool.and_eq_true_iff.mp k).1, fits_set k2 (d (fits_kid k2 hx))]
        rfl
      · have k2 := fitW_kids k
        have k3 := fits_set (i := i) k2 (d (fits_kid k2 hx))
        unfold O.fitW at k ⊢
        rw [Bool.or_eq_true] at k ⊢
        rcases k with k | k
        · have k : (headB (.str s) (W.os as).length && O.fits (W.os as)) = true := k
          refine .inl ?_
          show (headB (.str s) (W.os (as.set i (x.put p y))).length && O.fits (W.os (as.set i (x.put p y)))) = true
          rw [os_set_len, (Bool.and_eq_true_iff.mp k).1, k3]
          rfl
        · have k : ((eqL (.str s :: W.os as) || headB (.str s) (W.os as).length) && O.fits (W.os as)) = true := k
          refine .inr ?_
          show ((eqL (.str s :: W.os (as.set i (x.put p y))) || headB (.str s) (W.os (as.set i (x.put p y))).length) && O.fits (W.os (as.set i (x.put p y)))) = true
          rw [os_set_len, eqL_len s (os_set_len as i (x.put p y)), (Bool.and_eq_true_iff.mp k).1, k3]
          rfl
theorem Rw.put {N D : Nat} {z y : W} {pl : List Nat} (h : Rw N D z) (hy : Dw 2 y) (k : (z.at pl).isSome = true) : Rw (N + 13) (D + 3) (z.put pl y) := by
  obtain ⟨a, b, c, _, e⟩ := put_all hy.fit hy.ss pl z h.ss k
  have h1 := hy.nd
  have h2 := hy.dp
  have h3 := h.nd
  have h4 := h.dp
  rw [nN2] at h1
  exact ⟨e h.fit, a, by omega, by omega⟩
theorem Rw.le {N D M E : Nat} {z : W} (h : Rw N D z) (h1 : N ≤ M) (h2 : D ≤ E) : Rw M E z := ⟨h.fit, h.ss, Nat.le_trans h.nd h1, Nat.le_trans h.dp h2⟩
theorem Rw.lw {N D : Nat} {z : W} {G : Hp} {v : V} (h : Rw N D z) (hv : WV G v z) (h1 : N ≤ 4000) (h2 : D < 12) : Lw G v z := lw_of hv h.fit h.ss (Nat.le_trans h.nd h1) (Nat.lt_of_le_of_lt h.dp h2)
theorem Rw.sub {N D : Nat} {z : W} (h : Rw N D z) {ps : List (Str × W)} (k : Sk ps) : Rw (N * 13) (D + 3) (z.sub (lk ps)) := by
  refine ⟨W.fitW_sub (fun s z e => (k.lk e).fit) z h.fit, W.ss_sub (fun s z e => (k.lk e).ss) z h.ss, ?_, ?_⟩
  · have h1 := W.nd_sub (f := lk ps) (m := 13) (by decide) (fun s z e => by have := (k.lk e).nd; rw [nN2] at this; exact this) z
    exact Nat.le_trans h1 (Nat.mul_le_mul_right _ h.nd)
  · have h1 := W.dp_sub (f := lk ps) (m := 3) (fun s z e => by have := (k.lk e).dp; omega) z
    have := h.dp
    omega
theorem Dw.rw {z : W} (h : Dw 3 z) : Rw 40 4 z := ⟨by unfold O.fitW; rw [h.fit]; rfl, h.ss, by have := h.nd; rw [nN3] at this; exact this, h.dp⟩
theorem Dw.rwEq {x y : W} (hx : Dw 3 x) (hy : Dw 2 y) : Rw 54 5 (.n "=" [x, y]) := by
  have h1 := hx.nd
  have h2 := hy.nd
  have h3 := hx.dp
  have h4 := hy.dp
  rw [nN3] at h1
  rw [nN2] at h2
  refine ⟨?_, ?_, ?_, ?_⟩
  · unfold O.fitW
    have : (W.n "=" [x, y]).o.fitA = true := by
      show ((eqL [.str "=", x.o, y.o] || headB (.str "=") 2) && (x.o.fit && (y.o.fit && true))) = true
      rw [hx.fit, hy.fit]
      rfl
    rw [this, Bool.or_true]
  · show (SS.contains "=" && (x.o.ss && (y.o.ss && true))) = true
    rw [hx.ss, hy.ss]
    decide +kernel
  · show x.nd + (y.nd + 0) + 1 ≤ 54
    omega
  · show max x.dp (max y.dp 0) + 1 ≤ 5
    omega
/-! ### variables -/
mutual
theorem vars_ss : ∀ z : W, z.o.ss = true → ∀ s ∈ z.vars, SS.contains s = true
  | .v t, h, s, hs => by
    obtain rfl : s = t := by simpa [W.vars] using hs
    exact h
  | .n t as, h, s, hs => by
    have h : (SS.contains t && O.sss (W.os as)) = true := h
    have hs : s ∈ W.varsL [] as := hs
    rw [mem_varsL as []] at hs
    rcases hs with hs | ⟨a, ha, hs⟩
    · cases hs
    · exact varsL_ss as (Bool.and_eq_true_iff.mp h).2 a ha s hs
theorem varsL_ss : ∀ zs : List W, O.sss (W.os zs) = true → ∀ a ∈ zs, ∀ s ∈ a.vars, SS.contains s = true
  | [], _, a, ha, _, _ => nomatch ha
  | z :: zs, h, a, ha, s, hs => by
    have h : (z.o.ss && O.sss (W.os zs)) = true := h
    rcases List.mem_cons.mp ha with e | ha
    · rw [e] at hs
      exact vars_ss z (Bool.and_eq_true_iff.mp h).1 s hs
    · exact varsL_ss zs (Bool.and_eq_true_iff.mp h).2 a ha s hs
end
mutual
theorem vars_nodup : ∀ z : W, z.vars.Nodup
  | .v t => by show [t].Nodup; simp
  | .n t as => varsL_nodup as [] List.nodup_nil
theorem varsL_nodup : ∀ (zs : List W) (acc : List Str), acc.Nodup → (W.varsL acc zs).Nodup
  | [], acc, h => h
  | z :: zs, acc, h => by
    refine varsL_nodup zs _ ?_
    rw [List.nodup_append]
    refine ⟨h, (vars_nodup z).sublist List.filter_sublist, fun a ha b hb e => ?_⟩
    subst e
    have := (List.mem_filter.mp hb).2
    simp [ha] at this
end
theorem varsL_one (z : W) : W.varsL [] [z] = z.vars := by
  show [] ++ z.vars.filter (fun s => !([] : List Str).contains s) = z.vars
  rw [List.nil_append]
  exact List.filter_eq_self.mpr fun _ _ => rfl
mutual
theorem um_ks : ∀ (p z : W) (pl : List Nat) (F : FD) (s : Str), s ∈ (um p z pl F).2.map (·.1) → s ∈ F.map (·.1) ∨ s ∈ p.vars
  | .v t, z, pl, F, s, h => by
    unfold um at h
    cases hg : fdGet F t with
    | none =>
      rw [hg] at h
      rw [List.map_append, List.mem_append] at h
      rcases h with h | h
      · exact .inl h
      · exact .inr (by simpa [W.vars] using h)
    | some x =>
      rw [hg] at h
      dsimp only at h
      split at h <;> exact .inl h
  | .n _ _, .v _, pl, F, s, h => .inl h
  | .n t as, .n u bs, pl, F, s, h => by
    unfold um at h
    split at h
    · rcases ums_ks as bs 0 pl F s h with h | ⟨a, ha, hs⟩
      · exact .inl h
      · exact .inr ((mem_varsL as []).mpr (.inr ⟨a, ha, hs⟩))
    · exact .inl h
theorem ums_ks : ∀ (as bs : List W) (i : Nat) (pl : List Nat) (F : FD) (s : Str), s ∈ (ums as bs i pl F).2.map (·.1) → s ∈ F.map (·.1) ∨ ∃ a ∈ as, s ∈ a.vars
  | [], _, _, _, F, s, h => by unfold ums at h; exact .inl h
  | _ :: _, [], _, _, F, s, h => by unfold ums at h; exact .inl h
  | a :: as, b :: bs, i, pl, F, s, h => by
    unfold ums at h
    cases hu : um a b (pl ++ [i]) F with
    | mk o F1 =>
      rw [hu] at h
      have h1 := um_ks a b (pl ++ [i]) F s
      rw [hu] at h1
      cases o with
      | some f =>
        rcases h1 h with h | h
        · exact .inl h
        · exact .inr ⟨a, List.mem_cons_self, h⟩
      | none =>
        rcases ums_ks as bs (i + 1) pl F1 s h with h | ⟨c, hc, hs⟩
        · rcases h1 h with h | h
          · exact .inl h
          · exact .inr ⟨a, List.mem_cons_self, h⟩
        · exact .inr ⟨c, List.mem_cons_of_mem _ hc, hs⟩
end
theorem um_few {p z : W} (h : p.o.ss = true) : (um p z [] []).2.length < 64 := by
  have h1 := nodup_le (m := SS) (um_nd p z [] [] List.nodup_nil) fun s hs => by
    rcases um_ks p z [] [] s hs with k | k
    · cases k
    · exact List.contains_iff_mem.mp (vars_ss p h s k)
  rw [List.length_map] at h1
  have h2 : SS.length = 27 := rfl
  omega
end K24

set_option Elab.async false
set_option linter.all false
set_option maxRecDepth 100000
set_option maxHeartbeats 4000000
/-! _law_match_right: the draws. -/
namespace K24
open PySem PySem.Spec PyProof.Rows L2 Evl
abbrev nMr : List Str := ["_law_stream", "_law_variables", "_law_pattern", "_law_kind", "_law_word", "_law_place", "_law_part", "_law_due", "_law_handed", "_law_was", "_law_found", "_law_names"]
theorem sc_mr : FnScope nMr ["_law_stream", "_law_variables"] (defScope s__law_match_right) := ⟨rfl, rfl, rfl, by decide +kernel, rfl, by decide +kernel, by decide +kernel⟩
abbrev XM (P : Program) (w : World) (K : PySem.W.Frag) (mg : Str → Option Value) (base : Heap) (f c : Addr) (A : Around) (outer : List Env) (s : Shared) (H : Hp) : Cx := (cxOf CX0 P w K mg base nMr "_law_match_right" (defScope s__law_match_right) f (.ref c) A outer s H E0).nox
def stM (i : Nat) : Stmt := (defBody s__law_match_right).getD i (.Pass ⟨0, 0, 0, 0⟩)
/-- what the draws hand on -/
structure Mk (G : Hp) (u v r v1 v2 : V) (lh : Addr) (p z : W) (o1 o2 : O) : Prop where
  hu : WV G u p
  hv : WV G v z
  rp : Rw 54 5 p
  rz : Rw 715 11 z
  due : OV G r (Ft.ov (um p z [] []).1)
  hh : G lh = some (.lst [v1, v2])
  h1 : OV G v1 o1
  s1 : o1.strip = p.o
  h2 : OV G v2 o2
  s2 : o2.strip = z.o
theorem Mk.ext {G J : Hp} {u v r v1 v2 : V} {lh : Addr} {p z : W} {o1 o2 : O} (h : Mk G u v r v1 v2 lh p z o1 o2) (e : Ex G J) : Mk J u v r v1 v2 lh p z o1 o2 :=
  ⟨WV.ext e h.hu, WV.ext e h.hv, h.rp, h.rz, h.due.ext e, e _ _ h.hh, h.h1.ext e, h.s1, h.h2.ext e, h.s2⟩
theorem Rw.lwo {N D : Nat} {z : W} {G : Hp} {v : V} {o : O} (h : Rw N D z) (ov : OV G v o) (st : o.strip = z.o) (h1 : N ≤ 4000) (h2 : D < 12) : Lw G v z := by
  refine ⟨⟨o, ⟨ov, by rw [← strip_ss, st]; exact h.ss, ?_, by rw [← strip_e3, st]; exact z.e3⟩, by rw [← strip_fitW, st]; exact h.fit, st⟩, Nat.lt_of_le_of_lt h.dp h2⟩
  have := sz_of_strip st
  have := W.sz_nd z
  have := h.nd
  omega
section
variable {P : Program} {w : World} {K : PySem.W.Frag} {mg : Str → Option Value} {base : Heap} {f c : Addr} {A : Around} {outer : List Env} {s : Shared} {HX : Hp}
theorem mb1 (T : T24 P w K mg base) (hr : Room 45 (XM P w K mg base f c A outer s HX).A) : ∃ t, PS (XM P w K mg base f c A outer s HX) (stM 0) t ∧
    ∀ (D : Ends) (G : Hp) (p q va : Addr) (n : Int) (xs : List Str), Spr G p q n → n + 500 ≤ 90000 → Vrs G p q va xs →
      (∀ (r : V) (J : Hp) (n' j : Int) (z : W), Spr J p q n' → n' ≤ n + 100 → But p q G J → WV J r z → Dw 3 z → D.nx [some (.ref p), some (.ref va), some r, some (.int j), none, none, none, none, none, none, none, none] J) →
      t D (L2.start nMr [.ref p, .ref va]) G := by
  obtain ⟨fD, dD, GD, bD, kD, mD⟩ := (ok_dr T).ex
  obtain ⟨fW, dW, GW, bW, kW, mW⟩ := (ok_d_word T 3).ex
  refine ⟨_, ps_par (i := 2) (j := 3) rfl sc_mr.nd rfl rfl (by decide) rfl rfl (pa_cons (pe_call GW (hr.mono (by decide)) (by rfl) mW kW bW .nil pass0 (pa_cons (pv 0) (pa_cons pe_int (pa_cons (pv 1) pa_nil)))) (pa_cons (pe_call GD (hr.mono (by decide)) (by rfl) mD kD bD .nil pass0 (pa_cons (pv 0) (pa_cons pe_int pa_nil))) pa_nil)) (by rfl), ?_⟩
  intro D G p q va n xs S hn hv k
  refine ⟨.ref p, rfl, .ref va, rfl, p, q, va, n, xs, rfl, S, by rw [kk3]; omega, hv.hv, hv.n1, hv.n2, hv.hl, hv.hS, fun r J n' z SJ hn' BJ hw dz => ?_⟩
  rw [kk3] at hn'
  refine ⟨.ref p, rfl, p, q, n', 4, rfl, SJ, by omega, by decide, by decide, fun rr G1 r0 r1 S1 B1 => ⟨_, _, rfl, ?_⟩⟩
  exact k r G1 (n' + 1) rr z S1 (by omega) (BJ.trans B1) (hw.tx (SJ.tx B1)) dz
theorem mb2 (T : T24 P w K mg base) (hr : Room 45 (XM P w K mg base f c A outer s HX).A) : ∃ t, PS (XM P w K mg base f c A outer s HX) (stM 1) t ∧
    ∀ (D : Ends) (G : Hp) (c3 c4 c5 c6 c7 c8 c9 c10 c11 : Option V) (p q va : Addr) (n : Int) (xs : List Str) (u : V) (y : W), Spr G p q n → n + 500 ≤ 90000 → Vrs G p q va xs → WV G u y → Dw 3 y →
      (∀ (r : V) (J : Hp) (n' : Int) (z : W), Spr J p q n' → n' ≤ n + 100 → But p q G J → WV J r z → Rw 54 5 z → D.nx [some (.ref p), some (.ref va), some r, c3, c4, c5, c6, c7, c8, c9, c10, c11] J) →
      t D [some (.ref p), some (.ref va), some u, c3, c4, c5, c6, c7, c8, c9, c10, c11] G := by
  obtain ⟨fD, dD, GD, bD, kD, mD⟩ := (ok_dr T).ex
  obtain ⟨fW, dW, GW, bW, kW, mW⟩ := (ok_d_word T 2).ex
  refine ⟨_, ps_set (i := 2) sc_mr.nd rfl (by first | exact Or.inl rfl | exact Or.inr rfl) (pe_ifExp (pt_cmpR op_eq (pe_call GD (hr.mono (by decide)) (by rfl) mD kD bD .nil pass0 (pa_cons (pv 0) (pa_cons pe_int pa_nil))) pe_int (nomark _))
    (pe_tup (pa_cons pe_str (pa_cons (pv 2) (pa_cons (pe_call GW (hr.mono (by decide)) (by rfl) mW kW bW .nil pass0 (pa_cons (pv 0) (pa_cons pe_int (pa_cons (pv 1) pa_nil)))) pa_nil)))) (pv 2)), ?_⟩
  intro D G c3 c4 c5 c6 c7 c8 c9 c10 c11 p q va n xs u y S hn hv hu hy k
  refine ⟨.ref p, rfl, p, q, n, 4, rfl, S, by omega, by decide, by decide, fun rr G1 r0 r1 S1 B1 => ⟨rfl, _, rfl, ?_⟩⟩
  have v1 := hv.but B1
  have hu1 := hu.tx (S.tx B1)
  dsimp only
  by_cases hb : decide (V.int rr = V.int 0) = true
  · rw [if_pos hb]
    refine ⟨u, rfl, .ref p, rfl, .ref va, rfl, p, q, va, n + 1, xs, rfl, S1, by rw [kk2]; omega, v1.hv, v1.n1, v1.n2, v1.hl, v1.hS, fun r J n' z SJ hn' BJ hw dz => ?_⟩
    rw [kk2] at hn'
    refine ⟨by show 3 ≤ sizeLine; rw [sizeLine_eq]; omega, fun t ht => ?_⟩
    have x5 : Ex J (upd J t (.tup [.str "=", u, r])) := Ex.new ht
    exact k (.ref t) _ n' (.n "=" [y, z]) (SJ.ext x5) (by omega) ((B1.trans BJ).trans (But.of x5)) (WV.of upd_same (.cons ((hu1.tx (S1.tx BJ)).ext x5) (.cons (hw.ext x5) .nil))) (hy.rwEq dz)
  · rw [if_neg hb]
    exact ⟨u, rfl, k u G1 (n + 1) y S1 (by omega) B1 hu1 (hy.rw.le (by decide) (by decide))⟩
theorem mb3 (T : T24 P w K mg base) (hr : Room 45 (XM P w K mg base f c A outer s HX).A) : ∃ t, PS (XM P w K mg base f c A outer s HX) (stM 2) t ∧
    ∀ (D : Ends) (G : Hp) (c1 c3 c4 c5 c6 c7 c8 c9 c10 c11 : Option V) (p q : Addr) (n : Int) (u : V) (y : W), Spr G p q n → n + 500 ≤ 90000 → WV G u y → Rw 54 5 y →
      (∀ (r : V) (J : Hp) (n' : Int) (z : W), Spr J p q n' → n' ≤ n + 120 → But p q G J → WV J r z → Rw 702 8 z → D.nx [some (.ref p), c1, some u, c3, some r, c5, c6, c7, c8, c9, c10, c11] J) →
      t D [some (.ref p), c1, some u, c3, c4, c5, c6, c7, c8, c9, c10, c11] G := by
  obtain ⟨fS, dS, GS, bS, kS, mS⟩ := (ok_substitution T).ex
  obtain ⟨fX, dX, GX, bX, kX, mX⟩ := (ok_law_put T 12).ex
  refine ⟨_, ps_set (i := 4) sc_mr.nd rfl (by first | exact Or.inl rfl | exact Or.inr rfl) (pe_call GX (hr.mono (by decide)) (by rfl) mX kX bX .nil pass0 (pa_cons (pv 2) (pa_cons (pe_call GS (hr.mono (by decide)) (by rfl) mS kS bS .nil pass0 (pa_cons (pv 0) (pa_cons (pe_lst (pa_cons pe_str (pa_cons pe_str pa_nil))) pa_nil))) pa_nil))), ?_⟩
  intro D G c1 c3 c4 c5 c6 c7 c8 c9 c10 c11 p q n u y S hn hu ry k
  refine ⟨u, rfl, .ref p, rfl, by show 2 ≤ sizeLine; rw [sizeLine_eq]; omega, fun l nl => ?_⟩
  have x1 : Ex G (upd G l (.lst [.str "X", .str "U"])) := Ex.new nl
  obtain ⟨n1, n2⟩ := S.nep nl
  refine ⟨p, q, l, n, ["X", "U"], rfl, S.ext x1, by omega, upd_same, n1, n2, by decide, by decide +kernel, fun d J n' ps hd SJ hn' BJ hdJ l4 ka => ?_⟩
  have B1 := (But.of (p := p) (q := q) x1).trans BJ
  have sk : Sk ps := ⟨l4, ka⟩
  have hsz := W.sz_nd y
  have h54 := ry.nd
  refine ⟨u, d, y, ps, rfl, hu.tx (S.tx B1), hdJ, by have := ry.dp; omega, by decide, by omega, fun r J2 e2 hw => ?_⟩
  exact k r J2 n' _ (SJ.ext e2) hn' (B1.trans (But.of e2)) hw (ry.sub sk)
theorem mb4 (T : T24 P w K mg base) (hr : Room 45 (XM P w K mg base f c A outer s HX).A) : ∃ t, PS (XM P w K mg base f c A outer s HX) (stM 3) t ∧
    ∀ (D : Ends) (G : Hp) (c2 c5 c6 c7 c8 c9 c10 c11 : Option V) (p q va : Addr) (n j : Int) (xs : List Str) (v : V) (y : W), Spr G p q n → n + 500 ≤ 90000 → Vrs G p q va xs → WV G v y → Rw 702 8 y →
      (∀ (r : V) (J : Hp) (n' : Int) (z : W) (c5' c6' : Option V), Spr J p q n' → n' ≤ n + 100 → But p q G J → WV J r z → Rw 715 11 z → D.nx [some (.ref p), some (.ref va), c2, some (.int j), some r, c5', c6', c7, c8, c9, c10, c11] J) →
      t D [some (.ref p), some (.ref va), c2, some (.int j), some v, c5, c6, c7, c8, c9, c10, c11] G := by
  obtain ⟨fK, dK, GK, bK, kK, mK⟩ := (ok_pick T).ex
  obtain ⟨fP, dP, GP, bP, kP, mP⟩ := (ok_d_parts T 13).ex
  obtain ⟨fW, dW, GW, bW, kW, mW⟩ := (ok_d_word T 2).ex
  obtain ⟨fU, dU, GU, bU, kU, mU⟩ := (ok_word_put T).ex
  refine ⟨_, ps_if (pt_cmpR op_gt (pv 3) pe_int (nomark _))
    (pss_cons (ps_asg (pe_call GK (hr.mono (by decide)) (by rfl) mK kK bK .nil pass0 (pa_cons (pv 0) (pa_cons (pe_call GP (hr.mono (by decide)) (by rfl) mP kP bP .nil pass0 (pa_cons (pv 4) pa_nil)) pa_nil))) (pg_tup rfl (pgs_cons (pg_name (i := 5) sc_mr.nd rfl (Or.inl rfl)) (pgs_cons (pg_name (i := 6) sc_mr.nd rfl (Or.inl rfl)) pgs_nil))))
      (pss_one (ps_set (i := 4) sc_mr.nd rfl (Or.inl rfl) (pe_ifExp (pt_cmpR op_lt (pv 3) pe_int (nomark _))
        (pe_callS (sp := spWu K) GU (hr.mono (by decide)) (by rfl) mU kU bU (fun σ => passAt L2.takes0 σ) (pa_cons (pv 4) (pa_cons (pv 5) (pa_cons (pe_call GW (hr.mono (by decide)) (by rfl) mW kW bW .nil pass0 (pa_cons (pv 0) (pa_cons pe_int (pa_cons (pv 1) pa_nil)))) pa_nil)))) (pv 6))))) pss_nil, ?_⟩
  intro D G c2 c5 c6 c7 c8 c9 c10 c11 p q va n j xs v y S hn hv hw ry k
  have hsz := W.sz_nd y
  have hnd := ry.nd
  have hdp := ry.dp
  refine ⟨.int j, rfl, j, 0, rfl, rfl, _, rfl, ?_⟩
  dsimp only
  by_cases hb : decide (j > 0) = true
  · rw [if_pos hb]
    refine ⟨.ref p, rfl, v, rfl, v, y, rfl, hw, by omega, by decide, by omega, fun pp ps G1 hpp e1 h1 hA => ?_⟩
    have hpl : ps.length = y.nd := by rw [hA.length, W.parts_nd]
    have hne : ps ≠ [] := fun z => by
      rw [z] at hpl
      cases y <;> simp [W.nd] at hpl
    obtain ⟨n1, n2⟩ := S.nep hpp
    refine ⟨p, q, pp, n, ps, rfl, S.ext e1, by omega, h1, n1, n2, hne, by omega, fun x G2 hx S2 B2 => ?_⟩
    obtain ⟨i, hi⟩ := List.getElem?_of_mem hx
    obtain ⟨qq, hqq, t, l, u', rfl, k1, k2, k3, k4⟩ := hA.get hi
    have tx2 : Tx G1 G2 := (S.ext e1).tx B2
    have ht2 := tx2 _ _ k1
    have hat := W.parts_at y qq (List.mem_of_getElem? hqq)
    obtain ⟨m1, m2⟩ := S.nep k2.1
    have hl2 := B2 _ _ m1 m2 k3
    have hu2 := k4.tx tx2
    have hw2 : WV G2 v y := (WV.ext e1 hw).tx tx2
    refine ⟨t, _, rfl, st_of ht2, rfl, _, _, rfl, _, _, rfl, rfl, ?_⟩
    refine ⟨.int j, rfl, j, 3, rfl, rfl, _, rfl, ?_⟩
    dsimp only
    have B02 : But p q G G2 := (But.of e1).trans B2
    by_cases hb2 : decide (j < 3) = true
    · rw [if_pos hb2]
      have v2 := hv.but B02
      refine ⟨v, rfl, .ref l, rfl, .ref p, rfl, .ref va, rfl, p, q, va, n + 1, xs, rfl, S2, by rw [kk2]; omega, v2.hv, v2.n1, v2.n2, v2.hl, v2.hS, fun r J n' z SJ hn' BJ hz dz => ?_⟩
      rw [kk2] at hn'
      have tx3 := S2.tx BJ
      have hl3 := BJ _ _ m1 m2 hl2
      have hlen := W.parts_deep y qq (List.mem_of_getElem? hqq)
      refine ⟨v, .ref l, r, rfl, .inr ⟨y, ry.lw (hw2.tx tx3) (by decide) (by decide), .inr ⟨qq.1, .yes rfl (show SqB J true l (nums qq.1) from hl3) (by omega) (by rw [hat]; rfl), .inr ⟨z, (dz.dz (by decide)).lw hz (strip_o z), dz.eq, fun r2 J2 e2 hw3 => ?_⟩⟩⟩⟩
      exact k r2 J2 n' _ _ _ (SJ.ext e2) (by omega) ((B02.trans BJ).trans (But.of e2)) hw3 (ry.put dz (by rw [hat]; rfl))
    · rw [if_neg hb2]
      exact ⟨u', rfl, k u' G2 (n + 1) qq.2 _ _ S2 (by omega) B02 hu2 ((ry.at hat).le (by decide) (by decide))⟩
  · rw [if_neg hb]
    exact k v G n y c5 c6 S (by omega) But.refl hw (ry.le (by decide) (by decide))
theorem mb5 (T : T24 P w K mg base) (hr : Room 45 (XM P w K mg base f c A outer s HX).A) : ∃ t, PS (XM P w K mg base f c A outer s HX) (stM 4) t ∧
    ∀ (D : Ends) (G : Hp) (c1 c3 c5 c6 c7 c8 c9 c10 c11 : Option V) (p q : Addr) (n : Int) (u v : V) (y z : W), Spr G p q n → n + 1000 ≤ 90000 → WV G u y → Rw 54 5 y → WV G v z → Rw 715 11 z →
      (∀ (r v1 v2 : V) (lh : Addr) (o1 o2 : O) (J : Hp) (n' : Int), Spr J p q n' → n' ≤ n + 800 → But p q G J → Mk J u v r v1 v2 lh y z o1 o2 → D.nx [some (.ref p), c1, some u, c3, some v, c5, c6, some r, some (.ref lh), c9, c10, c11] J) →
      t D [some (.ref p), c1, some u, c3, some v, c5, c6, c7, c8, c9, c10, c11] G := by
  obtain ⟨fF, dF, GF, bF, kF, mF⟩ := (ok_law_fault T).ex
  obtain ⟨fL, dL, GL, bL, kL, mL⟩ := (ok_d_loose T 13).ex
  refine ⟨_, ps_par (i := 7) (j := 8) rfl sc_mr.nd rfl rfl (by decide) rfl rfl (pa_cons (pe_call GF (hr.mono (by decide)) (by rfl) mF kF bF .nil pass0 (pa_cons (pv 2) (pa_cons (pv 4) pa_nil)))
    (pa_cons (pe_lst (pa_cons (pe_call GL (hr.mono (by decide)) (by rfl) mL kL bL .nil pass0 (pa_cons (pv 0) (pa_cons (pv 2) pa_nil))) (pa_cons (pe_call GL (hr.mono (by decide)) (by rfl) mL kL bL .nil pass0 (pa_cons (pv 0) (pa_cons (pv 4) pa_nil))) pa_nil))) pa_nil)) (by rfl), ?_⟩
  intro D G c1 c3 c5 c6 c7 c8 c9 c10 c11 p q n u v y z S hn hu ry hv rz k
  have y1 := ry.nd
  have y2 := W.sz_nd y
  have y3 := ry.dp
  have z1 := rz.nd
  have z2 := W.sz_nd z
  have z3 := rz.dp
  refine ⟨u, rfl, v, rfl, u, v, y, z, rfl, hu, hv, by omega, by omega, by omega, by omega, ry.ss, rz.ss, fun r G1 e1 hr1 => ?_⟩
  have S1 := S.ext e1
  have hu1 := WV.ext e1 hu
  have hv1 := WV.ext e1 hv
  obtain ⟨oP, oQ⟩ := S.old
  refine ⟨.ref p, rfl, u, rfl, p, q, u, n, y, rfl, S1, by omega, hu1, by omega, by decide, by omega, fun r1 G2 n2 o1 S2 hn2 B2 hv2 st2 => ?_⟩
  have tx2 := S1.tx B2
  obtain ⟨oP1, oQ1⟩ := S1.old
  refine ⟨.ref p, rfl, v, rfl, p, q, v, n2, z, rfl, S2, by omega, hv1.tx tx2, by omega, by decide, by omega, fun r2 G3 n3 o2 S3 hn3 B3 hv3 st3 => ?_⟩
  refine ⟨by show 2 ≤ sizeLine; rw [sizeLine_eq]; omega, fun lh nlh => ⟨_, _, rfl, ?_⟩⟩
  have x4 : Ex G3 (upd G3 lh (.lst [r1, r2])) := Ex.new nlh
  have B13 := B2.trans B3
  have tx13 := S1.tx B13
  have hdue : OV G3 r (Ft.ov (um y z [] []).1) := (hr1.ext (Go.but B13 oP oQ).ex).ext hx_ex
  have ho1 : OV G3 r1 o1 := (hv2.ext (Go.but B3 oP1 oQ1).ex).ext hx_ex
  have ho2 : OV G3 r2 o2 := hv3.ext hx_ex
  exact k r r1 r2 lh o1 o2 _ n3 (S3.ext x4) (by omega) (((But.of e1).trans B13).trans (But.of x4)) ⟨(hu1.tx tx13).ext x4, (hv1.tx tx13).ext x4, ry, rz, hdue.ext x4, upd_same, ho1.ext x4, st2, ho2.ext x4, st3⟩
end
end K24

set_option Elab.async false
set_option linter.all false
set_option maxRecDepth 100000
set_option maxHeartbeats 4000000
/-! _law_match_right: matched, compared. -/
namespace K24
open PySem PySem.Spec PyProof.Rows L2 Evl
/-- what match and match_fault told, from the heap G on -/
def Mr (G J : Hp) (lf : Addr) (p z : W) (r0 r1 : V) : Prop := G lf = none ∧ J lf = some (.lst [r0, r1]) ∧ (match (um p z [] []).1 with
  | none => r1 = .non ∧ ∃ pd ys, r0 = .ref pd ∧ G pd = none ∧ pd ≠ lf ∧ ys.Perm ((um p z [] []).2.map (·.1)) ∧ sortedS ys = true ∧ SubV J pd (psOf (fdW (um p z [] []).2) ys)
  | some f => r0 = .non ∧ OV (Hx (Old G) J) r1 f.o)
theorem Mr.ext {G J J2 : Hp} {lf : Addr} {p z : W} {r0 r1 : V} (h : Mr G J lf p z r0 r1) (e : Ex J J2) : Mr G J2 lf p z r0 r1 := by
  obtain ⟨h1, h2, h3⟩ := h
  refine ⟨h1, e _ _ h2, ?_⟩
  revert h3
  cases (um p z [] []).1 with
  | none => exact fun ⟨a, pd, ys, b, c, c2, d, e1, f⟩ => ⟨a, pd, ys, b, c, c2, d, e1, f.ext e⟩
  | some f => exact fun ⟨a, b⟩ => ⟨a, b.ext (Go.of e).ex⟩
def shH (o1 o2 : O) : Str := (O.lst [o1, o2]).py.shown
theorem ft_ne {H : Hp} {v : V} {f : Ft} (h : OV H v f.o) : ∃ a, v = .ref a := by
  cases f <;> (obtain ⟨a, _, e, _⟩ := h; exact ⟨a, e⟩)
theorem ft_dq (o : Option Ft) : (Ft.ov o).dq ≤ 2 := by
  have h : ∀ p : List Nat, (oPl p).dq ≤ 1 := fun p => by
    show O.dqs (p.map fun i : Nat => O.int (i : Nat)) + 1 ≤ 1
    have : O.dqs (p.map fun i : Nat => O.int (i : Nat)) = 0 := by
      induction p with
      | nil => rfl
      | cons a r ih => show max 0 (O.dqs (r.map _)) = 0; rw [ih]; rfl
    omega
  cases o with
  | none => exact Nat.zero_le _
  | some f =>
    cases f with
    | twice a b =>
      have h1 := h a
      have h2 := h b
      show max 0 (max (oPl a).dq (max (oPl b).dq 0)) + 1 ≤ 2
      omega
    | clash a =>
      have h1 := h a
      show max 0 (max (oPl a).dq 0) + 1 ≤ 2
      omega
/-- how long a fault is -/
def Ft.sh : Ft → Nat → Prop
  | .twice p q, n => p.length ≤ n ∧ q.length ≤ n
  | .clash p, n => p.length ≤ n
theorem oPl_sz (p : List Nat) : (oPl p).sz = p.length + 1 := by
  show O.szs (p.map fun i : Nat => O.int (i : Nat)) + 1 = _
  rw [nums_sz]
theorem ft_sz {o : Option Ft} (h : ∀ f, o = some f → f.sh 100) : (Ft.ov o).sz ≤ 300 := by
  cases o with
  | none => show 1 ≤ 300; decide
  | some f =>
    have h := h f rfl
    cases f with
    | twice a b =>
      obtain ⟨h1, h2⟩ : a.length ≤ 100 ∧ b.length ≤ 100 := h
      show 1 + ((oPl a).sz + ((oPl b).sz + 0)) + 1 ≤ 300
      rw [oPl_sz, oPl_sz]
      omega
    | clash a =>
      have h1 : a.length ≤ 100 := h
      show 1 + ((oPl a).sz + 0) + 1 ≤ 300
      rw [oPl_sz]
      omega
mutual
theorem um_sh : ∀ (p z : W) (pl : List Nat) (F : FD) (n : Nat), pl.length + p.dp ≤ n → (∀ q ∈ F, q.2.1.length ≤ n) → (∀ f, (um p z pl F).1 = some f → f.sh n) ∧ ∀ q ∈ (um p z pl F).2, q.2.1.length ≤ n
  | .v s, z, pl, F, n, h, hF => by
    unfold um
    cases hg : fdGet F s with
    | none =>
      refine ⟨fun f e => (nomatch e), fun q hq => ?_⟩
      rcases List.mem_append.mp hq with hq | hq
      · exact hF q hq
      · obtain rfl : q = (s, (pl, z)) := by simpa using hq
        show pl.length ≤ n
        omega
    | some x =>
      obtain ⟨p0, z0⟩ := x
      dsimp only
      split
      · exact ⟨fun f e => (nomatch e), hF⟩
      · refine ⟨fun f e => ?_, hF⟩
        obtain rfl := Option.some.inj e
        refine ⟨?_, by omega⟩
        unfold fdGet at hg
        cases hf : F.find? (fun q => decide (q.1 = s)) with
        | none => rw [hf] at hg; cases hg
        | some q =>
          rw [hf] at hg
          have := hF q (List.mem_of_find?_eq_some hf)
          have e2 : q.2 = (p0, z0) := Option.some.inj hg
          rw [e2] at this
          exact this
  | .n s as, .v t, pl, F, n, h, hF => ⟨fun f e => by
      obtain rfl := Option.some.inj e
      show pl.length ≤ n
      omega, hF⟩
  | .n s as, .n t bs, pl, F, n, h, hF => by
    have h : pl.length + (W.dps as + 1) ≤ n := h
    unfold um
    split
    · exact ums_sh as bs 0 pl F n (by omega) hF
    · refine ⟨fun f e => ?_, hF⟩
      obtain rfl := Option.some.inj e
      show pl.length ≤ n
      omega
theorem ums_sh : ∀ (as bs : List W) (i : Nat) (pl : List Nat) (F : FD) (n : Nat), pl.length + 1 + W.dps as ≤ n → (∀ q ∈ F, q.2.1.length ≤ n) → (∀ f, (ums as bs i pl F).1 = some f → f.sh n) ∧ ∀ q ∈ (ums as bs i pl F).2, q.2.1.length ≤ n
  | [], _, _, _, F, n, h, hF => by unfold ums; exact ⟨fun f e => (nomatch e), hF⟩
  | _ :: _, [], _, _, F, n, h, hF => by unfold ums; exact ⟨fun f e => (nomatch e), hF⟩
  | a :: as, b :: bs, i, pl, F, n, h, hF => by
    have h : pl.length + 1 + max a.dp (W.dps as) ≤ n := h
    have h1 := um_sh a b (pl ++ [i]) F n (by rw [List.length_append, List.length_singleton]; omega) hF
    unfold ums
    cases hu : um a b (pl ++ [i]) F with
    | mk o F1 =>
      rw [hu] at h1
      cases o with
      | some f => exact h1
      | none => exact ums_sh as bs (i + 1) pl F1 n (by omega) h1.2
end
theorem Rw.ftsz {p z : W} (h : Rw 54 5 p) : (Ft.ov (um p z [] []).1).sz ≤ 300 := ft_sz fun f e => (um_sh p z [] [] 100 (by have := h.dp; simp; omega) (fun q hq => nomatch hq)).1 f e
section
variable {P : Program} {w : World} {K : PySem.W.Frag} {mg : Str → Option Value} {base : Heap} {f c : Addr} {A : Around} {outer : List Env} {s : Shared} {HX : Hp}
theorem Mk.rep {G : Hp} {u v r v1 v2 : V} {lh : Addr} {p z : W} {o1 o2 : O} (h : Mk G u v r v1 v2 lh p z o1 o2) {σ : L2.St} {te : TE} (ht : Ev te σ G (.ref lh)) : Ev (tRpr K te) σ G (.str (shH o1 o2)) := by
  have a1 := sz_of_strip h.s1
  have a2 := sz_of_strip h.s2
  have b1 := W.sz_nd p
  have b2 := W.sz_nd z
  have c1 := h.rp.nd
  have c2 := h.rz.nd
  have d1 := h.rp.dp
  have d2 := h.rz.dp
  have e1 : o1.dp = p.dp := by rw [← strip_dp, h.s1, W.odp]
  have e2 : o2.dp = z.dp := by rw [← strip_dp, h.s2, W.odp]
  have w1 : o1.wd = true := by rw [← strip_wd, h.s1, W.wd]; exact h.rp.ss
  have w2 : o2.wd = true := by rw [← strip_wd, h.s2, W.wd]; exact h.rz.ss
  refine ev_reprO (o := .lst [o1, o2]) ht ⟨lh, _, rfl, h.hh, .cons h.h1 (.cons h.h2 .nil)⟩ ?_ ?_ ?_
  · show (o1.wd && (o2.wd && true)) = true
    rw [w1, w2]
    rfl
  · show max o1.dp (max o2.dp 0) + 1 ≤ 28
    omega
  · show o1.sz + (o2.sz + 0) + 1 ≤ 100000
    omega
theorem mb6 (T : T24 P w K mg base) (hr : Room 45 (XM P w K mg base f c A outer s HX).A) (hg : (XM P w K mg base f c A outer s HX).A.guards = some []) : ∃ t, PS (XM P w K mg base f c A outer s HX) (stM 5) t ∧
    ∀ (D : Ends) (G : Hp) (c0 c1 c2 c3 c4 c5 c6 c7 c9 c10 c11 : Option V) (u v r v1 v2 : V) (lh : Addr) (p z : W) (o1 o2 : O), Mk G u v r v1 v2 lh p z o1 o2 →
      (∀ (lf : Addr) (r0 r1 : V) (J : Hp), Ex G J → Mr G J lf p z r0 r1 → D.nx [c0, c1, c2, c3, c4, c5, c6, c7, some (.ref lh), some (.str (shH o1 o2)), some (.ref lf), c11] J) →
      t D [c0, c1, c2, c3, c4, c5, c6, c7, some (.ref lh), c9, c10, c11] G := by
  have hu := hr.un
  obtain ⟨fM, dM, GM, bM, kM, mM⟩ := (ok_match T).ex
  obtain ⟨fF, dF, GF, bF, kF, mF⟩ := (ok_match_fault T).ex
  refine ⟨_, ps_par (i := 9) (j := 10) rfl sc_mr.nd rfl rfl (by decide) rfl rfl (pa_cons (pe_callB (call_repr hg (by omega)) (by rfl) T.repr PyProof.Rows.boot_repr (pa_cons (pv 8) pa_nil))
    (pa_cons (pe_lst (pa_cons (pe_callS (sp := spMt K kMatch) GM (hr.mono (by decide)) (by rfl) mM kM bM (fun σ => passAt L2.takes0 σ) (pa_cons (pe_ix ix_list (pv 8) pe_int (fun _ _ => rfl)) (pa_cons (pe_ix ix_list (pv 8) pe_int (fun _ _ => rfl)) pa_nil)))
      (pa_cons (pe_callS (sp := spMt K kFault) GF (hr.mono (by decide)) (by rfl) mF kF bF (fun σ => passAt L2.takes0 σ) (pa_cons (pe_ix ix_list (pv 8) pe_int (fun _ _ => rfl)) (pa_cons (pe_ix ix_list (pv 8) pe_int (fun _ _ => rfl)) pa_nil))) pa_nil))) pa_nil)) (by rfl), ?_⟩
  intro D G c0 c1 c2 c3 c4 c5 c6 c7 c9 c10 c11 u v r v1 v2 lh p z o1 o2 hM k
  refine hM.rep (te := tVar 8) (σ := [c0, c1, c2, c3, c4, c5, c6, c7, some (.ref lh), c9, c10, c11]) (ev_var (i := 8) rfl) G (Ex.refl _) _ fun G1 e1 => ?_
  have hM1 := hM.ext e1
  have e0 : ∀ {J : Hp}, Ex G1 J → Ev (tOp (rIxL K) (tVar 8) (tC (V.int 0))) [c0, c1, c2, c3, c4, c5, c6, c7, some (.ref lh), c9, c10, c11] J v1 := fun e => ev_op (x := .ref lh) (ev_var (i := 8) rfl) ev_c (rv_ixL (sq_of (e _ _ hM1.hh)) (atI_nat (j := 0) rfl))
  have e1' : ∀ {J : Hp}, Ex G1 J → Ev (tOp (rIxL K) (tVar 8) (tC (V.int 1))) [c0, c1, c2, c3, c4, c5, c6, c7, some (.ref lh), c9, c10, c11] J v2 := fun e => ev_op (x := .ref lh) (ev_var (i := 8) rfl) ev_c (rv_ixL (sq_of (e _ _ hM1.hh)) (atI_nat (j := 1) rfl))
  refine e0 (Ex.refl _) G1 (Ex.refl _) _ fun G2 e2 => e1' e2 G2 (Ex.refl _) _ fun G3 e3 => ?_
  have e13 := e2.trans e3
  have hM3 := hM1.ext e13
  refine ⟨v1, v2, rfl, .inr ⟨p, hM3.rp.lwo hM3.h1 hM3.s1 (by decide) (by decide), .inr ⟨z, hM3.rz.lwo hM3.h2 hM3.s2 (by decide) (by decide), um_few hM3.rp.ss, fun r0 G4 e4 hr0 => ?_⟩⟩⟩
  have e14 := e13.trans e4
  refine e0 e14 G4 (Ex.refl _) _ fun G5 e5 => e1' (e14.trans e5) G5 (Ex.refl _) _ fun G6 e6 => ?_
  have e46 := e5.trans e6
  have e16 := e14.trans e46
  have hM6 := hM1.ext e16
  refine ⟨v1, v2, rfl, .inr ⟨p, hM6.rp.lwo hM6.h1 hM6.s1 (by decide) (by decide), .inr ⟨z, hM6.rz.lwo hM6.h2 hM6.s2 (by decide) (by decide), fun r1 G7 e7 hr1 => ?_⟩⟩⟩
  refine ⟨by show 2 ≤ sizeLine; rw [sizeLine_eq]; omega, fun lf nlf => ⟨_, _, rfl, ?_⟩⟩
  have x8 : Ex G7 (upd G7 lf (.lst [r0, r1])) := Ex.new nlf
  have h8 : (upd G7 lf (.lst [r0, r1])) lf = some (.lst [r0, r1]) := upd_same
  have eA := ((e1.trans e16).trans e7).trans x8
  refine k lf r0 r1 _ eA ⟨fresh_back ((e1.trans e16).trans e7) nlf, h8, ?_⟩
  revert hr0 hr1
  cases (um p z [] []).1 with
  | none =>
    rintro ⟨pd, ys, rfl, npd, hp, hs, hv⟩ rfl
    have hv7 := hv.ext (e46.trans e7)
    refine ⟨rfl, pd, ys, rfl, fresh_back (e1.trans e13) npd, fun z => ?_, hp, hs, hv7.ext x8⟩
    obtain ⟨_, a, _⟩ := hv7.get
    rw [z, nlf] at a
    cases a
  | some f => exact fun h0 h1 => ⟨h0, ((h1.ext (hx_mono fun b ⟨xs, hb⟩ => ⟨xs, (e1.trans e16) _ _ hb⟩)).ext (Go.of x8).ex)⟩
theorem mb7 (T : T24 P w K mg base) (hr : Room 45 (XM P w K mg base f c A outer s HX).A) (hg : (XM P w K mg base f c A outer s HX).A.guards = some []) : ∃ t, PS (XM P w K mg base f c A outer s HX) (stM 6) t ∧
    ∀ (D : Ends) (G0 G : Hp) (c0 c1 c2 c3 c4 c5 c6 c11 : Option V) (u v r v1 v2 r0 r1 : V) (lh lf : Addr) (p z : W) (o1 o2 : O), Mk G u v r v1 v2 lh p z o1 o2 → Mr G0 G lf p z r0 r1 →
      (∀ J, Ex G J → D.nx [c0, c1, c2, c3, c4, c5, c6, some r, some (.ref lh), some (.str (shH o1 o2)), some (.ref lf), c11] J) →
      t D [c0, c1, c2, c3, c4, c5, c6, some r, some (.ref lh), some (.str (shH o1 o2)), some (.ref lf), c11] G := by
  have hu := hr.un
  obtain ⟨fS, dS, GS, bS, kS, mS⟩ := (ok_same T 20).ex
  refine ⟨_, ps_if (PW.pt (pw_or (pt_cmpR op_ne (pe_cmp (pc_isN (pe_ix ix_list (pv 10) pe_int (fun _ _ => rfl))) rfl) (pe_cmp (pc_notN (pv 7)) rfl) (nomark _)) (pw_or (pt_not (pt_val (pe_call GS (hr.mono (by decide)) (by rfl) mS kS bS .nil pass0 (pa_cons (pe_ix ix_list (pv 10) pe_int (fun _ _ => rfl)) (pa_cons (pv 7) pa_nil)))))
      (pw_or1 (pt_cmpR op_ne (pe_callB (call_repr hg (by omega)) (by rfl) T.repr PyProof.Rows.boot_repr (pa_cons (pv 8) pa_nil)) (pv 9) (nomark _)))))) (pss_one ps_never) pss_nil, ?_⟩
  intro D G0 G c0 c1 c2 c3 c4 c5 c6 c11 u v r v1 v2 r0 r1 lh lf p z o1 o2 hM hR k
  obtain ⟨g1, g2, g3⟩ := hR
  have i0 : ∀ {J : Hp}, Ex G J → Ev (tOp (rIxL K) (tVar 10) (tC (V.int 0))) [c0, c1, c2, c3, c4, c5, c6, some r, some (.ref lh), some (.str (shH o1 o2)), some (.ref lf), c11] J r0 := fun e => ev_op (x := .ref lf) (ev_var (i := 10) rfl) ev_c (rv_ixL (sq_of (e _ _ g2)) (atI_nat (j := 0) rfl))
  have i1 : ∀ {J : Hp}, Ex G J → Ev (tOp (rIxL K) (tVar 10) (tC (V.int 1))) [c0, c1, c2, c3, c4, c5, c6, some r, some (.ref lh), some (.str (shH o1 o2)), some (.ref lf), c11] J r1 := fun e => ev_op (x := .ref lf) (ev_var (i := 10) rfl) ev_c (rv_ixL (sq_of (e _ _ g2)) (atI_nat (j := 1) rfl))
  have hfs := hM.rp.ftsz (z := z)
  have hfd := ft_dq (um p z [] []).1
  have hr1 : OV G r1 (Ft.ov (um p z [] []).1) := by
    revert g3
    cases (um p z [] []).1 with
    | none => exact fun g => g.1
    | some f => exact fun g => g.2.ext hx_ex
  have hdn : decide (r0 = V.non) = !decide (r = V.non) := by
    have hd := hM.due
    revert g3 hd
    cases (um p z [] []).1 with
    | none =>
      rintro ⟨_, pd, ys, rfl, _⟩ hd
      obtain rfl : r = .non := hd
      rfl
    | some f =>
      rintro ⟨rfl, _⟩ hd
      obtain ⟨a, rfl⟩ := ft_ne hd
      rfl
  refine s_when (b := false) (et_or (a := false) (b := false) (et_is (et_test (ev_op (x := .bl (decide (r0 = V.non))) (y := .bl (!decide (r = V.non))) ?_ ?_ rv_neB)) (by rw [hdn, decide_eq_true rfl]; rfl)) fun _ => et_or (a := false) (b := false) (et_not (a := true) (et_B fun H1 e1 Q q => ?_)) fun _ => et_is (et_test (ev_op (hM.rep (ev_var (i := 8) rfl)) (ev_var (i := 9) rfl) (rv_ne rfl))) (by rw [decide_eq_true rfl]; rfl)) (fun z => nomatch z) fun _ J e => k J e
  · exact fun H1 e1 Q q => i0 e1 H1 (Ex.refl _) _ fun H2 e2 => q H2 e2
  · exact fun H1 e1 Q q => ⟨r, rfl, q H1 (Ex.refl _)⟩
  · exact i1 e1 H1 (Ex.refl _) _ fun H2 e2 => ⟨r, rfl, r1, r, _, rfl, hr1.ext (e1.trans e2), hM.due.ext (e1.trans e2), by omega, by decide, by omega, fun H3 e3 => q H3 (e2.trans e3)⟩
end
end K24

set_option Elab.async false
set_option linter.all false
set_option maxRecDepth 100000
set_option maxHeartbeats 4000000
/-! _law_match_right: to its end. -/
namespace K24
open PySem PySem.Spec PyProof.Rows L2 Evl
theorem fdW_keys (F : FD) : (fdW F).map (·.1) = F.map (·.1) := by
  unfold fdW
  rw [List.map_map]
  rfl
section
variable {P : Program} {w : World} {K : PySem.W.Frag} {mg : Str → Option Value} {base : Heap} {f c : Addr} {A : Around} {outer : List Env} {s : Shared} {HX : Hp}
theorem mb8 (T : T24 P w K mg base) (hr : Room 45 (XM P w K mg base f c A outer s HX).A) : ∃ t, PS (XM P w K mg base f c A outer s HX) (stM 7) t ∧
    ∀ (D : Ends) (G0 G : Hp) (c0 c1 c3 c5 c6 c8 c9 c11 : Option V) (u v r v1 v2 r0 r1 : V) (lh lf : Addr) (p z : W) (o1 o2 : O), Mk G0 u v r v1 v2 lh p z o1 o2 → Ex G0 G → Mr G0 G lf p z r0 r1 →
      ((um p z [] []).1 = none → ∀ J, Ex G0 J → D.rt (.bl true) J) → (∀ f, (um p z [] []).1 = some f → ∀ J, Ex G J → D.nx [c0, c1, some u, c3, some v, c5, c6, some r, c8, c9, some (.ref lf), c11] J) →
      t D [c0, c1, some u, c3, some v, c5, c6, some r, c8, c9, some (.ref lf), c11] G := by
  obtain ⟨fS, dS, GS, bS, kS, mS⟩ := (ok_same T 20).ex
  obtain ⟨fV, dV, GV, bV, kV', mV⟩ := (ok_d_vars T 13).ex
  obtain ⟨fX, dX, GX, bX, kX, mX⟩ := (ok_law_put T 12).ex
  obtain ⟨fM, dM, GM, bM, kM, mM⟩ := (ok_match T).ex
  refine ⟨_, ps_if (pt_cmp (pc_isN (pv 7)))
    (pss_cons (ps_set (i := 11) sc_mr.nd rfl (Or.inl rfl) (pe_call GV (hr.mono (by decide)) (by rfl) mV kV' bV .nil pass0 (pa_cons (pe_lst (pa_cons (pv 2) pa_nil)) pa_nil)))
    (pss_cons (ps_if (PW.pt (pw_or (pt_cmpR (op_neD hr.units) (pe_callTy (call_listD rfl) (by rfl) T.list PyProof.Rows.boot_list (pa_cons (pe_ix ix_list (pv 10) pe_int (fun _ _ => rfl)) pa_nil)) (pe_callB cr_sortedS (by rfl) T.sorted (by decide +kernel) (pa_cons (pv 11) pa_nil)) (nomark _))
        (pw_or1 (pt_not (pt_val (pe_call GS (hr.mono (by decide)) (by rfl) mS kS bS .nil pass0 (pa_cons (pe_call GX (hr.mono (by decide)) (by rfl) mX kX bX .nil pass0 (pa_cons (pv 2) (pa_cons (pe_ix ix_list (pv 10) pe_int (fun _ _ => rfl)) pa_nil))) (pa_cons (pv 4) pa_nil)))))))) (pss_one ps_never) pss_nil)
    (pss_cons (ps_dput (hu_of hr) (pe_ix ix_list (pv 10) pe_int (fun _ _ => rfl)) pe_str pe_str rfl)
    (pss_one (ps_ret (pe_cmpR (op_eqD hr.units) (pe_callTy (call_listD rfl) (by rfl) T.list PyProof.Rows.boot_list (pa_cons (pe_callS (sp := spMt K kMatch) GM (hr.mono (by decide)) (by rfl) mM kM bM (fun σ => passAt L2.takes0 σ) (pa_cons (pv 2) (pa_cons (pv 4) pa_nil))) pa_nil)) (pe_callB cr_sortedS (by rfl) T.sorted (by decide +kernel) (pa_cons (pv 11) pa_nil)) (nomark _))))))) pss_nil, ?_⟩
  intro D G0 G c0 c1 c3 c5 c6 c8 c9 c11 u v r v1 v2 r0 r1 lh lf p z o1 o2 hM0 e0 hR kN kS'
  have hM := hM0.ext e0
  obtain ⟨g1, g2, g3⟩ := hR
  have hdue := hM.due
  cases hum : um p z [] [] with
  | mk o F =>
    rw [hum] at g3 hdue
    cases o with
    | some ft =>
      obtain ⟨a, rfl⟩ := ft_ne hdue
      refine s_when (b := false) (et_B fun H1 e1 Q q => ⟨.ref a, rfl, q H1 (Ex.refl _)⟩) (fun z => nomatch z) fun _ J e => kS' ft (by rw [hum]) J e
    | none =>
      obtain rfl : r = .non := hdue
      obtain ⟨rfl, pd, ys, rfl, npd, hpl, hperm, hsrt, hsub⟩ := g3
      have kN := kN (by rw [hum])
      refine s_when (b := true) (et_B fun H1 e1 Q q => ⟨.non, rfl, q H1 (Ex.refl _)⟩) (fun _ G1 e1 => ?_) fun z => nomatch z
      have p1 := hM.rp.nd
      have p2 := W.sz_nd p
      have p3 := hM.rp.dp
      have z1 := hM.rz.nd
      have z2 := W.sz_nd z
      have z3 := hM.rz.dp
      have hFn : (F.map (·.1)).Nodup := by
        have := um_nd p z [] [] List.nodup_nil
        rw [hum] at this
        exact this
      have hFp : (F.map (·.1)).Perm p.vars := (List.perm_ext_iff_of_nodup hFn (vars_nodup p)).mpr fun s => um_keys hum s
      have hss := vars_ss p hM.rp.ss
      have hFl : F.length < 64 := by
        have := um_few (p := p) (z := z) hM.rp.ss
        rw [hum] at this
        exact this
      have hvl : p.vars.length < 64 := by have := hFp.length_eq; simp at this; omega
      have hperm' : ys.Perm ((fdW F).map (·.1)) := by rw [fdW_keys]; exact hperm
      have hlk : lk (psOf (fdW F) ys) = lk (fdW F) := lk_psOf (by rw [fdW_keys]; exact hFn) hperm'
      -- the names
      refine ⟨u, rfl, by show 1 ≤ sizeLine; rw [sizeLine_eq]; omega, fun a na => ?_⟩
      have x2 : Ex G1 (upd G1 a (.lst [u])) := Ex.new na
      refine ⟨a, [u], [p], rfl, upd_same, .cons ((WV.ext e1 hM.hu).ext x2) .nil, fun z' hz' => ?_, by decide, ?_, fun ln G2 nln e2 h2 => ?_⟩
      · obtain rfl : z' = p := by simpa using hz'
        omega
      · show p.sz + 0 ≤ 9000
        omega
      rw [varsL_one] at h2
      have e02 := (e1.trans x2).trans e2
      have hM2 := hM.ext e02
      have hsub2 := hsub.ext e02
      have g22 := e02 _ _ g2
      have i0 : ∀ {J : Hp}, Ex G2 J → Ev (tOp (rIxL K) (tVar 10) (tC (V.int 0))) [c0, c1, some u, c3, some v, c5, c6, some .non, c8, c9, some (.ref lf), some (.ref ln)] J (.ref pd) := fun e => ev_op (x := .ref lf) (ev_var (i := 10) rfl) ev_c (rv_ixL (sq_of (e _ _ g22)) (atI_nat (j := 0) rfl))
      have srt : ∀ {J : Hp} (Q : VK), J ln = some (.lst (sVs p.vars)) → (∀ (l : Addr), J l = none → Q (.ref l) (upd J l (.lst (sVs ys)))) → tCB (rSortedS K) (tCons (tVar 11) tNil) [c0, c1, some u, c3, some v, c5, c6, some .non, c8, c9, some (.ref lf), some (.ref ln)] J Q := fun {J} Q hJ q =>
        ⟨.ref ln, rfl, ln, p.vars, rfl, sq_of hJ, hvl, fun zs l hp hs nl => by
          obtain rfl : ys = zs := sorted_eq ((hperm.trans hFp).trans hp.symm) hsrt hs
          exact q l nl⟩
      have hys : ∀ s ∈ ys, SS.contains s = true := fun s hs => hss s (hFp.mem_iff.mp (hperm.mem_iff.mp hs))
      unfold gName
      dsimp only
      refine q_when (b := false) (et_or (a := false) (b := false) (et_test fun H1 e3 Q q => ?_) fun _ => et_not (a := true) (et_B (ev_sameW (z := z) (m := 20) ?_ (evw_var (i := 4) (σ := [c0, c1, some u, c3, some v, c5, c6, some .non, c8, c9, some (.ref lf), some (.ref ln)]) rfl hM2.hv) (by omega) (by decide) (by omega)))) (fun z => nomatch z) fun _ G3 e3 => ?_
      · refine i0 e3 H1 (Ex.refl _) _ fun H2 e4 => ?_
        obtain ⟨kvs, a1, a2, a3⟩ := (hsub2.ext (e3.trans e4)).keys
        rw [psOf_keys] at a2
        refine ⟨pd, kvs, rfl, .inl a1, fun l nl => ?_⟩
        rw [a2]
        have x1 : Ex H2 (upd H2 l (.lst (sVs ys))) := Ex.new nl
        refine srt _ (x1 _ _ (e4 _ _ (e3 _ _ h2))) fun l2 nl2 => ?_
        have x3 := Ex.new (H := upd H2 l (.lst (sVs ys))) (o := .lst (sVs ys)) nl2
        exact rv_neStrs (x3 _ _ upd_same) upd_same hys _ (Ex.refl _) Q fun H4 e5 => q H4 (((e4.trans x1).trans x3).trans e5)
      · have := evp_dput (m := 12) (z := p) (ps := psOf (fdW F) ys) (t1 := tVar 2) (evw_var (i := 2) rfl hM2.hu) (i0 (Ex.refl _)) hsub2 (by omega) (by decide) (by omega)
        rw [hlk, um_sub hum] at this
        exact this
      -- found[0]["late"] = "X"
      have h23 := e3 _ _ h2
      have hM3 := hM2.ext e3
      have hsub3 := hsub2.ext e3
      refine i0 e3 G3 (Ex.refl _) _ fun G4 e4 => ?_
      obtain ⟨kvs, a1, a2, _⟩ := (hsub3.ext e4).get
      have hkl : kvs.length < 64 := by
        rw [a2]
        unfold psOf
        rw [List.length_map, hperm.length_eq, List.length_map]
        exact hFl
      refine ⟨pd, _, rfl, DPut.k (k := Sum.inr "late") a1 (sz_lt (by omega)), ?_⟩
      have e04 := ((e0.trans e02).trans e3).trans e4
      have x5 : Ex G0 (upd G4 pd (.dK (putK kvs (Sum.inr "late") (.str "X")))) := Ex.mut e04 npd
      have hln5 : (upd G4 pd (.dK (putK kvs (Sum.inr "late") (.str "X")))) ln = some (.lst (sVs p.vars)) := by
        have h24 := e4 _ _ h23
        rw [upd_ne (ne_of h24 a1 (by intro z; cases z))]
        exact h24
      generalize upd G4 pd (.dK (putK kvs (Sum.inr "late") (.str "X"))) = G5 at x5 hln5 ⊢
      have hM5 := hM0.ext x5
      refine ⟨u, rfl, v, rfl, u, v, rfl, .inr ⟨p, hM5.rp.lwo hM5.hu (strip_o p) (by decide) (by decide), .inr ⟨z, hM5.rz.lwo hM5.hv (strip_o z) (by decide) (by decide), um_few hM5.rp.ss, fun r2 G6 e6 hr2 => ?_⟩⟩⟩
      rw [hum] at hr2
      obtain ⟨pd2, ys2, rfl, _, hperm2, hsrt2, hsub2'⟩ := hr2
      obtain rfl : ys = ys2 := sorted_eq (hperm.trans hperm2.symm) hsrt hsrt2
      obtain ⟨kvs2, b1, b2, b3⟩ := hsub2'.keys
      rw [psOf_keys] at b2
      refine ⟨pd2, kvs2, rfl, .inl b1, fun l nl => ?_⟩
      rw [b2]
      have x7 : Ex G6 (upd G6 l (.lst (sVs ys))) := Ex.new nl
      refine srt _ (x7 _ _ (e6 _ _ hln5)) fun l2 nl2 => ?_
      have x8 := Ex.new (H := upd G6 l (.lst (sVs ys))) (o := .lst (sVs ys)) nl2
      exact rv_eqStrs (x8 _ _ upd_same) upd_same hys _ (Ex.refl _) _ fun H4 e5 => kN H4 ((((x5.trans e6).trans x7).trans x8).trans e5)
theorem mb9 (T : T24 P w K mg base) : ∃ t, PS (XM P w K mg base f c A outer s HX) (stM 8) t ∧
    ∀ (D : Ends) (G0 G : Hp) (c0 c1 c2 c3 c4 c5 c6 c7 c8 c9 c11 : Option V) (r0 r1 : V) (lf : Addr) (p z : W) (ft : Ft), Rw 54 5 p → Ex G0 G → Mr G0 G lf p z r0 r1 → (um p z [] []).1 = some ft →
      (∀ J c5', Ex G0 J → D.nx [c0, c1, c2, c3, c4, c5', c6, c7, c8, c9, some (.ref lf), c11] J) →
      t D [c0, c1, c2, c3, c4, c5, c6, c7, c8, c9, some (.ref lf), c11] G := by
  refine ⟨_, ps_for PassesOwn.never rfl (pi_tup (pe_slice sl_tup (pe_ix ix_list (pv 10) pe_int (fun _ _ => rfl)) (po_some pe_int) po_none)) (pg_name (i := 5) sc_mr.nd rfl (Or.inl rfl)) (pss_one (ps_expr (pe_bm PySem.F.plainAttrs_list PySem.F.slot_list_append PySem.F.type_list_append mt_append (pv 5) (pa_cons pe_str pa_nil)))), ?_⟩
  intro D G0 G c0 c1 c2 c3 c4 c5 c6 c7 c8 c9 c11 r0 r1 lf p z ft rp e0 hR hf k
  obtain ⟨g1, g2, g3⟩ := hR
  rw [hf] at g3
  obtain ⟨_, hov⟩ := g3
  have hsh := (um_sh p z [] [] 100 (by have := rp.dp; simp; omega) (fun q hq => nomatch hq)).1 ft hf
  have one : ∀ {y : V} {pl : List Nat}, OV (Hx (Old G0) G) y (oPl pl) → ∃ l ws, y = .ref l ∧ G0 l = none ∧ G l = some (.lst ws) ∧ ws.length = pl.length := fun {y pl} h => by
    obtain ⟨l, ws, rfl, h1, h2⟩ := h
    obtain ⟨n1, _, h3⟩ := hx_to h1
    refine ⟨l, ws, rfl, ?_, h3, by have := h2.length; simpa using this⟩
    cases hx : G0 l with
    | none => rfl
    | some o =>
      have := e0 _ _ hx
      rw [h3] at this
      cases this
      exact absurd ⟨ws, hx⟩ n1
  obtain ⟨t1, hd, us, rfl, ht1, hall⟩ : ∃ (t1 : Addr) (hd : V) (us : List V), r1 = .ref t1 ∧ G t1 = some (.tup (hd :: us)) ∧ us.length ≤ 2 ∧ ∀ y ∈ us, ∃ l ws, y = .ref l ∧ G0 l = none ∧ G l = some (.lst ws) ∧ ws.length ≤ 100 := by
    cases ft with
    | twice a b =>
      obtain ⟨h1, h2⟩ : a.length ≤ 100 ∧ b.length ≤ 100 := hsh
      obtain ⟨t1, vs, rfl, ht, v0, us, rfl, _, v1, us1, rfl, ho1, v2, us2, rfl, ho2, hn⟩ := hov
      obtain rfl : us2 = [] := hn
      obtain ⟨_, _, ht⟩ := hx_to ht
      obtain ⟨l1, ws1, a1, a2, a3, a4⟩ := one ho1
      obtain ⟨l2, ws2, b1, b2, b3, b4⟩ := one ho2
      refine ⟨t1, v0, [v1, v2], rfl, ht, Nat.le_refl _, fun y hy => ?_⟩
      rcases List.mem_cons.mp hy with rfl | hy
      · exact ⟨l1, ws1, a1, a2, a3, by omega⟩
      · obtain rfl : y = v2 := by simpa using hy
        exact ⟨l2, ws2, b1, b2, b3, by omega⟩
    | clash a =>
      have h1 : a.length ≤ 100 := hsh
      obtain ⟨t1, vs, rfl, ht, v0, us, rfl, _, v1, us1, rfl, ho1, hn⟩ := hov
      obtain rfl : us1 = [] := hn
      obtain ⟨_, _, ht⟩ := hx_to ht
      obtain ⟨l1, ws1, a1, a2, a3, a4⟩ := one ho1
      refine ⟨t1, v0, [v1], rfl, ht, by show 1 ≤ 2; decide, fun y hy => ?_⟩
      obtain rfl : y = v1 := by simpa using hy
      exact ⟨l1, ws1, a1, a2, a3, by omega⟩
  obtain ⟨hul, hall⟩ := hall
  refine s_forNT (eu_tail (K := K) (te := tOp (rIxL K) (tVar 10) (tC (V.int 1))) (a := t1) (x := hd) (xs := us) (ev_op (x := .ref lf) (ev_var (i := 10) rfl) ev_c (rv_ixL (sq_of g2) (atI_nat (j := 1) rfl))) (st_of ht1))
    (fun c i σ' H' => (∃ c5', σ' = [c0, c1, c2, c3, c4, c5', c6, c7, c8, c9, some (.ref lf), c11]) ∧ Ex G0 H' ∧ H' c = some (.tup us) ∧ ∀ y ∈ us, ∃ l ws, y = .ref l ∧ G0 l = none ∧ H' l = some (.lst ws) ∧ ws.length ≤ 100 + i) ?_ (fun c i σ' H' _ z => st_of z.2.2.1) ?_ ?_
  · intro c H1 nc e1 hc
    refine ⟨⟨_, rfl⟩, e0.trans e1, hc, fun y hy => ?_⟩
    obtain ⟨l, ws, a1, a2, a3, a4⟩ := hall y hy
    exact ⟨l, ws, a1, a2, e1 _ _ a3, by omega⟩
  · rintro c i y σ' H' hi ⟨⟨c5', rfl⟩, e1, hc, hl⟩
    obtain ⟨l, ws, rfl, a2, a3, a4⟩ := hl y (List.mem_of_getElem? hi)
    have hil := (List.getElem?_eq_some_iff.mp hi).1
    refine s_app a3 (ev_var (i := 5) rfl) ev_c (by omega) fun H2 e2 => ⟨⟨_, rfl⟩, Ex.mut (e1.trans e2) a2, ?_, fun y2 hy2 => ?_⟩
    · exact Tx.lst (e2 _ _ a3) _ _ (e2 _ _ hc)
    · obtain ⟨l2, ws2, rfl, b2, b3, b4⟩ := hl y2 hy2
      by_cases hz : l2 = l
      · subst hz
        rw [a3] at b3
        cases b3
        exact ⟨l2, _, rfl, b2, upd_same, by rw [List.length_append, List.length_singleton]; omega⟩
      · exact ⟨l2, ws2, rfl, b2, by rw [upd_ne hz]; exact e2 _ _ b3, by omega⟩
  · rintro c σ' H' ⟨⟨c5', rfl⟩, e1, _⟩
    exact k H' c5' e1
theorem mb10 (T : T24 P w K mg base) (hr : Room 45 (XM P w K mg base f c A outer s HX).A) : ∃ t, PS (XM P w K mg base f c A outer s HX) (stM 9) t ∧
    ∀ (D : Ends) (G : Hp) (c0 c1 c3 c5 c6 c8 c9 c10 c11 : Option V) (u v r v1 v2 : V) (lh : Addr) (p z : W) (o1 o2 : O), Mk G u v r v1 v2 lh p z o1 o2 → (∀ J, Ex G J → D.rt (.bl true) J) →
      t D [c0, c1, some u, c3, some v, c5, c6, some r, c8, c9, c10, c11] G := by
  obtain ⟨fS, dS, GS, bS, kS, mS⟩ := (ok_same T 20).ex
  obtain ⟨fF, dF, GF, bF, kF, mF⟩ := (ok_match_fault T).ex
  refine ⟨_, ps_ret (pe_call GS (hr.mono (by decide)) (by rfl) mS kS bS .nil pass0 (pa_cons (pe_callS (sp := spMt K kFault) GF (hr.mono (by decide)) (by rfl) mF kF bF (fun σ => passAt L2.takes0 σ) (pa_cons (pv 2) (pa_cons (pv 4) pa_nil))) (pa_cons (pv 7) pa_nil))), ?_⟩
  intro D G c0 c1 c3 c5 c6 c8 c9 c10 c11 u v r v1 v2 lh p z o1 o2 hM k
  have hfs := hM.rp.ftsz (z := z)
  have hfd := ft_dq (um p z [] []).1
  refine ⟨u, rfl, v, rfl, u, v, rfl, .inr ⟨p, hM.rp.lwo hM.hu (strip_o p) (by decide) (by decide), .inr ⟨z, hM.rz.lwo hM.hv (strip_o z) (by decide) (by decide), fun r1 G1 e1 hr1 => ?_⟩⟩⟩
  have ho : OV G1 r1 (Ft.ov (um p z [] []).1) := by
    revert hr1
    cases (um p z [] []).1 with
    | none => exact fun g => g
    | some f => exact fun g => g.ext hx_ex
  exact ⟨r, rfl, r1, r, _, rfl, ho, hM.due.ext e1, by omega, by decide, by omega, fun G2 e2 => k G2 (e1.trans e2)⟩
def spMr : Sp := fun vs H Q _ => ∃ (p q va : Addr) (n : Int) (xs : List Str), vs = [.ref p, .ref va] ∧ Spr H p q n ∧ n + 3000 ≤ 90000 ∧ Vrs H p q va xs ∧ ∀ (G : Hp) (n' : Int), Spr G p q n' → n' ≤ n + 1500 → But p q H G → Q (.bl true) G
theorem ok_match_right (T : T24 P w K mg base) {fd : FuncData} (F : FnP K "_law_match_right" s__law_match_right (He.ga K "_law_match_right") fd) :
    FnG P w K mg base 46 (He.ga K "_law_match_right") fd ["_law_stream", "_law_variables"] spMr := by
  refine FnG.of F sc_mr (fun vs H Q E h => ?_) (fun c _ A outer s H vs Q hg hr h => ?_)
  · obtain ⟨p, q, va, n, xs, rfl, _⟩ := h
    rfl
  obtain ⟨p, q, va, n, xs, rfl, S, hn, hv, kf⟩ := h
  obtain ⟨t1, p1, k1⟩ := mb1 (c := c) (outer := outer) (s := s) (HX := H) T hr
  obtain ⟨t2, p2, k2⟩ := mb2 (c := c) (outer := outer) (s := s) (HX := H) T hr
  obtain ⟨t3, p3, k3⟩ := mb3 (c := c) (outer := outer) (s := s) (HX := H) T hr
  obtain ⟨t4, p4, k4⟩ := mb4 (c := c) (outer := outer) (s := s) (HX := H) T hr
  obtain ⟨t5, p5, k5⟩ := mb5 (c := c) (outer := outer) (s := s) (HX := H) T hr
  obtain ⟨t6, p6, k6⟩ := mb6 (c := c) (outer := outer) (s := s) (HX := H) T hr hg
  obtain ⟨t7, p7, k7⟩ := mb7 (c := c) (outer := outer) (s := s) (HX := H) T hr hg
  obtain ⟨t8, p8, k8⟩ := mb8 (c := c) (outer := outer) (s := s) (HX := H) T hr
  obtain ⟨t9, p9, k9⟩ := mb9 (f := He.ga K "_law_match_right") (c := c) (A := A) (outer := outer) (s := s) (HX := H) T
  obtain ⟨t10, p10, k10⟩ := mb10 (c := c) (outer := outer) (s := s) (HX := H) T hr
  refine ⟨tSeq t1 (tSeq t2 (tSeq t3 (tSeq t4 (tSeq t5 (tSeq t6 (tSeq t7 (tSeq t8 (tSeq t9 t10)))))))),
    PSs.nox (pss_cons p1 (pss_cons p2 (pss_cons p3 (pss_cons p4 (pss_cons p5 (pss_cons p6 (pss_cons p7 (pss_cons p8 (pss_cons p9 (pss_one p10)))))))))), ?_⟩
  refine k1 _ H p q va n xs S (by omega) hv fun u1 G1 n1 j y S1 hn1 B1 hu1 dy => ?_
  refine k2 _ G1 _ _ _ _ _ _ _ _ _ p q va n1 xs u1 y S1 (by omega) (hv.but B1) hu1 dy fun u G2 n2 pt S2 hn2 B2 hu rp => ?_
  have B02 := B1.trans B2
  refine k3 _ G2 _ _ _ _ _ _ _ _ _ _ p q n2 u pt S2 (by omega) hu rp fun v3 G3 n3 z3 S3 hn3 B3 hw3 rz3 => ?_
  have B03 := B02.trans B3
  refine k4 _ G3 _ _ _ _ _ _ _ _ p q va n3 j xs v3 z3 S3 (by omega) (hv.but B03) hw3 rz3 fun v G4 n4 z c5 c6 S4 hn4 B4 hw rz => ?_
  have hu4 := (hu.tx (S2.tx B3)).tx (S3.tx B4)
  refine k5 _ G4 _ _ _ _ _ _ _ _ _ p q n4 u v pt z S4 (by omega) hu4 rp hw rz fun r v1 v2 lh o1 o2 G5 n5 S5 hn5 B5 hM => ?_
  have B05 := (B03.trans B4).trans B5
  refine k6 _ G5 _ _ _ _ _ _ _ _ _ _ _ u v r v1 v2 lh pt z o1 o2 hM fun lf r0 r1 G6 e6 hR => ?_
  refine k7 _ G5 G6 _ _ _ _ _ _ _ _ u v r v1 v2 r0 r1 lh lf pt z o1 o2 (hM.ext e6) hR fun G7 e7 => ?_
  have hR7 := hR.ext e7
  have e57 := e6.trans e7
  refine k8 _ G5 G7 _ _ _ _ _ _ _ _ u v r v1 v2 r0 r1 lh lf pt z o1 o2 hM e57 hR7 (fun _ J eJ => ?_) fun ft hft G8 e8 => ?_
  · exact kf J n5 (S5.ext eJ) (by omega) (B05.trans (But.of eJ))
  refine k9 _ G5 G8 _ _ _ _ _ _ _ _ _ _ _ r0 r1 lf pt z ft rp (e57.trans e8) (hR7.ext e8) hft fun G9 c5' e9 => ?_
  refine k10 _ G9 _ _ _ _ _ _ _ _ _ u v r v1 v2 lh pt z o1 o2 (hM.ext e9) fun G10 e10 => ?_
  have eA := e9.trans e10
  exact kf G10 n5 (S5.ext eA) (by omega) (B05.trans (But.of eA))
end
end K24

set_option Elab.async false
set_option linter.all false
set_option maxRecDepth 100000
set_option maxHeartbeats 4000000
/-! {(..): v}; lambdas asked. -/
namespace K24
open PySem PySem.Spec PyProof.Rows L2 Evl LamX
/-- {k: v}, k a tuple; the new dict stands empty while both are made -/
def tDispT1 (tk tv : TE) : TE := fun σ H Q => ∀ p, H p = none → tk σ (upd H p (.dT [])) fun x H1 => tv σ H1 fun y H2 => ∃ (b : Addr) (ks : List Key), x = .ref b ∧ H2 b = some (.tup (ks.map kV)) ∧ H2 p = some (.dT []) ∧ Q (.ref p) (upd H2 p (.dT [(ks, y)]))
theorem pe_dispT1 {X : Cx} {k v : Expr} {pos : Pos} {tk tv : TE} (hu : X.A.units + 1 < cLine) (hk : PE X k tk) (hv : PE X v tv) : PE X (.Dict [some k] [v] pos) (tDispT1 tk tv) := by
  refine ⟨fun pins s σ H Q I q => ?_⟩
  have hn := I.hok.fresh (Nat.le_refl s.heap.objs.size)
  have I1 := I.laid (a := s.heap.objs.size) (o := .dT []) (h' := s.heap.push { cls := .type "dict", data := .dict #[] }) (t' := s.toks) (fun _ _ q => Heap.get?_push_of_some _ q) (Nat.le_refl _) (dt_empty s.heap I.big)
  rw [arm_eval_Dict, zip_pairTrees [some k] [v] X.env pos rfl rfl, dictDisplay_pairs (pairTrees [some k] [v] X.env pos) (by intro z; cases z) (by show 1 < 17; decide)]
  refine wpAny_bind (wpAny_standAt (wpAny_bind ?_))
  unfold subDict
  refine wpAny_bind (wpAny_alloc ?_)
  refine wpAny_bind (wpAny_holding ?_)
  rw [if_pos (show (pairTrees [some k] [v] X.env pos).length ≤ 15 by show 1 ≤ 15; decide)]
  refine wpAny_bind (pairTrees_cons_walk (thn (hk.run pins _ σ _ _ I1 (q _ hn)) fun u s1 ⟨x, H1, J1, rx, q1⟩ => thn (hv.run pins s1 σ H1 _ J1 q1) fun w2 s2 ⟨y, H2, J2, ry, b, ks, ex, eb, ep, q2⟩ => pairTrees_nil_walk ?_))
  subst ex
  obtain rfl : u = Value.ref b := rx
  refine wpAny_holding ?_
  obtain ⟨z, hd, xs, rel, dd⟩ := dt_of J2.hok ep
  cases rel
  refine wpAny_bind ?_
  rw [List.forIn_cons]
  refine wpAny_bind (wpAny_bind (wpAny_dictSet_heap (hsz := Nat.zero_le _) (show (tupleKind (mixKind X.prog X.w)).room X.A from (by show X.A.units < cLine; omega)) (key_of J2.hok eb) dd fun h' dd' hs => wpAny_pure ?_))
  dsimp only
  rw [List.forIn_nil]
  refine wpAny_pure (wpAny_pure (wpAny_pure (wpAny_pure ?_)))
  obtain ⟨o, es, epo, hq, h2, h3, h4, _, h5⟩ := dd'
  refine ⟨.ref s.heap.objs.size, _, d_write J2 (by rw [ep]; exact True.intro) hs ⟨o, hq⟩ (ob := .dT [(ks, y)]) ⟨by show 1 ≤ sizeLine; rw [sizeLine_eq]; omega, hd, _, .cons ⟨rfl, ?_, ry⟩ .nil, o, es, epo, hq, h2, h3, h4, h5⟩, rfl, q2⟩
  rw [upd_ne (ne_of eb ep (fun z => nomatch z))]
  exact eb
end K24

set_option Elab.async false
set_option linter.all false
set_option maxRecDepth 100000
set_option maxHeartbeats 4000000
/-! What is refused: lambdas asked, pairs told. -/
namespace K24
open PySem PySem.Spec PyProof.Rows L2 Evl LamX
def tabT (K : PySem.W.Frag) : List (Addr × Str) := tf.map fun p => ((He.cT K p).2, (p.1 ++ ("." : Str) ++ ("<locals>." : Str)) ++ ("<lambda>" : Str))
/-- the table of the def that makes lambdas -/
structure TabF (K : PySem.W.Frag) (mg : Str → Option Value) (base : Heap) : Prop where
  tb : ∀ p ∈ tf, TabB base mg (He.cT K p).1 (He.cT K p).2
theorem cod_lst {c : Addr} {q : Str} {xs : List V} : CodeO c q ≠ .lst xs := fun z => by
  unfold CodeO at z
  cases z
theorem cod_dk {c : Addr} {q : Str} {xs : List (Key × V)} : CodeO c q ≠ .dK xs := fun z => by
  unfold CodeO at z
  cases z
theorem tabs_but {T : List (Addr × Str)} {H G : Hp} {p q : Addr} {n : Int} (h : Tabs T H) (B : But p q H G) (S : Spr H p q n) : Tabs T G := fun z hz => by
  obtain ⟨xs, ys, hp, hq⟩ := S.lst
  obtain ⟨ps, y1, y2, y3⟩ := h z hz
  refine ⟨ps, ?_, y2, fun pos cv hc => ?_⟩
  · exact B _ _ (fun e => by rw [e, hp] at y1; cases y1) (fun e => by rw [e, hq] at y1; cases y1) y1
  · obtain ⟨c, c1, c2⟩ := y3 pos cv hc
    exact ⟨c, c1, B _ _ (fun e => by rw [e, hp] at c2; exact absurd (Option.some.inj c2).symm cod_lst) (fun e => by rw [e, hq] at c2; exact absurd (Option.some.inj c2).symm cod_lst) c2⟩
theorem tabs_put {T : List (Addr × Str)} {G : Hp} {p : Addr} {L L' : List V} (h : Tabs T G) (gp : G p = some (.lst L)) : Tabs T (upd G p (.lst L')) := fun z hz => by
  obtain ⟨ps, y1, y2, y3⟩ := h z hz
  refine ⟨ps, ?_, y2, fun pos cv hc => ?_⟩
  · rw [upd_ne fun q => by rw [q, gp] at y1; cases y1]
    exact y1
  · obtain ⟨c, c1, c2⟩ := y3 pos cv hc
    refine ⟨c, c1, ?_⟩
    rw [upd_ne fun q => by rw [q, gp] at c2; exact absurd (Option.some.inj c2).symm cod_lst]
    exact c2
section
variable {X : Cx}
/-- _law_d_met(lambda: ..) -/
theorem pe_met {c Pt : Addr} {k : Nat} {params : Arguments} {body : Expr} {scope : Scope} {t : XK → TE} {p lpos pos : Pos} (T : T24 X.prog X.w X.K X.mg X.base) (hg : Gl X "_law_d_met") (TB : TabB X.base X.mg c Pt) (hcode : X.env.code = .ref c)
    (hm : (Pt, X.env.qual ++ "<lambda>") ∈ tabT X.K) (hr : Room (k + 2) X.A) (L : LamS X.env.scope scope) (hdef : defaultsOf params X.env = ([], []))
    (hbind : ∀ (q : Str) (cl : List (Str × Addr)) (pm cv ctv : Value), bindArgs (PySem.W.kla_fn "<lambda>" q params body scope cl pm cv ctv) ⟨[], []⟩ = pure [])
    (hbody : ∀ (A : Around) (outer : List Env) (s : Shared) (H : Hp) (E : XK) (f c' : Addr), Room k (A.deeper (lamEnv X scope s.heap.objs.size f c')) → PE (lamCx X A outer s H E scope f c') body (t E)) :
    PE X (.Call (.Name "_law_d_met" p) [.Lambda params body scope lpos] [] pos) (tLam (tabT X.K) (TTmet X.K) t) := by
  obtain ⟨⟨fd, F⟩, m⟩ := T.df 36 "_law_d_met" s__law_d_met rfl
  have hb := F.bindsN (ps := ["_law_ask"]) fun kV doc pm an cdv ct us hl => match us, hl with | [_], _ => rfl
  obtain ⟨oc, od, dV, kV, doc, pm, an, cdv, ct, osl, rfl, lk, hcd, _, _⟩ := F.ex
  have hu : ∀ p ∈ tabT X.K, p.1 = Pt → p.2 = X.env.qual ++ "<lambda>" := fun p hp e => by
    have h1 : tabT X.K = [((He.cT X.K ("_law_refused_right", none)).2, ("_law_refused_right.<locals>.<lambda>" : Str))] := rfl
    rw [h1] at hp hm
    obtain rfl := List.mem_singleton.mp hp
    exact ((Prod.mk.inj (List.mem_singleton.mp hm)).2).symm
  exact pe_lamcall hg m F.kp lk hcd hb sc_me rfl (.inl rfl) (met_gives T) TB hcode hm hu hr L hdef hbind hbody
end
def BadAs (x s : Str) : Prop := (x = "BadWord" ∧ s = "word") ∨ (x = "BadPlace" ∧ s = "place") ∨ (x = "BadSubstitution" ∧ s = "put")
theorem bad_word : BadAs "BadWord" "word" := .inl ⟨rfl, rfl⟩
theorem bad_put : BadAs "BadSubstitution" "put" := .inr (.inr ⟨rfl, rfl⟩)
/-- what is asked meets x's error of v -/
theorem lam_bad {T : List (Addr × Str)} {K : PySem.W.Frag} {t : XK → TE} {σ : L2.St} {H : Hp} {Q : VK} {x : Str} {s : Str} {v : V} (hx : BadAs x s) (hT : Tabs T H)
    (ht : ∀ (H1 : Hp) (E : XK) (Q' : VK), ExtN H H1 → Bad K x v H1 E → t E σ H1 Q')
    (k : ∀ (a : Addr) (G : Hp), ExtN H G → Tabs T G → G a = some (.tup [.str s, v]) → Q (.ref a) G) : tLam T (TTmet K) t σ H Q := by
  refine ⟨hT, fun H1 e1 T1 => ht H1 _ _ e1 fun d G e hd => ?_⟩
  have fin : Pr s v G Q := ⟨by show 2 ≤ sizeLine; rw [sizeLine_eq]; omega, fun a ha => by
    have x2 : Ex G (upd G a (.tup [.str s, v])) := Ex.new ha
    exact k a _ ((e1.trans (ExtN.of e)).trans (ExtN.of x2)) ((T1.ext e).ext x2) upd_same⟩
  rcases hx with ⟨rfl, rfl⟩ | ⟨rfl, rfl⟩ | ⟨rfl, rfl⟩
  · exact .inl ⟨rfl, d, v, rfl, hd, fin⟩
  · exact .inr (.inl ⟨rfl, d, v, rfl, hd, fin⟩)
  · exact .inr (.inr ⟨rfl, d, v, rfl, hd, fin⟩)
mutual
theorem OV.hxn {H : Hp} : ∀ {o : O} {v : V}, OV H v o → OV (Hx (fun _ => False) H) v o
  | .non, _, h => h
  | .bl _, _, h => h
  | .int _, _, h => h
  | .str _, _, h => h
  | .dct, _, ⟨a, h1, h2⟩ => ⟨a, h1, hx_of (fun z => z) (fun _ z => nomatch z) h2⟩
  | .lst _, _, ⟨a, vs, h1, h2, h3⟩ => ⟨a, vs, h1, hx_of (fun z => z) lst_tbl h2, OVs.hxn h3⟩
  | .tup _, _, ⟨a, vs, h1, h2, h3⟩ => ⟨a, vs, h1, hx_of (fun z => z) tup_tbl h2, OVs.hxn h3⟩
theorem OVs.hxn {H : Hp} : ∀ {os : List O} {vs : List V}, OVs H vs os → OVs (Hx (fun _ => False) H) vs os
  | [], _, h => h
  | _ :: _, _, ⟨v, us, h1, h2, h3⟩ => ⟨v, us, h1, OV.hxn h2, OVs.hxn h3⟩
end
theorem OV.extN {H G : Hp} {v : V} {o : O} (h : OV H v o) (e : ExtN H G) : OV G v o := (h.hxn.ext (Go.ofN e).ex).ext hx_ex
theorem OVs.extN {H G : Hp} {vs : List V} {os : List O} (h : OVs H vs os) (e : ExtN H G) : OVs G vs os := (h.hxn.ext (Go.ofN e).ex).ext hx_ex
/-- nothing stands there but perhaps a table -/
def NT (H : Hp) (a : Addr) : Prop := ∀ o, (∀ ps, o ≠ .tbl ps) → H a ≠ some o
theorem go_extN {G J J' : Hp} {Dl : Addr} (e : ExtN G J) (g : Go (fun b => b = Dl) J J') (n : NT G Dl) : ExtN G J' := fun b o h t => g b o (fun z => n o t (by rw [← z]; exact h)) t (e b o h t)
/-- the same as itself -/
def Self (H : Hp) (x : V) : Prop := SmO H x x ∨ Sm H 1 x x
/-- the pairs (s, x) -/
def Prs (s : Str) (G : Hp) (x : V) (acc : List V) (n : Nat) : Prop := acc.length = n ∧ ∀ a ∈ acc, ∃ t, a = .ref t ∧ G t = some (.tup [.str s, x])
theorem Prs.extN {s : Str} {G G' : Hp} {x : V} {acc : List V} {n : Nat} (h : Prs s G x acc n) (e : ExtN G G') : Prs s G' x acc n := ⟨h.1, fun a ha => by
  obtain ⟨t, h1, h2⟩ := h.2 a ha
  exact ⟨t, h1, e _ _ h2 tup_tbl⟩⟩
theorem Prs.tx {s : Str} {G G' : Hp} {x : V} {acc : List V} {n : Nat} (h : Prs s G x acc n) (e : Tx G G') : Prs s G' x acc n := ⟨h.1, fun a ha => by
  obtain ⟨t, h1, h2⟩ := h.2 a ha
  exact ⟨t, h1, e _ _ h2⟩⟩
theorem Prs.snoc {s : Str} {G : Hp} {x : V} {acc : List V} {n : Nat} {t : Addr} (h : Prs s G x acc n) (e : G t = some (.tup [.str s, x])) : Prs s G x (acc ++ [.ref t]) (n + 1) := ⟨by simp [h.1], fun a ha => by
  rcases List.mem_append.mp ha with ha | ha
  · exact h.2 a ha
  · exact ⟨t, by simpa using ha, e⟩⟩
theorem sm_prs {s : Str} {G : Hp} {a b : Addr} {x : V} {acc acc2 : List V} {n : Nat} (ha : G a = some (.lst acc)) (hb : G b = some (.lst acc2)) (h1 : Prs s G x acc n) (h2 : Prs s G x acc2 n) (hn : n ≤ 1000) (hx : Self G x) : Sm G 3 (.ref a) (.ref b) := by
  refine .inr (.inr ⟨true, a, b, acc, acc2, rfl, rfl, ha, hb, by rw [h1.1, h2.1], by rw [h1.1]; exact hn, fun i y z hy hz => .inr ?_⟩)
  obtain ⟨t, rfl, ht⟩ := h1.2 y (List.mem_of_getElem? hy)
  obtain ⟨u, rfl, hu⟩ := h2.2 z (List.mem_of_getElem? hz)
  refine .inr (.inr ⟨false, t, u, _, _, rfl, rfl, ht, hu, rfl, by show 2 ≤ 1000; decide, fun j v w hv hw => ?_⟩)
  rw [hv] at hw
  obtain rfl := Option.some.inj hw
  match j, hv with
  | 0, hv =>
    obtain rfl : V.str s = v := by simpa using hv
    exact .inl ⟨.str s, rfl, rfl, by show 0 < 9; decide, by show 1 ≤ 40000; decide⟩
  | 1, hv =>
    obtain rfl : x = v := by simpa using hv
    exact hx
theorem flat_rep (n : Nat) (x : V) : (List.replicate n [x]).flatten = List.replicate n x := by
  induction n with
  | zero => rfl
  | succ n ih => rw [List.replicate_succ, List.flatten_cons, ih]; rfl
section
variable {K : PySem.W.Frag} {σ : L2.St} {H : Hp}
/-- [("..", x)] * n -/
theorem evlp_rep {i n : Nat} {v : V} {s : Str} (h : σ[i]? = some (some v)) (hn : n ≤ 100) : EvLP (tOp rRep (tLst (tCons (tTup (tCons (tC (.str s)) (tCons (tVar i) tNil))) tNil)) (tC (.int (n : Nat)))) σ H (fun xs G => Prs s G v xs n) := fun H1 e Q q =>
  ⟨v, h, by show 2 ≤ sizeLine; rw [sizeLine_eq]; omega, fun t ht => ⟨by show 1 ≤ sizeLine; rw [sizeLine_eq]; omega, fun l hl => ⟨l, (n : Nat), [.ref t], rfl, rfl, upd_same, by omega, by omega, sz_of (by simp; omega), fun p hp => by
    have x1 : Ex H1 (upd H1 t (.tup [.str s, v])) := Ex.new ht
    have x2 := (Ex.new (H := upd H1 t (.tup [.str s, v])) (o := .lst [.ref t]) hl)
    have x3 := (Ex.new (H := upd (upd H1 t (.tup [.str s, v])) l (.lst [.ref t])) (o := .lst (List.replicate ((n : Nat) : Int).toNat [V.ref t]).flatten) hp)
    have x23 := x2.trans x3
    have e1 : (List.replicate ((n : Nat) : Int).toNat [V.ref t]).flatten = List.replicate n (V.ref t) := flat_rep n _
    rw [e1] at x3 x23 ⊢
    exact q p _ _ (fresh_back (x1.trans x2) hp) (x1.trans x23) upd_same ⟨by simp, fun a ha => ⟨t, List.eq_of_mem_replicate ha, x23 _ _ upd_same⟩⟩⟩⟩⟩
abbrev tMet (K : PySem.W.Frag) (t : XK → TE) : TE := tLam (tabT K) (TTmet K) t
/-- found.append(_law_d_met(lambda: ..)) -/
theorem s_applam {J : Hp} {D : Ends} {tk : XK → TE} {x : V} {y s : Str} {acc : List V} {n : Nat} {Dl : Addr} (hb : BadAs y s) (h6 : σ[1]? = some (some (.ref Dl))) (hD : J Dl = some (.lst acc)) (hP : Prs s J x acc n) (hn : n ≤ 50) (hT : Tabs (tabT K) J)
    (ht : ∀ (H1 : Hp) (E : XK) (Q' : VK), ExtN J H1 → Bad K y x H1 E → tk E σ H1 Q')
    (k : ∀ (J' : Hp) (acc' : List V), Go (fun b => b = Dl) J J' → Tabs (tabT K) J' → J' Dl = some (.lst acc') → Prs s J' x acc' (n + 1) → D.nx σ J') : tDrop (tBM K "list" rAppend (tVar 1) (tCons (tMet K tk) tNil)) D σ J := by
  refine ⟨.ref Dl, h6, .inl ⟨rfl, _, sq_of hD⟩, ?_⟩
  refine lam_bad hb hT ht fun ta G2 e2 T2 h2 => ?_
  have hD2 : G2 Dl = some (.lst acc) := e2 _ _ hD lst_tbl
  have hl := hP.1
  refine ⟨Dl, acc, .ref ta, rfl, rfl, hD2, sz_lt (by omega), ?_⟩
  have tx : Tx G2 (upd G2 Dl (.lst (acc ++ [.ref ta]))) := Tx.lst hD2
  exact k _ _ ((Go.ofN e2).trans (Go.upd rfl)) (tabs_put T2 hD2) upd_same ((hP.extN e2).snoc h2 |>.tx tx)
theorem q_applam {J : Hp} {D : Ends} {tz : TS} {tk : XK → TE} {x : V} {y s : Str} {acc : List V} {n : Nat} {Dl : Addr} (hb : BadAs y s) (h6 : σ[1]? = some (some (.ref Dl))) (hD : J Dl = some (.lst acc)) (hP : Prs s J x acc n) (hn : n ≤ 50) (hT : Tabs (tabT K) J)
    (ht : ∀ (H1 : Hp) (E : XK) (Q' : VK), ExtN J H1 → Bad K y x H1 E → tk E σ H1 Q')
    (k : ∀ (J' : Hp) (acc' : List V), Go (fun b => b = Dl) J J' → Tabs (tabT K) J' → J' Dl = some (.lst acc') → Prs s J' x acc' (n + 1) → tz D σ J') : tSeq (tDrop (tBM K "list" rAppend (tVar 1) (tCons (tMet K tk) tNil))) tz D σ J :=
  s_applam (D := { D with nx := tz D }) hb h6 hD hP hn hT ht k
/-- found = [_law_d_met(lambda: ..)] -/
theorem q_foundlam {J : Hp} {D : Ends} {tz : TS} {tk : XK → TE} {x : V} {y s : Str} (hb : BadAs y s) (hT : Tabs (tabT K) J)
    (ht : ∀ (H1 : Hp) (E : XK) (Q' : VK), ExtN J H1 → Bad K y x H1 E → tk E σ H1 Q')
    (k : ∀ (J' : Hp) (Dl : Addr) (acc : List V), NT J Dl → ExtN J J' → Tabs (tabT K) J' → J' Dl = some (.lst acc) → Prs s J' x acc 1 → tz D (σ.set 1 (some (.ref Dl))) J') : tSeq (tAsg (tLst (tCons (tMet K tk) tNil)) (gName 1)) tz D σ J := by
  refine lam_bad hb hT ht fun ta G2 e2 T2 h2 => ?_
  refine ⟨by show 1 ≤ sizeLine; rw [sizeLine_eq]; omega, fun l nl => ?_⟩
  have x3 : Ex G2 (upd G2 l (.lst [.ref ta])) := Ex.new nl
  exact k _ l _ (fun o ho z => by
    have := e2 _ _ z ho
    rw [nl] at this
    cases this) (e2.trans (ExtN.of x3)) (T2.ext x3) upd_same ⟨rfl, fun a ha => ⟨ta, by simpa using ha, x3 _ _ h2⟩⟩
end
end K24

set_option Elab.async false
set_option linter.all false
set_option maxRecDepth 100000
set_option maxHeartbeats 4000000
/-! _law_refused_right: what is no word; what is no substitution. -/
namespace K24
open PySem PySem.Spec PyProof.Rows L2 Evl LamX
/-- a call of the def that a name holds, its errors told -/
def tCallLS (i : Nat) (f : Addr) (sp : Sp) (E : L2.St → XK) (t : TA) : TE := fun σ H Q => σ[i]? = some (some (.ref f)) ∧ t σ H fun vs H1 => sp vs H1 Q (E σ)
section
variable {X : Cx} {CX : CXT} {k i : Nat} {f : Addr} {fd : FuncData} {ps : List Str} {sp : Sp} {E : L2.St → XK} {x : Str} {p pos : Pos} {e : Expr} {es : List Expr} {t : TA}
theorem pe_callLS (F : FnOk X.prog X.w X.K X.mg X.base CX k f fd ps sp) (hr : Room k X.A) (hN : X.N[i]? = some x) (hv : Vis X.env.scope x) (hk : PySem.W.keepIn X.K (.ref f) = true) (hb : Binds X.K fd ps []) (hx : ∀ σ, PassesAt CX X σ (E σ)) (ha : PA X (e :: es) t)
    (hdb : (x == ("__debug__" : Str)) = false := by decide) (hcd : (x == ("__classdict__" : Str)) = false := by decide)
    (he : starEach (e :: es) X.env = (false, eval e X.env) :: starEach es X.env := by rfl) (hpl : (backTo pos (starEach es X.env)).any (·.1) = false := by rfl) : PE X (.Call (.Name x p) (e :: es) [] pos) (tCallLS i f sp E t) := by
  refine ⟨fun pins s σ H Q I h => ?_⟩
  obtain ⟨hs, ht⟩ := h
  refine wpAny_Call_Name_kw (thn ((pe_var (pos := p) hN hv hdb hcd).run pins s σ H (fun v H1 => v = .ref f ∧ H1 = H) I ⟨.ref f, hs, rfl, rfl⟩) fun u s1 ⟨v, H1, I1, r1, q1⟩ => ?_)
  obtain ⟨rfl, rfl⟩ := q1
  cases r1
  refine PySem.W.callWith_K (h₀ := X.base) I.ok.mod.kin hk (thn (ha.run pos pins s1 σ _ _ I1 ht) fun us s2 ⟨vs, H2, I2, r, q⟩ => ⟨I2.kIn, ?_⟩) he hpl
  exact run_fnS F hr hb (hx σ) I2 r q
end
abbrev WEe (E : XK) : L2.St → XK := fun σ => WE (fun cls d _ H => E cls d H) σ
abbrev tA0 (K : PySem.W.Frag) : XK → TE := fun E => tCallS (spPut K) (WEe E) (tCons (tVar 0) (tCons (tC .non) tNil))
def tA1 (K : PySem.W.Frag) (fM fF : Addr) : XK → TE := fun E σ H Q => tCallLS 2 fM (spMt K kMatch) (WEe E) (tCons (tVar 0) (tCons (tC .non) tNil)) σ H Q ∨ tCallLS 2 fF (spMt K kFault) (WEe E) (tCons (tVar 0) (tCons (tC .non) tNil)) σ H Q
def tA2 (K : PySem.W.Frag) (fM fF : Addr) : XK → TE := fun E σ H Q => tCallLS 2 fM (spMt K kMatch) (WEe E) (tCons (tC (.str "X")) (tCons (tVar 0) tNil)) σ H Q ∨ tCallLS 2 fF (spMt K kFault) (WEe E) (tCons (tC (.str "X")) (tCons (tVar 0) tNil)) σ H Q
abbrev tB0 (K : PySem.W.Frag) : XK → TE := fun E => tCallS (spPut K) (WEe E) (tCons (tC (.str "X")) (tCons (tVar 0) tNil))
abbrev tB1 (K : PySem.W.Frag) : XK → TE := fun E => tCallS (spBh K) (WEe E) (tCons (tVar 0) (tCons (tC .non) tNil))
abbrev tB2 (K : PySem.W.Frag) : XK → TE := fun E => tCallS (spBh K) (WEe E) (tCons tDNewK (tCons (tVar 0) tNil))
abbrev nRf : List Str := ["_law_odd", "_law_found", "_law_ask", "_law_odds", "_law_held", "_law_word", "_law_name"]
theorem sc_rf : FnScope nRf [] (defScope s__law_refused_right) := ⟨rfl, rfl, rfl, by decide +kernel, rfl, by decide +kernel, by decide +kernel⟩
abbrev XR (P : Program) (w : World) (K : PySem.W.Frag) (mg : Str → Option Value) (base : Heap) (f c : Addr) (A : Around) (outer : List Env) (s : Shared) (H : Hp) : Cx := (cxOf CX0 P w K mg base nRf "_law_refused_right" (defScope s__law_refused_right) f (.ref c) A outer s H E0).nox
def stR (i : Nat) : Stmt := (defBody s__law_refused_right).getD i (.Pass ⟨0, 0, 0, 0⟩)
theorem odds_small : odds.all (fun o => decide (o.dq ≤ 3) && decide (o.sz ≤ 100)) = true := by decide +kernel
theorem lwX (J : Hp) : Lw J (.str "X") (.v "X") := ⟨⟨.str "X", ⟨rfl, by decide +kernel, by decide, rfl⟩, by decide +kernel, rfl⟩, by decide⟩
/-- a thing that is no substitution -/
inductive Od2 (H : Hp) (x : V) : Prop
  | o {o : O} : OV H x o → o.isDct = false → o.dq < 9 → o.sz ≤ 40000 → Od2 H x
  | dk {d : Addr} {ks : List (Key × O)} : x = .ref d → DD H d ks → ks.all okP = true → subB ks = false → O.dqs (ks.map (·.2)) < 7 → O.szs (ks.map (·.2)) + 2 * ks.length ≤ 30000 → Od2 H x
  | dt {d b : Addr} {ks : List Key} {v : Str} : x = .ref d → H d = some (.dT [(ks, .str v)]) → H b = some (.tup (ks.map kV)) → ks.length ≤ 10 → Od2 H x
theorem Od2.extN {H G : Hp} {x : V} (h : Od2 H x) (e : ExtN H G) : Od2 G x := by
  cases h with
  | o h1 h2 h3 h4 => exact .o (h1.extN e) h2 h3 h4
  | dk h1 h2 h3 h4 h5 h6 =>
    obtain ⟨kvs, a, b, c⟩ := h2.ex
    exact .dk h1 ⟨⟨kvs, e _ _ a (fun _ z => nomatch z), b, c.extN e⟩, h2.nd⟩ h3 h4 h5 h6
  | dt h1 h2 h3 h4 => exact .dt h1 (e _ _ h2 (fun _ z => nomatch z)) (e _ _ h3 tup_tbl) h4
theorem Od2.noS {H : Hp} {x : V} (h : Od2 H x) : NoS H x := by
  cases h with
  | o h1 h2 h3 h4 => exact .inr (.inl ⟨_, h1, h2⟩)
  | dk h1 h2 h3 h4 h5 h6 => exact .inl ⟨_, _, h1, h2, h3, h4⟩
  | dt h1 h2 h3 h4 => exact .inr (.inr ⟨_, _, h1, h2, (fun z => nomatch z), fun p hp => by
      obtain rfl := List.mem_singleton.mp hp
      exact ⟨_, h3⟩⟩)
theorem Od2.self {H : Hp} {x : V} (h : Od2 H x) : Self H x := by
  cases h with
  | o h1 h2 h3 h4 => exact .inl ⟨_, h1, h1, h3, h4⟩
  | @dk d ks h1 h2 h3 h4 h5 h6 =>
    obtain ⟨kvs, a, b, c⟩ := h2.ex
    exact .inr (.inl ⟨d, d, kvs, kvs, _, h1, h1, a, a, rfl, c, c, h5, by rw [List.length_map]; exact h6⟩)
  | @dt d b ks v h1 h2 h3 h4 =>
    have hv : OVs H [.str v] [.str v] := .cons rfl .nil
    exact .inr (.inr (.inl ⟨d, d, _, _, [.str v], h1, h1, h2, h2, rfl, hv, hv, by show 0 < 6; decide, by show 1 + 2 * 1 + (ks.length + 1 + 0) ≤ 30000; omega⟩))
section
variable {P : Program} {w : World} {K : PySem.W.Frag} {mg : Str → Option Value} {base : Heap} {f c : Addr} {A : Around} {outer : List Env} {s : Shared} {HX : Hp}
theorem rb0 (T : T24 P w K mg base) (t2 : TabF K mg base) (hc : He.codeOf K ("_law_refused_right", none) = c) (hr : Room 45 (XR P w K mg base f c A outer s HX).A) : ∃ t, PS (XR P w K mg base f c A outer s HX) (stR 0) t ∧
    ∀ (D : Ends) (G : Hp) (c0 c1 c2 c3 c4 c5 c6 : Option V), Tabs (tabT K) G →
      (∀ G' c0' c1' c2', Tabs (tabT K) G' → D.nx [c0', c1', c2', c3, c4, c5, c6] G') →
      t D [c0, c1, c2, c3, c4, c5, c6] G := by
  obtain ⟨fS, dS, GS, bS, kS, mS⟩ := (ok_sameX T 3).ex
  obtain ⟨fO, dO, GO, bO, kO, mO⟩ := (ok_odd T).ex
  obtain ⟨fP, dP, GP, bP, kP, mP⟩ := (ok_put T).ex
  obtain ⟨fM, dM, GM, bM, kM, mM⟩ := (ok_match T).ex
  obtain ⟨fF, dF, GF, bF, kF, mF⟩ := (ok_match_fault T).ex
  have tb := t2.tb ("_law_refused_right", none) (List.mem_of_getElem? (i := 0) rfl)
  have ecd : (He.cT K ("_law_refused_right", none)).1 = c := hc
  rw [ecd] at tb
  have hm : ((He.cT K ("_law_refused_right", none)).2, ("_law_refused_right.<locals>.<lambda>" : Str)) ∈ tabT K := List.mem_of_getElem? (i := 0) (by rfl)
  refine ⟨_, ps_for PassesOwn.never rfl (pi_list (pe_call0 GO (hr.mono (by decide)) (by rfl) mO kO bO .nil pass0)) (pg_name (i := 0) sc_rf.nd rfl (Or.inr rfl))
    (pss_cons (ps_set (i := 1) sc_rf.nd rfl (by first | exact Or.inl rfl | exact Or.inr rfl) (pe_lst (pa_cons (pe_met (k := 35) (t := tA0 K) T (by rfl) tb rfl hm (hr.mono (by decide)) (lamS_by (sc := defScope s__law_refused_right) (by decide +kernel)) rfl (fun _ _ _ _ _ => rfl)
        (fun A outer s H E f c' hr2 => pe_callS (sp := spPut K) GP (hr2.mono (by decide)) (by rfl) mP kP bP (fun σ => passAt (takes_of rfl rfl rfl rfl) σ) (pa_cons (pv 0) (pa_cons pe_non pa_nil)))) pa_nil)))
    (pss_cons (ps_for PassesOwn.never rfl (pi_tup (pe_tup (pa_cons (pe_glob (v := .ref fM) (by rfl) mM rfl) (pa_cons (pe_glob (v := .ref fF) (by rfl) mF rfl) pa_nil)))) (pg_name (i := 2) sc_rf.nd rfl (Or.inr rfl))
      (pss_cons (ps_expr (pe_bm PySem.F.plainAttrs_list PySem.F.slot_list_append PySem.F.type_list_append mt_append (pv 1) (pa_cons (pe_met (k := 35) (t := tA1 K fM fF) T (by rfl) tb rfl hm (hr.mono (by decide)) (lamS_by (sc := defScope s__law_refused_right) (by decide +kernel)) rfl (fun _ _ _ _ _ => rfl)
          (fun A outer s H E f c' hr2 => pe_or2 (pe_callLS GM (hr2.mono (by decide)) rfl (.inr (.inr rfl)) kM bM (fun σ => passAt (takes_of rfl rfl rfl rfl) σ) (pa_cons (pv 0) (pa_cons pe_non pa_nil))) (pe_callLS GF (hr2.mono (by decide)) rfl (.inr (.inr rfl)) kF bF (fun σ => passAt (takes_of rfl rfl rfl rfl) σ) (pa_cons (pv 0) (pa_cons pe_non pa_nil))))) pa_nil)))
      (pss_one (ps_expr (pe_bm PySem.F.plainAttrs_list PySem.F.slot_list_append PySem.F.type_list_append mt_append (pv 1) (pa_cons (pe_met (k := 35) (t := tA2 K fM fF) T (by rfl) tb rfl hm (hr.mono (by decide)) (lamS_by (sc := defScope s__law_refused_right) (by decide +kernel)) rfl (fun _ _ _ _ _ => rfl)
          (fun A outer s H E f c' hr2 => pe_or2 (pe_callLS GM (hr2.mono (by decide)) rfl (.inr (.inr rfl)) kM bM (fun σ => passAt (takes_of rfl rfl rfl rfl) σ) (pa_cons pe_str (pa_cons (pv 0) pa_nil))) (pe_callLS GF (hr2.mono (by decide)) rfl (.inr (.inr rfl)) kF bF (fun σ => passAt (takes_of rfl rfl rfl rfl) σ) (pa_cons pe_str (pa_cons (pv 0) pa_nil))))) pa_nil))))))
    (pss_one (ps_if (pt_not (pt_val (pe_call GS (hr.mono (by decide)) (by rfl) mS kS bS .nil pass0 (pa_cons (pv 1) (pa_cons (pe_op op_rep (pe_lst (pa_cons (pe_tup (pa_cons pe_str (pa_cons (pv 0) pa_nil))) pa_nil)) pe_int) pa_nil))))) (pss_one ps_never) pss_nil)))), ?_⟩
  intro D G c0 c1 c2 c3 c4 c5 c6 hT k
  refine ⟨rfl, fun lp xs G1 np e1 h1 hov => ?_⟩
  have hodds := List.all_eq_true.mp odds_odd
  have hsmall := List.all_eq_true.mp odds_small
  have hov1 := hov.ext hx_ex
  refine ⟨lp, rfl, ⟨_, sq_of h1⟩, for_list (xs := xs) (fun i σ' G' => (∃ c0' c1' c2', σ' = [c0', c1', c2', c3, c4, c5, c6]) ∧ Tabs (tabT K) G' ∧ ExtN G1 G') ⟨⟨_, _, _, rfl⟩, hT.ext e1, ExtN.refl _⟩ ?_ ?_ ?_⟩
  · rintro i σ' G' hi ⟨_, _, e⟩
    exact sq_of (e _ _ h1 lst_tbl)
  · rintro i x σ' G' hi ⟨⟨c0', c1', c2', rfl⟩, T', eN⟩
    obtain ⟨o, ho, hxo⟩ := (hov1.extN eN).get hi
    have hom := List.mem_of_getElem? ho
    have hs1 := hsmall o hom
    rw [Bool.and_eq_true] at hs1
    have hq := of_decide_eq_true hs1.1
    have hz := of_decide_eq_true hs1.2
    have noW : ∀ J, ExtN G' J → NoW J x := fun J e => oddB_no (hodds o hom) (hxo.extN e)
    unfold gName
    dsimp only
    refine q_foundlam (x := x) bad_word T' (fun H1 E Q' e hbad => ⟨x, rfl, x, .non, rfl, .inl ⟨noW H1 e, hbad⟩⟩) fun G2 Dl acc nDl e2 T2 hDl hP => ?_
    have nDl' : NT G' Dl := nDl
    refine q_forNT (xs := [.ref fM, .ref fF]) (eu_tup (ea_cons ev_c (ea_cons ev_c ea_nil)) (by show 2 ≤ 100000; decide)) (fun tt j σ' J => (∃ c2', σ' = [some x, some (.ref Dl), c2', c3, c4, c5, c6]) ∧ ExtN G' J ∧ J tt = some (.tup [.ref fM, .ref fF]) ∧ Tabs (tabT K) J ∧ ∃ acc, J Dl = some (.lst acc) ∧ Prs "word" J x acc (2 * j + 1)) (fun tt G3 ntt x3 h3 => ⟨⟨_, rfl⟩, e2.trans (ExtN.of x3), h3, T2.ext x3, acc, x3 _ _ hDl, hP.tx (Tx.of x3)⟩) (fun tt j σ' J _ c => st_of c.2.2.1) ?_ ?_
    · rintro tt j y σ' J hj ⟨⟨c2', rfl⟩, eJ, htt, TJ, acc, hacc, hPJ⟩
      have hjl := (List.getElem?_eq_some_iff.mp hj).1
      have hjl : j < 2 := hjl
      refine q_applam (x := x) (n := 2 * j + 1) bad_word rfl hacc hPJ (by omega) TJ (fun H3 E Q' e3' hbad => ?_) fun J2 acc2 g2 T2' hacc2 hP2 => ?_
      · have hno := noW H3 (eJ.trans e3')
        match j, hj with
        | 0, hj =>
          obtain rfl : V.ref fM = y := by simpa using hj
          exact .inl ⟨rfl, x, rfl, x, .non, rfl, .inl ⟨hno, hbad⟩⟩
        | 1, hj =>
          obtain rfl : V.ref fF = y := by simpa using hj
          exact .inr ⟨rfl, x, rfl, x, .non, rfl, .inl ⟨hno, hbad⟩⟩
      · have eJ2 := go_extN eJ g2 nDl'
        refine s_applam (x := x) (n := 2 * j + 2) bad_word rfl hacc2 hP2 (by omega) T2' (fun H3 E Q' e3' hbad => ?_) fun J3 acc3 g3 T3 hacc3 hP3 => ?_
        · have hno := noW H3 (eJ2.trans e3')
          match j, hj with
          | 0, hj =>
            obtain rfl : V.ref fM = y := by simpa using hj
            exact .inl ⟨rfl, x, rfl, .str "X", x, rfl, .inr ⟨.v "X", lwX _, .inl ⟨hno, hbad⟩⟩⟩
          | 1, hj =>
            obtain rfl : V.ref fF = y := by simpa using hj
            exact .inr ⟨rfl, x, rfl, .str "X", x, rfl, .inr ⟨.v "X", lwX _, .inl ⟨hno, hbad⟩⟩⟩
        · refine ⟨⟨_, rfl⟩, go_extN eJ2 g3 nDl', ?_, T3, acc3, hacc3, hP3⟩
          have ntD : tt ≠ Dl := fun z => by rw [z, hacc] at htt; cases htt
          exact g3 _ _ ntD tup_tbl (g2 _ _ ntD tup_tbl htt)
    · rintro tt σ' J ⟨⟨c2', rfl⟩, eJ, htt, TJ, acc, hacc, hPJ⟩
      have hxJ := hxo.extN eJ
      refine s_when (b := false) (et_not (a := true) (et_B fun H1 e1' Q q => ⟨.ref Dl, rfl, evlp_rep (i := 0) (n := 5) (s := "word") (v := x) rfl (by decide) H1 (Ex.refl _) _ fun p ys H2 np e2' hp hPr => ⟨.ref Dl, .ref p, rfl, sm_prs (e2' _ _ (e1' _ _ hacc)) hp (hPJ.tx (Tx.of (e1'.trans e2'))) hPr (by show 2 * 2 + 1 ≤ 1000; decide) (.inl ⟨o, hxJ.ext (e1'.trans e2'), hxJ.ext (e1'.trans e2'), by omega, by omega⟩), fun H3 e3 => q H3 (e2'.trans e3)⟩⟩)) (fun z => nomatch z) fun _ J2 eJ2 => ?_
      exact ⟨⟨_, _, _, rfl⟩, TJ.ext eJ2, (eN.trans eJ).trans (ExtN.of eJ2)⟩
  · rintro σ' G' ⟨⟨c0', c1', c2', rfl⟩, T', _⟩
    exact k G' c0' c1' c2' T'
theorem rb2 (T : T24 P w K mg base) (t2 : TabF K mg base) (hc : He.codeOf K ("_law_refused_right", none) = c) (hr : Room 45 (XR P w K mg base f c A outer s HX).A) : ∃ t, PS (XR P w K mg base f c A outer s HX) (stR 2) t ∧
    ∀ (D : Ends) (G : Hp) (c0 c1 c2 c4 c5 c6 : Option V) (lo : Addr) (xs : List V), Tabs (tabT K) G → G lo = some (.lst xs) → (∀ x ∈ xs, Od2 G x) →
      (∀ G' c0' c1' c2', D.nx [c0', c1', c2', some (.ref lo), c4, c5, c6] G') →
      t D [c0, c1, c2, some (.ref lo), c4, c5, c6] G := by
  obtain ⟨fS, dS, GS, bS, kS, mS⟩ := (ok_sameX T 3).ex
  obtain ⟨fP, dP, GP, bP, kP, mP⟩ := (ok_put T).ex
  obtain ⟨fB, dB, GB, bB, kB, mB⟩ := (ok_behind T).ex
  have tb := t2.tb ("_law_refused_right", none) (List.mem_of_getElem? (i := 0) rfl)
  have ecd : (He.cT K ("_law_refused_right", none)).1 = c := hc
  rw [ecd] at tb
  have hm : ((He.cT K ("_law_refused_right", none)).2, ("_law_refused_right.<locals>.<lambda>" : Str)) ∈ tabT K := List.mem_of_getElem? (i := 0) (by rfl)
  refine ⟨_, ps_for PassesOwn.never rfl (pi_list (pv 3)) (pg_name (i := 0) sc_rf.nd rfl (Or.inr rfl))
    (pss_cons (ps_set (i := 1) sc_rf.nd rfl (by first | exact Or.inl rfl | exact Or.inr rfl) (pe_lst (pa_cons (pe_met (k := 35) (t := tB0 K) T (by rfl) tb rfl hm (hr.mono (by decide)) (lamS_by (sc := defScope s__law_refused_right) (by decide +kernel)) rfl (fun _ _ _ _ _ => rfl)
        (fun A outer s H E f c' hr2 => pe_callS (sp := spPut K) GP (hr2.mono (by decide)) (by rfl) mP kP bP (fun σ => passAt (takes_of rfl rfl rfl rfl) σ) (pa_cons pe_str (pa_cons (pv 0) pa_nil)))) pa_nil)))
    (pss_cons (ps_expr (pe_bm PySem.F.plainAttrs_list PySem.F.slot_list_append PySem.F.type_list_append mt_append (pv 1) (pa_cons (pe_met (k := 35) (t := tB1 K) T (by rfl) tb rfl hm (hr.mono (by decide)) (lamS_by (sc := defScope s__law_refused_right) (by decide +kernel)) rfl (fun _ _ _ _ _ => rfl)
        (fun A outer s H E f c' hr2 => pe_callS (sp := spBh K) GB (hr2.mono (by decide)) (by rfl) mB kB bB (fun σ => passAt (takes_of rfl rfl rfl rfl) σ) (pa_cons (pv 0) (pa_cons pe_non pa_nil)))) pa_nil)))
    (pss_cons (ps_expr (pe_bm PySem.F.plainAttrs_list PySem.F.slot_list_append PySem.F.type_list_append mt_append (pv 1) (pa_cons (pe_met (k := 35) (t := tB2 K) T (by rfl) tb rfl hm (hr.mono (by decide)) (lamS_by (sc := defScope s__law_refused_right) (by decide +kernel)) rfl (fun _ _ _ _ _ => rfl)
        (fun A outer s H E f c' hr2 => pe_callS (sp := spBh K) GB (hr2.mono (by decide)) (by rfl) mB kB bB (fun σ => passAt (takes_of rfl rfl rfl rfl) σ) (pa_cons pe_dnewK (pa_cons (pv 0) pa_nil)))) pa_nil)))
    (pss_one (ps_if (pt_not (pt_val (pe_call GS (hr.mono (by decide)) (by rfl) mS kS bS .nil pass0 (pa_cons (pv 1) (pa_cons (pe_op op_rep (pe_lst (pa_cons (pe_tup (pa_cons pe_str (pa_cons (pv 0) pa_nil))) pa_nil)) pe_int) pa_nil))))) (pss_one ps_never) pss_nil))))), ?_⟩
  intro D G c0 c1 c2 c4 c5 c6 lo xs hT h1 hxs k
  refine ⟨.ref lo, rfl, lo, rfl, ⟨_, sq_of h1⟩, for_list (xs := xs) (fun i σ' G' => (∃ c0' c1' c2', σ' = [c0', c1', c2', some (.ref lo), c4, c5, c6]) ∧ Tabs (tabT K) G' ∧ ExtN G G') ⟨⟨_, _, _, rfl⟩, hT, ExtN.refl _⟩ ?_ ?_ ?_⟩
  · rintro i σ' G' hi ⟨_, _, e⟩
    exact sq_of (e _ _ h1 lst_tbl)
  · rintro i x σ' G' hi ⟨⟨c0', c1', c2', rfl⟩, T', eN⟩
    have hx := (hxs x (List.mem_of_getElem? hi)).extN eN
    unfold gName
    dsimp only
    refine q_foundlam (x := x) bad_put T' (fun H1 E Q' e hbad => ⟨x, rfl, .str "X", x, rfl, .inr ⟨.v "X", lwX _, .inl ⟨(hx.extN e).noS, hbad⟩⟩⟩) fun G2 Dl acc nDl e2 T2 hDl hP => ?_
    refine q_applam (x := x) (n := 1) bad_put rfl hDl hP (by decide) T2 (fun H3 E Q' e3 hbad => ⟨x, rfl, x, .non, rfl, .inl ⟨(hx.extN (e2.trans e3)).noS, hbad⟩⟩) fun J2 acc2 g2 T2' hacc2 hP2 => ?_
    have eJ2 := go_extN e2 g2 nDl
    refine q_applam (x := x) (n := 2) bad_put rfl hacc2 hP2 (by decide) T2' (fun H3 E Q' e3 hbad => fun d nd => ⟨x, rfl, .ref d, x, rfl, .inr ⟨d, [], rfl, ⟨⟨[], upd_same, rfl, rfl⟩, List.nodup_nil⟩, ⟨by decide, (fun p hp => nomatch hp), (fun p hp => nomatch hp)⟩, (fun p hp => nomatch hp), .inl ⟨(hx.extN ((eJ2.trans e3).trans (ExtN.of (Ex.new nd)))).noS, hbad.mono (Ex.new nd)⟩⟩⟩) fun J3 acc3 g3 T3 hacc3 hP3 => ?_
    have eJ3 := go_extN eJ2 g3 nDl
    have hxJ := hx.extN eJ3
    refine s_when (b := false) (et_not (a := true) (et_B fun H1 e1' Q q => ⟨.ref Dl, rfl, evlp_rep (i := 0) (n := 3) (s := "put") (v := x) rfl (by decide) H1 (Ex.refl _) _ fun p ys H2 np e2' hp hPr => ⟨.ref Dl, .ref p, rfl, sm_prs (e2' _ _ (e1' _ _ hacc3)) hp (hP3.tx (Tx.of (e1'.trans e2'))) hPr (by decide) (hxJ.extN (ExtN.of (e1'.trans e2'))).self, fun H3 e3 => q H3 (e2'.trans e3)⟩⟩)) (fun z => nomatch z) fun _ J4 eJ4 => ?_
    exact ⟨⟨_, _, _, rfl⟩, T3.ext eJ4, (eN.trans eJ3).trans (ExtN.of eJ4)⟩
  · rintro σ' G' ⟨⟨c0', c1', c2', rfl⟩, T', _⟩
    exact k G' c0' c1' c2'
end
end K24

set_option Elab.async false
set_option linter.all false
set_option maxRecDepth 100000
set_option maxHeartbeats 1000000
/-! _law_refused_right: the odd substitutions; the same again; to its end. -/
namespace K24
open PySem PySem.Spec PyProof.Rows L2 Evl LamX
def EvAll (n : Nat) (ta : TA) (σ : L2.St) (H : Hp) : Prop := ∀ H1, Ex H H1 → ∀ Q : List V → Hp → Prop, (∀ vs H2, Ex H1 H2 → vs.length = n → (∀ x ∈ vs, Od2 H2 x) → Q vs H2) → ta σ H1 Q
abbrev EvOd (te : TE) (σ : L2.St) (H : Hp) : Prop := EvP te σ H (fun v G => Od2 G v)
theorem eod_nil {σ : L2.St} {H : Hp} : EvAll 0 tNil σ H := fun H1 e Q q => q [] H1 (Ex.refl _) rfl fun x hx => nomatch hx
theorem eod_cons {n : Nat} {te : TE} {ta : TA} {σ : L2.St} {H : Hp} (h : EvOd te σ H) (k : EvAll n ta σ H) : EvAll (n + 1) (tCons te ta) σ H := fun H1 e Q q =>
  h H1 e _ fun v H2 e2 hv => k H2 (e.trans e2) _ fun vs H3 e3 hl hvs => q (v :: vs) H3 (e2.trans e3) (by rw [List.length_cons, hl]) fun x hx => by
    rcases List.mem_cons.mp hx with rfl | hx
    · exact hv.extN (ExtN.of e3)
    · exact hvs x hx
theorem eod_c {σ : L2.St} {H : Hp} {v : V} {o : O} (h : ∀ G, OV G v o) (h1 : o.isDct = false) (h2 : o.dq < 9) (h3 : o.sz ≤ 40000) : EvOd (tC v) σ H := fun H1 e Q q => q v H1 (Ex.refl _) (.o (h H1) h1 h2 h3)
theorem eod_disp1 {σ : L2.St} {H : Hp} {k : Key} {v : V} {o : O} (hv : ∀ G, OV G v o) (hok : okP (k, o) = true) (hs : subB [(k, o)] = false) (hd : o.dq < 7) (hz : o.sz ≤ 1000) : EvOd (tDisp [(tC (kV k), tC v)]) σ H := fun H1 e Q q p np =>
  ⟨upd_same, [(k, v)], rfl, by show 1 ≤ 15; decide, by
    have e1 : mergeK [] [(k, v)] = [(k, v)] := rfl
    rw [e1]
    refine q (.ref p) _ (Ex.mut (Ex.new np) np) (.dk (ks := [(k, o)]) rfl ⟨⟨[(k, v)], upd_same, rfl, .cons (hv _) .nil⟩, by simp⟩ ?_ hs ?_ ?_)
    · show (okP (k, o) && true) = true
      rw [hok]
      rfl
    · show max o.dq 0 < 7
      omega
    · show o.sz + 0 + 2 * 1 ≤ 30000
      omega⟩
theorem s_asgOd {n i : Nat} {ta : TA} {σ : L2.St} {H : Hp} {D : Ends} (h : EvAll n ta σ H) (hn : n ≤ 1000) (k : ∀ G' lo xs, Ex H G' → G' lo = some (.lst xs) → (∀ x ∈ xs, Od2 G' x) → D.nx (σ.set i (some (.ref lo))) G') : tAsg (tLst ta) (gName i) D σ H :=
  h H (Ex.refl _) _ fun vs H2 e2 hl hvs => ⟨by rw [hl, sizeLine_eq]; omega, fun lo nlo => k _ lo vs (e2.trans (Ex.new nlo)) upd_same fun x hx => (hvs x hx).extN (ExtN.of (Ex.new nlo))⟩
section
variable {P : Program} {w : World} {K : PySem.W.Frag} {mg : Str → Option Value} {base : Heap} {f c : Addr} {A : Around} {outer : List Env} {s : Shared} {HX : Hp}
theorem rb1 (T : T24 P w K mg base) (hr : Room 45 (XR P w K mg base f c A outer s HX).A) : ∃ t, PS (XR P w K mg base f c A outer s HX) (stR 1) t ∧
    ∀ (D : Ends) (G : Hp) (c0 c1 c2 c3 c4 c5 c6 : Option V), (∀ G' lo xs, Ex G G' → G' lo = some (.lst xs) → (∀ x ∈ xs, Od2 G' x) → D.nx [c0, c1, c2, some (.ref lo), c4, c5, c6] G') →
      t D [c0, c1, c2, c3, c4, c5, c6] G := by
  refine ⟨_, ps_set (i := 3) sc_rf.nd rfl (by first | exact Or.inl rfl | exact Or.inr rfl) (pe_lst (pa_cons pe_non (pa_cons pe_int (pa_cons pe_str (pa_cons (pe_lst pa_nil) (pa_cons pe_bl
    (pa_cons (pe_disp (pps_cons pe_str pe_str pps_nil) (by rfl) (by rfl) (fun z => by cases z) (by decide)) (pa_cons (pe_disp (pps_cons pe_str pe_int pps_nil) (by rfl) (by rfl) (fun z => by cases z) (by decide)) (pa_cons (pe_disp (pps_cons pe_int pe_str pps_nil) (by rfl) (by rfl) (fun z => by cases z) (by decide))
    (pa_cons (pe_disp (pps_cons pe_str (pe_tup (pa_cons pe_str pa_nil)) (pps_cons pe_str pe_non pps_nil)) (by rfl) (by rfl) (fun z => by cases z) (by decide))
    (pa_cons (pe_dispT1 (hu_of hr) (pe_tup (pa_cons pe_str pa_nil)) pe_str) pa_nil))))))))))), ?_⟩
  intro D G c0 c1 c2 c3 c4 c5 c6 k
  have two : EvOd (tDisp [(tC (V.str "X"), tTup (tCons (tC (V.str "a")) tNil)), (tC (V.str "Y"), tC V.non)]) [c0, c1, c2, c3, c4, c5, c6] G := fun H1 e Q q p np => by
    refine ⟨by show 1 ≤ sizeLine; rw [sizeLine_eq]; omega, fun t nt => ?_⟩
    have x2 : Ex (upd H1 p (.dK [])) (upd (upd H1 p (.dK [])) t (.tup [V.str "a"])) := Ex.new nt
    have ht : (upd (upd H1 p (.dK [])) t (.tup [V.str "a"])) t = some (.tup [V.str "a"]) := upd_same
    have hp := x2 _ _ (upd_same (a := p) (H := H1) (o := .dK []))
    have hpt : t ≠ p := fun z => by rw [z, upd_same] at nt; cases nt
    generalize upd (upd H1 p (.dK [])) t (.tup [V.str "a"]) = H2 at x2 ht hp
    refine ⟨hp, [(Sum.inr "X", .ref t), (Sum.inr "Y", .non)], rfl, by show 2 ≤ 15; decide, ?_⟩
    rw [mergeK_nil (by show ([Sum.inr "X", Sum.inr "Y"] : List Key).Nodup; decide +kernel)]
    refine q (.ref p) _ (Ex.mut ((Ex.new np).trans x2) np) (.dk (ks := [(Sum.inr "X", .tup [.str "a"]), (Sum.inr "Y", .non)]) rfl ⟨⟨_, upd_same, rfl, .cons ⟨t, _, rfl, by rw [upd_ne hpt]; exact ht, .cons rfl .nil⟩ (.cons rfl .nil)⟩, ?_⟩ ?_ ?_ ?_ ?_)
    · decide +kernel
    · decide +kernel
    · decide +kernel
    · decide
    · decide
  have tup : EvOd (tDispT1 (tTup (tCons (tC (V.str "a")) tNil)) (tC (V.str "X"))) [c0, c1, c2, c3, c4, c5, c6] G := fun H1 e Q q p np => by
    refine ⟨by show 1 ≤ sizeLine; rw [sizeLine_eq]; omega, fun t nt => ?_⟩
    have x2 : Ex (upd H1 p (.dT [])) (upd (upd H1 p (.dT [])) t (.tup [V.str "a"])) := Ex.new nt
    have ht : (upd (upd H1 p (.dT [])) t (.tup [V.str "a"])) t = some (.tup [V.str "a"]) := upd_same
    have hp := x2 _ _ (upd_same (a := p) (H := H1) (o := .dT []))
    have hpt : t ≠ p := fun z => by rw [z, upd_same] at nt; cases nt
    generalize upd (upd H1 p (.dT [])) t (.tup [V.str "a"]) = H2 at x2 ht hp
    refine ⟨t, [Sum.inr "a"], rfl, ht, hp, q (.ref p) _ (Ex.mut ((Ex.new np).trans x2) np) (.dt (d := p) (b := t) (ks := [Sum.inr "a"]) (v := "X") rfl upd_same (by rw [upd_ne hpt]; exact ht) (by show 1 ≤ 10; decide))⟩
  have lst : EvOd (tLst tNil) [c0, c1, c2, c3, c4, c5, c6] G := fun H1 e Q q => ⟨Nat.zero_le _, fun l nl => q (.ref l) _ (Ex.new nl) (.o (o := .lst []) ⟨l, _, rfl, upd_same, rfl⟩ rfl (by decide) (by decide))⟩
  exact s_asgOd (n := 10) (eod_cons (eod_c (o := .non) (fun _ => rfl) rfl (by decide) (by decide)) (eod_cons (eod_c (o := .int 5) (fun _ => rfl) rfl (by decide) (by decide)) (eod_cons (eod_c (o := .str "X") (fun _ => rfl) rfl (by decide) (by decide)) (eod_cons lst (eod_cons (eod_c (o := .bl true) (fun _ => rfl) rfl (by decide) (by decide))
    (eod_cons (eod_disp1 (k := Sum.inr "x") (o := .str "X") (fun _ => rfl) (by decide +kernel) (by decide +kernel) (by decide) (by decide)) (eod_cons (eod_disp1 (k := Sum.inr "X") (o := .int 5) (fun _ => rfl) (by decide +kernel) (by decide +kernel) (by decide) (by decide)) (eod_cons (eod_disp1 (k := Sum.inl 5) (o := .str "X") (fun _ => rfl) (by decide +kernel) (by decide +kernel) (by decide) (by decide))
    (eod_cons two (eod_cons tup eod_nil)))))))))) (by decide) k
end
end K24

set_option Elab.async false
set_option linter.all false
set_option maxRecDepth 100000
set_option maxHeartbeats 1000000
/-! _law_refused_right: the same again. -/
namespace K24
open PySem PySem.Spec PyProof.Rows L2 Evl LamX
theorem mergeK_one (k : Key) (v : V) : mergeK [] [(k, v)] = [(k, v)] := rfl
theorem putK_one (k : Key) (v w : V) : putK [(k, v)] k w = [(k, w)] := by
  unfold putK
  simp
section
variable {P : Program} {w : World} {K : PySem.W.Frag} {mg : Str → Option Value} {base : Heap} {f c : Addr} {A : Around} {outer : List Env} {s : Shared} {HX : Hp}
/-! ### the same again -/
def wG : W := .n "g" [.v "X", .v "X"]
def wGa : W := .n "g" [.n "a" [], .n "a" []]
def wGb : W := .n "g" [.n "b" [], .n "b" []]
def psA : List (Str × W) := [("X", .n "a" [])]
def psB : List (Str × W) := [("X", .n "b" [])]
theorem subA : wG.sub (lk psA) = wGa := rfl
theorem subB' : wG.sub (lk psB) = wGb := rfl
theorem okA : SbOk psA := ⟨by decide, by decide +kernel, by decide +kernel⟩
theorem okB' : SbOk psB := ⟨by decide, by decide +kernel, by decide +kernel⟩
theorem dzG : Dz wG := ⟨by decide +kernel, by decide +kernel, by decide, by decide⟩
theorem subV_1 {G : Hp} {d t : Addr} {s : Str} (h : G d = some (.dK [(Sum.inr "X", .ref t)])) (ht : G t = some (.tup [.str s])) : SubV G d [("X", .n s [])] := SubV.of h rfl (by simp) (.cons ⟨t, _, rfl, ht, .cons rfl .nil⟩ .nil)
theorem rbE (T : T24 P w K mg base) (hr : Room 45 (XR P w K mg base f c A outer s HX).A) : ∃ t, PSs (XR P w K mg base f c A outer s HX) [stR 3, stR 4, stR 5, stR 6, stR 7, stR 8] t ∧
    ∀ (D : Ends) (G : Hp) (c0 c1 c2 c3 c4 c5 : Option V), (∀ G', D.rt (.bl true) G') → t D [c0, c1, c2, c3, c4, c5, none] G := by
  obtain ⟨fS, dS, GS, bS, kS, mS⟩ := (ok_same T 20).ex
  obtain ⟨fP, dP, GP, bP, kP, mP⟩ := (ok_put T).ex
  obtain ⟨fX, dX, GX, bX, kX, mX⟩ := (ok_law_put T 12).ex
  refine ⟨_, pss_cons (ps_asg (pe_tup (pa_cons (pe_disp (pps_cons pe_str (pe_tup (pa_cons pe_str pa_nil)) pps_nil) (by rfl) (by rfl) (fun z => by cases z) (by decide)) (pa_cons (pe_tup (pa_cons pe_str (pa_cons pe_str (pa_cons pe_str pa_nil)))) pa_nil))) (pg_tup rfl (pgs_cons (pg_name (i := 4) sc_rf.nd rfl (by first | exact Or.inl rfl | exact Or.inr rfl)) (pgs_cons (pg_name (i := 5) sc_rf.nd rfl (by first | exact Or.inl rfl | exact Or.inr rfl)) pgs_nil))))
    (pss_cons (ps_set (i := 1) sc_rf.nd rfl (by first | exact Or.inl rfl | exact Or.inr rfl) (pe_lst (pa_cons (pe_callS (sp := spPut K) GP (hr.mono (by decide)) (by rfl) mP kP bP (fun σ => passAt L2.takes0 σ) (pa_cons (pv 5) (pa_cons (pv 4) pa_nil))) pa_nil)))
    (pss_cons (ps_dput (hu_of hr) (pv 4) pe_str (pe_tup (pa_cons pe_str pa_nil)) rfl)
    (pss_cons (ps_expr (pe_bm PySem.F.plainAttrs_list PySem.F.slot_list_append PySem.F.type_list_append mt_append (pv 1) (pa_cons (pe_callS (sp := spPut K) GP (hr.mono (by decide)) (by rfl) mP kP bP (fun σ => passAt L2.takes0 σ) (pa_cons (pv 5) (pa_cons (pv 4) pa_nil))) pa_nil)))
    (pss_cons (ps_dput (hu_of hr) (pv 4) pe_str (pe_tup (pa_cons pe_str pa_nil)) rfl)
    (pss_one (ps_ret (pe_call GS (hr.mono (by decide)) (by rfl) mS kS bS .nil pass0 (pa_cons (pe_op op_cat (pv 1) (pe_lst (pa_cons (pe_callS (sp := spPut K) GP (hr.mono (by decide)) (by rfl) mP kP bP (fun σ => passAt L2.takes0 σ) (pa_cons (pv 5) (pa_cons (pv 4) pa_nil))) pa_nil)))
      (pa_cons (pe_lc (own := [("_law_name", 6)]) (g := gName 6) (tt := tYes) (te := tCall (spEx 12) [] E0 (tCons (tVar 5) (tCons (tDisp [(tC (V.str "X"), tTup (tCons (tVar 6) tNil))]) tNil))) rfl sc_rf.nd (pi_str pe_str) (blkOk_by (N := nRf) (sc := defScope s__law_refused_right) (by decide +kernel))
        (fun _ _ _ _ _ => pg_name (i := 6) sc_rf.nd rfl (Or.inl rfl)) (fun _ _ _ _ _ => pts_nil) (fun _ _ _ _ _ => pe_call GX (hr.mono (by decide)) (by rfl) mX kX bX .nil pass0 (pa_cons (pv 5) (pa_cons (pe_disp (pps_cons pe_str (pe_tup (pa_cons (pv 6) pa_nil)) pps_nil) (by rfl) (by rfl) (fun z => by cases z) (by decide)) pa_nil)))) pa_nil))))))))), ?_⟩
  intro D G c0 c1 c2 c3 c4 c5 k p np
  refine ⟨by show 1 ≤ sizeLine; rw [sizeLine_eq]; omega, fun t nt => ?_⟩
  have x2 : Ex (upd G p (.dK [])) (upd (upd G p (.dK [])) t (.tup [V.str "a"])) := Ex.new nt
  have ht : (upd (upd G p (.dK [])) t (.tup [V.str "a"])) t = some (.tup [V.str "a"]) := upd_same
  have hp := x2 _ _ (upd_same (a := p) (H := G) (o := .dK []))
  generalize upd (upd G p (.dK [])) t (.tup [V.str "a"]) = H2 at x2 ht hp ⊢
  refine ⟨hp, [(Sum.inr "X", .ref t)], rfl, by show 1 ≤ 15; decide, ?_⟩
  rw [mergeK_one]
  have ht2 := Tx.dct (o := .dK [((Sum.inr "X" : Key), V.ref t)]) hp _ _ ht
  have hp2 : (upd H2 p (.dK [((Sum.inr "X" : Key), V.ref t)])) p = some (.dK [(Sum.inr "X", .ref t)]) := upd_same
  generalize upd H2 p (.dK [((Sum.inr "X" : Key), V.ref t)]) = H3 at ht2 hp2 ⊢
  refine ⟨by show 3 ≤ sizeLine; rw [sizeLine_eq]; omega, fun g ng => ?_⟩
  have x4 : Ex H3 (upd H3 g (.tup [.str "g", .str "X", .str "X"])) := Ex.new ng
  have hg4 : (upd H3 g (.tup [.str "g", .str "X", .str "X"])) g = some (.tup [.str "g", .str "X", .str "X"]) := upd_same
  have ht4 := x4 _ _ ht2
  have hp4 := x4 _ _ hp2
  generalize upd H3 g (.tup [.str "g", .str "X", .str "X"]) = H4 at hg4 ht4 hp4 ⊢
  refine ⟨by show 2 ≤ sizeLine; rw [sizeLine_eq]; omega, fun u nu => ?_⟩
  have x5 : Ex H4 (upd H4 u (.tup [.ref p, .ref g])) := Ex.new nu
  have hg5 := x5 _ _ hg4
  have ht5 := x5 _ _ ht4
  have hp5 := x5 _ _ hp4
  refine ⟨u, _, rfl, st_of upd_same, rfl, _, _, rfl, _, _, rfl, rfl, ?_⟩
  generalize upd H4 u (.tup [.ref p, .ref g]) = H5 at hg5 ht5 hp5 ⊢
  have wv : ∀ {J : Hp}, J g = some (.tup [.str "g", .str "X", .str "X"]) → WV J (.ref g) wG := fun h => ⟨g, _, rfl, h, .cons rfl (.cons rfl (.cons rfl .nil))⟩
  have lw : ∀ {J : Hp}, J g = some (.tup [.str "g", .str "X", .str "X"]) → Lw J (.ref g) wG := fun h => dzG.lw (wv h) (strip_o wG)
  -- found = [put(word, held)]
  refine ⟨.ref g, rfl, .ref p, rfl, .ref g, .ref p, rfl, .inr ⟨wG, lw hg5, .inr ⟨p, psA, rfl, subV_1 hp5 ht5, okA, fun r1 H6 e6 hw1 => ?_⟩⟩⟩
  rw [subA] at hw1
  refine ⟨by show 1 ≤ sizeLine; rw [sizeLine_eq]; omega, fun lf nlf => ?_⟩
  have x7 : Ex H6 (upd H6 lf (.lst [r1])) := Ex.new nlf
  have hl7 : (upd H6 lf (.lst [r1])) lf = some (.lst [r1]) := upd_same
  have hw17 := WV.ext x7 hw1
  have hg7 := x7 _ _ (e6 _ _ hg5)
  have hp7 := x7 _ _ (e6 _ _ hp5)
  generalize upd H6 lf (.lst [r1]) = H7 at hl7 hw17 hg7 hp7 ⊢
  -- held["X"] = ("b",)
  refine ⟨by show 1 ≤ sizeLine; rw [sizeLine_eq]; omega, fun t2 nt2 => ?_⟩
  have x8 : Ex H7 (upd H7 t2 (.tup [V.str "b"])) := Ex.new nt2
  have ht8 : (upd H7 t2 (.tup [V.str "b"])) t2 = some (.tup [V.str "b"]) := upd_same
  have hl8 := x8 _ _ hl7
  have hg8 := x8 _ _ hg7
  have hp8 := x8 _ _ hp7
  have hw18 := WV.ext x8 hw17
  generalize upd H7 t2 (.tup [V.str "b"]) = H8 at ht8 hl8 hg8 hp8 hw18 ⊢
  refine ⟨.ref p, rfl, p, _, rfl, DPut.k (k := Sum.inr "X") hp8 (by show 1 < sizeLine; rw [sizeLine_eq]; omega), ?_⟩
  rw [putK_one]
  have tx9 : Tx H8 (upd H8 p (.dK [((Sum.inr "X" : Key), V.ref t2)])) := Tx.dct hp8
  have hp9 : (upd H8 p (.dK [((Sum.inr "X" : Key), V.ref t2)])) p = some (.dK [(Sum.inr "X", .ref t2)]) := upd_same
  have hl9 : (upd H8 p (.dK [((Sum.inr "X" : Key), V.ref t2)])) lf = some (.lst [r1]) := by rw [upd_ne (ne_of hl8 hp8 (by intro z; cases z))]; exact hl8
  have ht9 := tx9 _ _ ht8
  have hg9 := tx9 _ _ hg8
  have hw19 := hw18.tx tx9
  generalize upd H8 p (.dK [((Sum.inr "X" : Key), V.ref t2)]) = H9 at hp9 hl9 ht9 hg9 hw19 ⊢
  -- found.append(put(word, held))
  refine ⟨.ref lf, rfl, .inl ⟨rfl, _, sq_of hl9⟩, .ref g, rfl, .ref p, rfl, .ref g, .ref p, rfl, .inr ⟨wG, lw hg9, .inr ⟨p, psB, rfl, subV_1 hp9 ht9, okB', fun r2 H10 e10 hw2 => ?_⟩⟩⟩
  rw [subB'] at hw2
  have hl10 := e10 _ _ hl9
  refine ⟨lf, _, r2, rfl, rfl, hl10, by show 1 < sizeLine; rw [sizeLine_eq]; omega, ?_⟩
  have tx11 : Tx H10 (upd H10 lf (.lst ([r1] ++ [r2]))) := Tx.lst hl10
  have hl11 : (upd H10 lf (.lst ([r1] ++ [r2]))) lf = some (.lst [r1, r2]) := upd_same
  have hp11 : (upd H10 lf (.lst ([r1] ++ [r2]))) p = some (.dK [(Sum.inr "X", .ref t2)]) := by rw [upd_ne (ne_of (e10 _ _ hp9) hl10 (by intro z; cases z))]; exact e10 _ _ hp9
  have hg11 := tx11 _ _ (e10 _ _ hg9)
  have hw1_11 := (WV.ext e10 hw19).tx tx11
  have hw2_11 := hw2.tx tx11
  generalize upd H10 lf (.lst ([r1] ++ [r2])) = H11 at hl11 hp11 hg11 hw1_11 hw2_11 ⊢
  -- held["X"] = ("a",)
  refine ⟨by show 1 ≤ sizeLine; rw [sizeLine_eq]; omega, fun t3 nt3 => ?_⟩
  have x12 : Ex H11 (upd H11 t3 (.tup [V.str "a"])) := Ex.new nt3
  have ht12 : (upd H11 t3 (.tup [V.str "a"])) t3 = some (.tup [V.str "a"]) := upd_same
  have hl12 := x12 _ _ hl11
  have hg12 := x12 _ _ hg11
  have hp12 := x12 _ _ hp11
  have hw1_12 := WV.ext x12 hw1_11
  have hw2_12 := WV.ext x12 hw2_11
  generalize upd H11 t3 (.tup [V.str "a"]) = H12 at ht12 hl12 hg12 hp12 hw1_12 hw2_12 ⊢
  refine ⟨.ref p, rfl, p, _, rfl, DPut.k (k := Sum.inr "X") hp12 (by show 1 < sizeLine; rw [sizeLine_eq]; omega), ?_⟩
  rw [putK_one]
  have tx13 : Tx H12 (upd H12 p (.dK [((Sum.inr "X" : Key), V.ref t3)])) := Tx.dct hp12
  have hp13 : (upd H12 p (.dK [((Sum.inr "X" : Key), V.ref t3)])) p = some (.dK [(Sum.inr "X", .ref t3)]) := upd_same
  have hl13 : (upd H12 p (.dK [((Sum.inr "X" : Key), V.ref t3)])) lf = some (.lst [r1, r2]) := by rw [upd_ne (ne_of hl12 hp12 (by intro z; cases z))]; exact hl12
  have ht13 := tx13 _ _ ht12
  have hg13 := tx13 _ _ hg12
  have hw1_13 := hw1_12.tx tx13
  have hw2_13 := hw2_12.tx tx13
  generalize upd H12 p (.dK [((Sum.inr "X" : Key), V.ref t3)]) = H13 at hp13 hl13 ht13 hg13 hw1_13 hw2_13 ⊢
  -- found + [put(word, held)]
  refine ⟨.ref lf, rfl, .ref g, rfl, .ref p, rfl, .ref g, .ref p, rfl, .inr ⟨wG, lw hg13, .inr ⟨p, psA, rfl, subV_1 hp13 ht13, okA, fun r3 H14 e14 hw3 => ?_⟩⟩⟩
  rw [subA] at hw3
  refine ⟨by show 1 ≤ sizeLine; rw [sizeLine_eq]; omega, fun l3 nl3 => ?_⟩
  have x15 : Ex H14 (upd H14 l3 (.lst [r3])) := Ex.new nl3
  have e15 := e14.trans x15
  have hl3 : (upd H14 l3 (.lst [r3])) l3 = some (.lst [r3]) := upd_same
  have hw3_15 := WV.ext x15 hw3
  generalize upd H14 l3 (.lst [r3]) = H15 at x15 e15 hl3 hw3_15 ⊢
  refine ⟨lf, l3, _, _, rfl, rfl, e15 _ _ hl13, hl3, by show 3 ≤ sizeLine; rw [sizeLine_eq]; omega, fun l4 nl4 => ?_⟩
  have x16 : Ex H15 (upd H15 l4 (.lst ([r1, r2] ++ [r3]))) := Ex.new nl4
  have h16 : (upd H15 l4 (.lst ([r1, r2] ++ [r3]))) l4 = some (.lst [r1, r2, r3]) := upd_same
  have e16 := e15.trans x16
  have hg16 := e16 _ _ hg13
  have hv1 := WV.ext e16 hw1_13
  have hv2 := WV.ext e16 hw2_13
  have hv3 := WV.ext x16 hw3_15
  generalize upd H15 l4 (.lst ([r1, r2] ++ [r3])) = H16 at h16 hg16 hv1 hv2 hv3 ⊢
  refine ⟨"aba", rfl, fun Dl hD => ?_⟩
  refine lc_it (walk_str (z := "aba")) (fun i J => Ex H16 J ∧ ∃ acc, J Dl = some (.lst acc) ∧ acc.length = i ∧ OVs J acc ([wGa.o, wGb.o, wGa.o].take i)) ⟨Ex.new hD, [], upd_same, rfl, rfl⟩ (fun i J _ c => trivial) ?_ ?_
  · rintro i x J J' hi ⟨eJ, acc, hJ, hal, hov⟩ ⟨rfl, ch, hc, rfl⟩
    refine ⟨rfl, ?_⟩
    unfold tYes
    dsimp only
    rw [if_pos rfl]
    have hi3 : i < 3 := hi
    have step : ∀ (s : Str) (z : W), (⟨#[ch]⟩ : Str) = s → ([wGa.o, wGb.o, wGa.o] : List O)[i]? = some z.o → wG.sub (lk [("X", .n s [])]) = z → tCall (spEx 12) [] E0 (tCons (tVar 5) (tCons (tDisp [(tC (V.str "X"), tTup (tCons (tVar 6) tNil))]) tNil)) ((wipe [c0, some (.ref lf), c2, c3, some (.ref p), some (.ref g), none] [6]).set 6 (some (.str ⟨#[ch]⟩))) J' (fun y H4 => ∃ acc, H4 Dl = some (.lst acc) ∧ acc.length < sizeLine ∧ (Ex H16 (upd H4 Dl (.lst (acc ++ [y]))) ∧ ∃ acc2, (upd H4 Dl (.lst (acc ++ [y]))) Dl = some (.lst acc2) ∧ acc2.length = i + 1 ∧ OVs (upd H4 Dl (.lst (acc ++ [y]))) acc2 ([wGa.o, wGb.o, wGa.o].take (i + 1)))) := by
      rintro s z rfl hz hsub
      refine ⟨.ref g, rfl, fun pd npd => ⟨.str ⟨#[ch]⟩, rfl, by show 1 ≤ sizeLine; rw [sizeLine_eq]; omega, fun t6 nt6 => ?_⟩⟩
      have y1 : Ex J' (upd J' pd (.dK [])) := Ex.new npd
      have y2 : Ex (upd J' pd (.dK [])) (upd (upd J' pd (.dK [])) t6 (.tup [V.str ⟨#[ch]⟩])) := Ex.new nt6
      have ht6 : (upd (upd J' pd (.dK [])) t6 (.tup [V.str ⟨#[ch]⟩])) t6 = some (.tup [V.str ⟨#[ch]⟩]) := upd_same
      have hpd6 := y2 _ _ (upd_same (a := pd) (H := J') (o := .dK []))
      have y12 := y1.trans y2
      generalize upd (upd J' pd (.dK [])) t6 (.tup [V.str ⟨#[ch]⟩]) = J6 at y12 ht6 hpd6 ⊢
      refine ⟨hpd6, [(Sum.inr "X", .ref t6)], rfl, by show 1 ≤ 15; decide, ?_⟩
      rw [mergeK_one]
      have y3 : Ex J' (upd J6 pd (.dK [((Sum.inr "X" : Key), V.ref t6)])) := Ex.mut y12 npd
      have ht7 := Tx.dct (o := .dK [((Sum.inr "X" : Key), V.ref t6)]) hpd6 _ _ ht6
      have hpd7 : (upd J6 pd (.dK [((Sum.inr "X" : Key), V.ref t6)])) pd = some (.dK [(Sum.inr "X", .ref t6)]) := upd_same
      generalize upd J6 pd (.dK [((Sum.inr "X" : Key), V.ref t6)]) = J7 at y3 ht7 hpd7 ⊢
      refine ⟨.ref g, pd, wG, [("X", .n ⟨#[ch]⟩ [])], rfl, wv (y3 _ _ (eJ _ _ hg16)), subV_1 hpd7 ht7, by decide, by decide, by decide, fun r J8 e8 hr8 => ?_⟩
      rw [hsub] at hr8
      have hD8 := e8 _ _ (y3 _ _ hJ)
      have tx := Tx.lst (o := .lst (acc ++ [r])) hD8
      refine ⟨acc, hD8, sz_lt (by omega), Ex.mut ((eJ.trans y3).trans e8) hD, acc ++ [r], upd_same, by simp [hal], ?_⟩
      rw [take_snoc hz]
      refine OVs.append ?_ (.cons (hr8.tx tx) .nil)
      have h8 : WVs J8 acc ([wGa, wGb, wGa].take i) := by
        unfold WVs
        rw [W.os_map, List.map_take]
        exact hov.ext (y3.trans e8)
      have h9 := WVs.tx tx h8
      unfold WVs at h9
      rw [W.os_map, List.map_take] at h9
      exact h9
    match i, hi3, hc with
    | 0, _, hc => exact step "a" wGa (by rw [show ch = 97 from (Option.some.inj (hc.symm.trans rfl : some ch = some 97))]; rfl) rfl rfl
    | 1, _, hc => exact step "b" wGb (by rw [show ch = 98 from (Option.some.inj (hc.symm.trans rfl : some ch = some 98))]; rfl) rfl rfl
    | 2, _, hc => exact step "a" wGa (by rw [show ch = 97 from (Option.some.inj (hc.symm.trans rfl : some ch = some 97))]; rfl) rfl rfl
  · rintro J ⟨eJ, acc, hJ, hal, hov⟩
    refine ⟨.ref l4, .ref Dl, .lst [wGa.o, wGb.o, wGa.o], rfl, ⟨l4, _, rfl, eJ _ _ h16, .cons (WV.ext eJ hv1) (.cons (WV.ext eJ hv2) (.cons (WV.ext eJ hv3) .nil))⟩, ⟨Dl, acc, rfl, hJ, hov⟩, by decide, by decide, by decide, fun J2 _ => k J2⟩
end
end K24

set_option Elab.async false
set_option linter.all false
set_option maxRecDepth 100000
set_option maxHeartbeats 1000000
/-! _law_refused_right whole. -/
namespace K24
open PySem PySem.Spec PyProof.Rows L2 Evl LamX
section
variable {X : Cx}
/-- a call, without arguments, of a def that runs where no guard stands -/
theorem pe_callG0 {k : Nat} {f : Addr} {fd : FuncData} {sp : Sp} {x : Str} {p pos : Pos} (F : FnG X.prog X.w X.K X.mg X.base k f fd [] sp) (hg : X.A.guards = some []) (hr : Room k X.A) (hx : Gl X x) (hm : X.mg x = some (.ref f))
    (hk : PySem.W.keepIn X.K (.ref f) = true) (hb : Binds X.K fd [] []) (hdb : (x == ("__debug__" : Str)) = false := by decide) : PE X (.Call (.Name x p) [] [] pos) (tCall sp [] E0 tNil) := by
  refine ⟨fun pins s σ H Q I h => wpAny_Call_Name_kw (ld_glob I hx hm ?_ hdb)⟩
  have q : sp [] H Q E0 := h
  have b := hb s [] I.kIn rfl
  refine PySem.W.callWith_K0 I.kIn hk ?_
  refine wpAny_call (codeAny_mono (F.run X.A X.stack s H ⟨[], []⟩ [] [] Q hg hr I.env0 b .nil q) fun r s' z => ?_)
  match r, z with
  | .ok (.ret u), z => exact I.after z
  | .error _, z => exact (show False from z).elim
end
def spRf (K : PySem.W.Frag) : Sp := fun vs H Q _ => vs = [] ∧ Tabs (tabT K) H ∧ ∀ G, Q (.bl true) G
section
variable {P : Program} {w : World} {K : PySem.W.Frag} {mg : Str → Option Value} {base : Heap}
theorem ok_refused (T : T24 P w K mg base) (t2 : TabF K mg base) {fd : FuncData} (F : FnP K "_law_refused_right" s__law_refused_right (He.ga K "_law_refused_right") fd) :
    FnG P w K mg base 46 (He.ga K "_law_refused_right") fd [] (spRf K) := by
  refine FnG.of F sc_rf (fun vs H Q E h => ?_) (fun c ⟨oc, od, osl, lk, ec⟩ A outer s H vs Q hg hr h => ?_)
  · obtain ⟨rfl, _⟩ := h
    rfl
  obtain ⟨rfl, hT, kf⟩ := h
  have hc : He.codeOf K ("_law_refused_right", none) = c := He.codeOf_eq (p := ("_law_refused_right", none)) lk ec
  obtain ⟨u0, p0, k0⟩ := rb0 (outer := outer) (s := s) (HX := H) T t2 hc hr
  obtain ⟨u1, p1, k1⟩ := rb1 (c := c) (outer := outer) (s := s) (HX := H) T hr
  obtain ⟨u2, p2, k2⟩ := rb2 (outer := outer) (s := s) (HX := H) T t2 hc hr
  obtain ⟨uE, pE, kE⟩ := rbE (c := c) (outer := outer) (s := s) (HX := H) T hr
  refine ⟨tSeq u0 (tSeq u1 (tSeq u2 uE)), PSs.nox (pss_cons p0 (pss_cons p1 (pss_cons p2 pE))), ?_⟩
  refine k0 _ H _ _ _ _ _ _ _ hT fun G1 c0 c1 c2 T1 => ?_
  refine k1 _ G1 _ _ _ _ _ _ _ fun G2 lo xs e2 h2 hxs => ?_
  refine k2 _ G2 _ _ _ _ _ _ lo xs (T1.ext e2) h2 hxs fun G3 c0' c1' c2' => ?_
  exact kE _ G3 _ _ _ _ _ _ kf
end
end K24

set_option Elab.async false
set_option linter.all false
set_option maxRecDepth 100000
set_option maxHeartbeats 1000000
/-! The law. -/
namespace K24
open PySem PySem.Spec PyProof.Rows L2 Evl LamX
abbrev nLw : List Str := ["_law_script", "_law_stream", "_law_turn", "_law_variables", "_law_found", "_law_due"]
theorem sc_lw : FnScope nLw ["_law_script"] (defScope s_law) := ⟨rfl, rfl, rfl, by decide +kernel, rfl, by decide +kernel, by decide +kernel⟩
abbrev XL (P : Program) (w : World) (K : PySem.W.Frag) (mg : Str → Option Value) (base : Heap) (f c : Addr) (A : Around) (outer : List Env) (s : Shared) (H : Hp) : Cx := (cxOf CX0 P w K mg base nLw "law" (defScope s_law) f (.ref c) A outer s H E0).nox
def stL (i : Nat) : Stmt := (defBody s_law).getD i (.Pass ⟨0, 0, 0, 0⟩)
def SV3 : List Str := ["X", "Y", "Z"]
theorem cut_toV (xs : List V) (k : Nat) : cutV xs none (some (k : Nat)) = xs.take k := by
  unfold cutV
  rw [HT.sIx_none]
  have := HT.sIx_nat xs.length xs.length k
  rw [this]
  simp
theorem sv_take (k : Nat) : ([V.str "X", V.str "Y", V.str "Z"] : List V).take k = sVs (SV3.take k) := by
  unfold sVs
  rw [List.map_take]
  rfl
theorem sv3_in : ∀ s ∈ SV3, s ∈ SV := by decide +kernel
/-- a dict of words -/
def SubP (ps : List (Str × W)) (v : V) (G : Hp) : Prop := ∃ d, v = .ref d ∧ SubV G d ps
theorem SubP.ext {ps : List (Str × W)} {v : V} {G J : Hp} (h : SubP ps v G) (e : Ex G J) : SubP ps v J := by
  obtain ⟨d, h1, h2⟩ := h
  exact ⟨d, h1, h2.ext e⟩
section
variable {K : PySem.W.Frag} {σ : L2.St} {H : Hp}
theorem evp_ov {te : TE} {o : O} (h : ∀ H1, Ex H H1 → EvOx H1 te σ H1 o) : EvP te σ H (fun v G => OV G v o) := fun H1 e Q q => h H1 e H1 (Ex.refl _) Q fun v H2 e2 ho => q v H2 e2 (ho.ext hx_ex)
theorem evp_match {ta tb : TE} {E : L2.St → XK} {p z : W} {F : FD} {ps : List (Str × W)} (hp : Dz p) (hz : Dz z) (hum : um p z [] [] = (none, F)) (hps : fdW F = ps) (hs : sortedS (F.map (·.1)) = true) (hl : F.length < 64) (h1 : EvP ta σ H (fun v G => OV G v p.o)) (h2 : EvP tb σ H (fun v G => OV G v z.o)) :
    EvP (tCallS (spMt K kMatch) E (tCons ta (tCons tb tNil))) σ H (SubP ps) := fun H1 e Q q => h1 H1 e _ fun u H2 e2 hu => h2 H2 (e.trans e2) _ fun v H3 e3 hv => ⟨u, v, rfl, .inr ⟨p, hp.lw (hu.ext e3) (strip_o p), .inr ⟨z, hz.lw hv (strip_o z), by rw [hum]; exact hl, fun r G eG h => by
  rw [hum] at h
  obtain ⟨pd, ys, rfl, npd, hperm, hsort, hv⟩ := h
  have nd : (F.map (·.1)).Nodup := by
    have := um_nd p z [] [] List.nodup_nil
    rw [hum] at this
    exact this
  obtain rfl := sorted_eq hperm hsort hs
  have e1 : psOf (fdW F) (F.map (·.1)) = fdW F := by
    have := psOf_self (ps := fdW F) (by rw [fdW_keys]; exact nd)
    rw [fdW_keys] at this
    exact this
  have hv : SubV G pd (psOf (fdW F) (F.map (·.1))) := hv
  rw [e1, hps] at hv
  exact q _ _ (e2.trans (e3.trans eG)) ⟨pd, rfl, hv⟩⟩⟩⟩
theorem evp_fault {H0 : Hp} {ta tb : TE} {E : L2.St → XK} {p z : W} {f : Ft} {F : FD} (e0 : Ex H0 H) (hp : Dz p) (hz : Dz z) (hum : um p z [] [] = (some f, F)) (h1 : EvP ta σ H (fun v G => OV G v p.o)) (h2 : EvP tb σ H (fun v G => OV G v z.o)) :
    EvOx H0 (tCallS (spMt K kFault) E (tCons ta (tCons tb tNil))) σ H f.o := fun H1 e Q q => h1 H1 e _ fun u H2 e2 hu => h2 H2 (e.trans e2) _ fun v H3 e3 hv => ⟨u, v, rfl, .inr ⟨p, hp.lw (hu.ext e3) (strip_o p), .inr ⟨z, hz.lw hv (strip_o z), fun r G eG h => by
  rw [hum] at h
  have h : OV (Hx (Old H3) G) r f.o := h
  exact q _ _ (e2.trans (e3.trans eG)) (h.ext (hx_mono fun b hb => Old.ex (e0.trans (e.trans (e2.trans e3))) hb))⟩⟩⟩
theorem s_asg3 {i : Nat} {D : Ends} {t1 t2 t3 : TE} {p1 p2 p3 : List (Str × W)} (h1 : EvP t1 σ H (SubP p1)) (h2 : EvP t2 σ H (SubP p2)) (h3 : EvP t3 σ H (SubP p3))
    (k : ∀ G' lf a b c, Ex H G' → G' lf = some (.lst [a, b, c]) → SubP p1 a G' → SubP p2 b G' → SubP p3 c G' → D.nx (σ.set i (some (.ref lf))) G') : tAsg (tLst (tCons t1 (tCons t2 (tCons t3 tNil)))) (gName i) D σ H :=
  h1 H (Ex.refl _) _ fun a H1 e1 q1 => h2 H1 e1 _ fun b H2 e2 q2 => h3 H2 (e1.trans e2) _ fun c H3 e3 q3 => ⟨by show 3 ≤ sizeLine; rw [sizeLine_eq]; omega, fun lf nlf => by
    have x : Ex H3 (upd H3 lf (.lst [a, b, c])) := Ex.new nlf
    exact k _ lf a b c (((e1.trans e2).trans e3).trans x) upd_same (q1.ext ((e2.trans e3).trans x)) (q2.ext (e3.trans x)) (q3.ext x)⟩
theorem s_asg4 {i : Nat} {D : Ends} {t1 t2 t3 t4 : TE} {p1 p2 p3 : List (Str × W)} {o : O} (h1 : EvP t1 σ H (SubP p1)) (h2 : EvP t2 σ H (SubP p2)) (h3 : EvP t3 σ H (SubP p3)) (h4 : EvP t4 σ H (fun v G => OV G v o))
    (k : ∀ G' lf a b c d, Ex H G' → G' lf = some (.lst [a, b, c, d]) → SubP p1 a G' → SubP p2 b G' → SubP p3 c G' → OV G' d o → D.nx (σ.set i (some (.ref lf))) G') : tAsg (tLst (tCons t1 (tCons t2 (tCons t3 (tCons t4 tNil))))) (gName i) D σ H :=
  h1 H (Ex.refl _) _ fun a H1 e1 q1 => h2 H1 e1 _ fun b H2 e2 q2 => h3 H2 (e1.trans e2) _ fun c H3 e3 q3 => h4 H3 ((e1.trans e2).trans e3) _ fun d H4 e4 q4 => ⟨by show 4 ≤ sizeLine; rw [sizeLine_eq]; omega, fun lf nlf => by
    have x : Ex H4 (upd H4 lf (.lst [a, b, c, d])) := Ex.new nlf
    exact k _ lf a b c d ((((e1.trans e2).trans e3).trans e4).trans x) upd_same (q1.ext (((e2.trans e3).trans e4).trans x)) (q2.ext ((e3.trans e4).trans x)) (q3.ext (e4.trans x)) (q4.ext x)⟩
/-- found.append(..) -/
theorem s_app1 {i : Nat} {D : Ends} {t : TE} {lf : Addr} {acc : List V} {o : O} (hi : σ[i]? = some (some (.ref lf))) (hf : H lf = some (.lst acc)) (hl : acc.length ≤ 100) (h : EvOx H t σ H o)
    (k : ∀ v H2, Ex H H2 → OV (upd H2 lf (.lst (acc ++ [v]))) v o → D.nx σ (upd H2 lf (.lst (acc ++ [v])))) : tDrop (tBM K "list" rAppend (tVar i) (tCons t tNil)) D σ H := by
  refine ⟨.ref lf, hi, .inl ⟨rfl, _, sq_of hf⟩, h H (Ex.refl _) _ fun v H2 e2 hv => ?_⟩
  exact ⟨lf, acc, v, rfl, rfl, e2 _ _ hf, sz_lt (by omega), k v H2 e2 ((hv.ext (Go.upd ⟨acc, hf⟩ : Go (Old H) H2 (upd H2 lf (.lst (acc ++ [v])))).ex).ext hx_ex)⟩
theorem evp_disp1 {z : W} {ta : TA} {k : Str} (h : ∀ H1, Ex H H1 → EvOx H1 (tTup ta) σ H1 z.o) : EvP (tDisp [(tC (V.str k), tTup ta)]) σ H (SubP [(k, z)]) := fun H1 e Q q p np => by
  unfold tPairs tC
  dsimp only
  refine h (upd H1 p (.dK [])) (e.trans (Ex.new np)) _ (Ex.refl _) _ fun v H2 x2 hv => ?_
  have hv := hv.ext hx_ex
  have hp := x2 _ _ (upd_same (a := p) (H := H1) (o := .dK []))
  refine ⟨hp, [(Sum.inr k, v)], rfl, by show 1 ≤ 15; decide, ?_⟩
  rw [mergeK_one]
  have tx := Tx.dct (o := .dK [((Sum.inr k : Key), v)]) hp
  refine q (.ref p) _ (Ex.mut ((Ex.new np).trans x2) np) ⟨p, rfl, SubV.of (kv := [(Sum.inr k, v)]) upd_same rfl (by simp) (.cons ?_ .nil)⟩
  have hw : WV H2 v z := hv
  exact hw.tx tx
theorem evp_disp1s {k s : Str} : EvP (tDisp [(tC (V.str k), tC (V.str s))]) σ H (SubP [(k, .v s)]) := fun H1 e Q q p np => by
  refine ⟨upd_same, [(Sum.inr k, .str s)], rfl, by show 1 ≤ 15; decide, ?_⟩
  rw [mergeK_one]
  exact q (.ref p) _ (Ex.mut (Ex.new np) np) ⟨p, rfl, SubV.of (kv := [(Sum.inr k, .str s)]) upd_same rfl (by simp) (.cons rfl .nil)⟩
theorem evp_disp2s {k l s t : Str} (nd : ([k, l] : List Str).Nodup) : EvP (tDisp [(tC (V.str k), tC (V.str s)), (tC (V.str l), tC (V.str t))]) σ H (SubP [(k, .v s), (l, .v t)]) := fun H1 e Q q p np => by
  refine ⟨upd_same, [(Sum.inr k, .str s), (Sum.inr l, .str t)], rfl, by show 2 ≤ 15; decide, ?_⟩
  rw [mergeK_nil (by
    show ([Sum.inr k, Sum.inr l] : List Key).Nodup
    simp only [List.nodup_cons, List.mem_singleton, List.not_mem_nil, not_false_eq_true, List.nodup_nil, and_true] at nd ⊢
    exact fun z => nd (Sum.inr.inj z))]
  exact q (.ref p) _ (Ex.mut (Ex.new np) np) ⟨p, rfl, SubV.of (kv := [(Sum.inr k, .str s), (Sum.inr l, .str t)]) upd_same rfl nd (.cons rfl (.cons rfl .nil))⟩
end
end K24

set_option Elab.async false
set_option linter.all false
set_option maxRecDepth 100000
set_option maxHeartbeats 1000000
/-! The law, statement by statement. -/
namespace K24
open PySem PySem.Spec PyProof.Rows L2 Evl LamX
section
variable {P : Program} {w : World} {K : PySem.W.Frag} {mg : Str → Option Value} {base : Heap} {f c : Addr} {A : Around} {outer : List Env} {s : Shared} {HX : Hp}
theorem lb0 (T : T24 P w K mg base) (hr : Room 46 (XL P w K mg base f c A outer s HX).A) : ∃ t, PS (XL P w K mg base f c A outer s HX) (stL 0) t ∧
    ∀ (D : Ends) (G : Hp) (c1 c2 c3 c4 c5 : Option V) (a : Addr) (ns : List Int), SqL K G a (ns.map V.int) → Tabs (tabT K) G →
      (∀ G' p q, Spr G' p q 0 → Tabs (tabT K) G' → D.nx [some (.ref a), some (.ref p), c2, c3, c4, c5] G') →
      t D [some (.ref a), c1, c2, c3, c4, c5] G := by
  obtain ⟨fS, dS, GS, bS, kS, mS⟩ := (ok_start T).ex
  refine ⟨_, ps_set (i := 1) sc_lw.nd rfl (Or.inl rfl) (pe_call GS (hr.mono (by decide)) (by rfl) mS kS bS .nil pass0 (pa_cons (pv 0) pa_nil)), ?_⟩
  intro D G c1 c2 c3 c4 c5 a ns hS hT k
  exact ⟨.ref a, rfl, a, ns, rfl, hS, fun p q G' np nq e S => k G' p q S (hT.ext e)⟩
theorem lb1 (T : T24 P w K mg base) (hr : Room 46 (XL P w K mg base f c A outer s HX).A) (hg : (XL P w K mg base f c A outer s HX).A.guards = some []) : ∃ t, PS (XL P w K mg base f c A outer s HX) (stL 1) t ∧
    ∀ (D : Ends) (G : Hp) (c0 c2 c3 c4 c5 : Option V) (p q : Addr), Spr G p q 0 → Tabs (tabT K) G →
      (∀ G' c2' c3', Tabs (tabT K) G' → D.nx [c0, some (.ref p), c2', c3', c4, c5] G') →
      t D [c0, some (.ref p), c2, c3, c4, c5] G := by
  obtain ⟨fD, dD, GD, bD, kD, mD⟩ := (ok_dr T).ex
  obtain ⟨⟨fdP, FP⟩, mP⟩ := T.df 46 "_law_put_right" s__law_put_right rfl
  have GP := ok_put_right T FP
  have bP := FP.bindsN (ps := ["_law_stream", "_law_variables"]) fun kV doc pm an cdv ct us hl => match us, hl with | [_, _], _ => rfl
  obtain ⟨⟨fdM, FM⟩, mM⟩ := T.df 47 "_law_match_right" s__law_match_right rfl
  have GM := ok_match_right T FM
  have bM := FM.bindsN (ps := ["_law_stream", "_law_variables"]) fun kV doc pm an cdv ct us hl => match us, hl with | [_, _], _ => rfl
  refine ⟨_, ps_for PassesOwn.never rfl (pi_range1 (by rfl) T.range (pa_cons pe_int pa_nil)) (pg_name (i := 2) sc_lw.nd rfl (Or.inl rfl))
    (pss_cons (ps_set (i := 3) sc_lw.nd rfl (Or.inl rfl) (pe_slice sl_list (pe_lst (pa_cons pe_str (pa_cons pe_str (pa_cons pe_str pa_nil)))) po_none (po_some (pe_call GD (hr.mono (by decide)) (by rfl) mD kD bD .nil pass0 (pa_cons (pv 1) (pa_cons pe_int pa_nil))))))
    (pss_one (ps_if (PW.pt (pw_or (pt_not (pt_val (pe_callG GP hg hr (by rfl) mP FP.kp bP (pa_cons (pv 1) (pa_cons (pv 3) pa_nil))))) (pw_or1 (pt_not (pt_val (pe_callG GM hg hr (by rfl) mM FM.kp bM (pa_cons (pv 1) (pa_cons (pv 3) pa_nil)))))))) (pss_one ps_never) pss_nil))), ?_⟩
  intro D G c0 c2 c3 c4 c5 p q S hT k
  refine s_forR1 (n := 14) (ea_cons ev_c ea_nil) (by decide) (fun i σ' G' => (∃ c2' c3', σ' = [c0, some (.ref p), c2', c3', c4, c5]) ∧ ∃ n', Spr G' p q n' ∧ n' ≤ 2600 * (i : Nat) ∧ Tabs (tabT K) G') ?_ ?_ ?_
  · intro G1 e1
    exact ⟨⟨_, _, rfl⟩, 0, S.ext e1, by omega, hT.ext e1⟩
  · rintro i σ' G' hi ⟨⟨c2', c3', rfl⟩, n', S', hn', T'⟩
    refine ⟨by show 3 ≤ sizeLine; rw [sizeLine_eq]; omega, fun l hl => ?_⟩
    have x1 : Ex G' (upd G' l (.lst [V.str "X", V.str "Y", V.str "Z"])) := Ex.new hl
    obtain ⟨l1, l2⟩ := S'.nep hl
    have S1 := S'.ext x1
    refine ⟨.ref p, rfl, p, q, n', 4, rfl, S1, by omega, by decide, by decide, fun rr G2 r0 r1 S2 B2 => ?_⟩
    have T2 := tabs_but (T'.ext x1) B2 S1
    obtain ⟨j, rfl⟩ : ∃ j : Nat, rr = (j : Int) := ⟨rr.toNat, by omega⟩
    refine ⟨(j : Int), rfl, l, _, rfl, sq_of (B2 _ _ l1 l2 upd_same), fun va hva => ?_⟩
    rw [cut_toV, sv_take]
    have x3 : Ex G2 (upd G2 va (.lst (sVs (SV3.take j)))) := Ex.new hva
    obtain ⟨v1, v2⟩ := S2.nep hva
    have S3 := S2.ext x3
    have T3 := T2.ext x3
    have V3 : Vrs (upd G2 va (.lst (sVs (SV3.take j)))) p q va (SV3.take j) := ⟨upd_same, v1, v2, by rw [List.length_take]; show min j 3 ≤ 4; omega, fun s hs => sv3_in s (List.mem_of_mem_take hs)⟩
    refine ⟨.ref p, rfl, .ref va, rfl, p, q, va, n' + 1, SV3.take j, rfl, S3, by omega, V3, fun G4 n4 S4 hn4 B4 => ⟨true, rfl, ?_⟩⟩
    refine ⟨.ref p, rfl, .ref va, rfl, p, q, va, n4, SV3.take j, rfl, S4, by omega, V3.but B4, fun G5 n5 S5 hn5 B5 => ⟨true, rfl, ?_⟩⟩
    exact ⟨⟨_, _, rfl⟩, n5, S5, by omega, tabs_but (tabs_but T3 B4 S3) B5 S4⟩
  · rintro σ' G' ⟨⟨c2', c3', rfl⟩, n', S', hn', T'⟩
    exact k G' c2' c3' T'
def wX : W := .v "X"
def wFX : W := .n "f" [.v "X"]
def wFY : W := .n "f" [.v "Y"]
def wFFX : W := .n "f" [wFX]
def wXY : W := .n "g" [.v "X", .v "Y"]
def wYX : W := .n "g" [.v "Y", .v "X"]
def wFXX : W := .n "g" [wFX, .v "X"]
def wFYa : W := .n "g" [wFY, .n "a" []]
theorem dzc {z : W} (h : (z.o.fitW && z.o.ss && decide (z.nd ≤ 100) && decide (z.dp ≤ 5)) = true) : Dz z := by
  simp only [Bool.and_eq_true, decide_eq_true_eq] at h
  exact ⟨h.1.1.1, h.1.1.2, by omega, by omega⟩
theorem um1 : um wFX wFFX [] [] = ((none, [(("X" : Str), (([0] : List Nat), wFX))]) : Option Ft × FD) := by rfl
theorem um2 : um wXY wYX [] [] = ((none, [(("X" : Str), (([0] : List Nat), W.v "Y")), (("Y" : Str), (([1] : List Nat), W.v "X"))]) : Option Ft × FD) := by rfl
theorem um3 : um wX wX [] [] = ((none, [(("X" : Str), (([] : List Nat), W.v "X"))]) : Option Ft × FD) := by rfl
theorem um4 : um wFXX wFYa [] [] = ((some (.twice [0, 0] [1]), [(("X" : Str), (([0, 0] : List Nat), W.v "Y"))]) : Option Ft × FD) := by rfl
end
end K24

set_option Elab.async false
set_option linter.all false
set_option maxRecDepth 100000
set_option maxHeartbeats 1000000
/-! The law, its end; the whole law. -/
namespace K24
open PySem PySem.Spec PyProof.Rows L2 Evl LamX
section
variable {P : Program} {w : World} {K : PySem.W.Frag} {mg : Str → Option Value} {base : Heap} {f c : Addr} {A : Around} {outer : List Env} {s : Shared} {HX : Hp}
theorem wv1 {σ : L2.St} {G : Hp} {f x : Str} : EvP (tTup (tCons (tC (.str f)) (tCons (tC (.str x)) tNil))) σ G (fun v J => OV J v (W.n f [.v x]).o) := evp_ov fun H1 _ => eox_tup (Ex.refl _) (eax_cons eox_str (eax_cons eox_str eax_nil)) (by show 2 ≤ 1000; decide)
theorem wv2 {σ : L2.St} {G : Hp} {f x y : Str} : EvP (tTup (tCons (tC (.str f)) (tCons (tC (.str x)) (tCons (tC (.str y)) tNil)))) σ G (fun v J => OV J v (W.n f [.v x, .v y]).o) := evp_ov fun H1 _ => eox_tup (Ex.refl _) (eax_cons eox_str (eax_cons eox_str (eax_cons eox_str eax_nil))) (by show 3 ≤ 1000; decide)
theorem wvS {σ : L2.St} {G : Hp} {x : Str} : EvP (tC (.str x)) σ G (fun v J => OV J v (W.v x).o) := evp_ov fun H1 _ => eox_str
theorem wvF {σ : L2.St} {G : Hp} {f x : Str} : EvP (tTup (tCons (tC (.str f)) (tCons (tTup (tCons (tC (.str f)) (tCons (tC (.str x)) tNil))) tNil))) σ G (fun v J => OV J v (W.n f [.n f [.v x]]).o) := evp_ov fun H1 _ => eox_tup (Ex.refl _) (eax_cons eox_str (eax_cons (eox_tup (Ex.refl _) (eax_cons eox_str (eax_cons eox_str eax_nil)) (by show 2 ≤ 1000; decide)) eax_nil)) (by show 2 ≤ 1000; decide)
theorem wvG {σ : L2.St} {G : Hp} {g f x y : Str} : EvP (tTup (tCons (tC (.str g)) (tCons (tTup (tCons (tC (.str f)) (tCons (tC (.str x)) tNil))) (tCons (tC (.str y)) tNil)))) σ G (fun v J => OV J v (W.n g [.n f [.v x], .v y]).o) := evp_ov fun H1 _ => eox_tup (Ex.refl _) (eax_cons eox_str (eax_cons (eox_tup (Ex.refl _) (eax_cons eox_str (eax_cons eox_str eax_nil)) (by show 2 ≤ 1000; decide)) (eax_cons eox_str eax_nil))) (by show 3 ≤ 1000; decide)
theorem wvH {σ : L2.St} {G : Hp} {g f x a : Str} : EvP (tTup (tCons (tC (.str g)) (tCons (tTup (tCons (tC (.str f)) (tCons (tC (.str x)) tNil))) (tCons (tTup (tCons (tC (.str a)) tNil)) tNil)))) σ G (fun v J => OV J v (W.n g [.n f [.v x], .n a []]).o) := evp_ov fun H1 _ => eox_tup (Ex.refl _) (eax_cons eox_str (eax_cons (eox_tup (Ex.refl _) (eax_cons eox_str (eax_cons eox_str eax_nil)) (by show 2 ≤ 1000; decide)) (eax_cons (eox_tup (Ex.refl _) (eax_cons eox_str eax_nil) (by show 1 ≤ 1000; decide)) eax_nil))) (by show 3 ≤ 1000; decide)
def dueO : O := .tup [.str "twice", .lst [.int 0, .int 0], .lst [.int 1]]
theorem twice_o : (Ft.twice [0, 0] [1]).o = dueO := rfl
theorem wvD {σ : L2.St} {G : Hp} : EvP (tTup (tCons (tC (.str "twice")) (tCons (tLst (tCons (tC (.int 0)) (tCons (tC (.int 0)) tNil))) (tCons (tLst (tCons (tC (.int 1)) tNil)) tNil)))) σ G (fun v J => OV J v dueO) := evp_ov fun H1 _ => eox_tup (Ex.refl _) (eax_cons eox_str (eax_cons (eox_lst (Ex.refl _) (eax_cons eox_int (eax_cons eox_int eax_nil)) (by show 2 ≤ 1000; decide)) (eax_cons (eox_lst (Ex.refl _) (eax_cons eox_int eax_nil) (by show 1 ≤ 1000; decide)) eax_nil))) (by show 3 ≤ 1000; decide)
theorem sm_p {G : Hp} {m : Nat} {ps : List (Str × W)} {u v : V} (h1 : SubP ps u G) (h2 : SubP ps v G) (hl : ps.length ≤ 8) (hz : ∀ x ∈ ps, x.2.dp ≤ 6 ∧ x.2.nd ≤ 600) : Sm G (m + 1) u v := by
  obtain ⟨d, rfl, a⟩ := h1
  obtain ⟨e, rfl, b⟩ := h2
  exact sm_sub a b hl hz
def p1s : List (Str × W) := [("X", wFX)]
def p2s : List (Str × W) := [("X", .v "Y"), ("Y", .v "X")]
def p3s : List (Str × W) := [("X", .v "X")]
theorem lb2 (T : T24 P w K mg base) (hr : Room 46 (XL P w K mg base f c A outer s HX).A) : ∃ t, PS (XL P w K mg base f c A outer s HX) (stL 2) t ∧
    ∀ (D : Ends) (G : Hp) (c0 c1 c2 c3 c4 c5 : Option V), (∀ G' lf a b c, Ex G G' → G' lf = some (.lst [a, b, c]) → SubP p1s a G' → SubP p2s b G' → SubP p3s c G' → D.nx [c0, c1, c2, c3, some (.ref lf), c5] G') → t D [c0, c1, c2, c3, c4, c5] G := by
  obtain ⟨fM, dM, GM, bM, kM, mM⟩ := (ok_match T).ex
  refine ⟨_, ps_set (i := 4) sc_lw.nd rfl (Or.inl rfl) (pe_lst (pa_cons (pe_callS (sp := spMt K kMatch) GM (hr.mono (by decide)) (by rfl) mM kM bM (fun σ => passAt L2.takes0 σ) (pa_cons (pe_tup (pa_cons pe_str (pa_cons pe_str pa_nil))) (pa_cons (pe_tup (pa_cons pe_str (pa_cons (pe_tup (pa_cons pe_str (pa_cons pe_str pa_nil))) pa_nil))) pa_nil)))
    (pa_cons (pe_callS (sp := spMt K kMatch) GM (hr.mono (by decide)) (by rfl) mM kM bM (fun σ => passAt L2.takes0 σ) (pa_cons (pe_tup (pa_cons pe_str (pa_cons pe_str (pa_cons pe_str pa_nil)))) (pa_cons (pe_tup (pa_cons pe_str (pa_cons pe_str (pa_cons pe_str pa_nil)))) pa_nil)))
    (pa_cons (pe_callS (sp := spMt K kMatch) GM (hr.mono (by decide)) (by rfl) mM kM bM (fun σ => passAt L2.takes0 σ) (pa_cons pe_str (pa_cons pe_str pa_nil))) pa_nil)))), ?_⟩
  intro D G c0 c1 c2 c3 c4 c5 k
  exact s_asg3 (p1 := p1s) (p2 := p2s) (p3 := p3s) (evp_match (p := wFX) (z := wFFX) (dzc (by decide +kernel)) (dzc (by decide +kernel)) um1 rfl (by decide +kernel) (by show 1 < 64; decide) wv1 wvF) (evp_match (p := wXY) (z := wYX) (dzc (by decide +kernel)) (dzc (by decide +kernel)) um2 rfl (by decide +kernel) (by show 2 < 64; decide) wv2 wv2) (evp_match (p := wX) (z := wX) (dzc (by decide +kernel)) (dzc (by decide +kernel)) um3 rfl (by decide +kernel) (by show 1 < 64; decide) wvS wvS) k
theorem lb3 (T : T24 P w K mg base) (hr : Room 46 (XL P w K mg base f c A outer s HX).A) : ∃ t, PS (XL P w K mg base f c A outer s HX) (stL 3) t ∧
    ∀ (D : Ends) (G : Hp) (c0 c1 c2 c3 c5 : Option V) (lf : Addr) (acc : List V), G lf = some (.lst acc) → acc.length ≤ 100 → (∀ v H2, Ex G H2 → OV (upd H2 lf (.lst (acc ++ [v]))) v dueO → D.nx [c0, c1, c2, c3, some (.ref lf), c5] (upd H2 lf (.lst (acc ++ [v])))) → t D [c0, c1, c2, c3, some (.ref lf), c5] G := by
  obtain ⟨fF, dF, GF, bF, kF, mF⟩ := (ok_match_fault T).ex
  refine ⟨_, ps_expr (pe_bm PySem.F.plainAttrs_list PySem.F.slot_list_append PySem.F.type_list_append mt_append (pv 4) (pa_cons (pe_callS (sp := spMt K kFault) GF (hr.mono (by decide)) (by rfl) mF kF bF (fun σ => passAt L2.takes0 σ)
    (pa_cons (pe_tup (pa_cons pe_str (pa_cons (pe_tup (pa_cons pe_str (pa_cons pe_str pa_nil))) (pa_cons pe_str pa_nil)))) (pa_cons (pe_tup (pa_cons pe_str (pa_cons (pe_tup (pa_cons pe_str (pa_cons pe_str pa_nil))) (pa_cons (pe_tup (pa_cons pe_str pa_nil)) pa_nil)))) pa_nil))) pa_nil)), ?_⟩
  intro D G c0 c1 c2 c3 c5 lf acc h hl k
  exact s_app1 (i := 4) rfl h hl (evp_fault (Ex.refl _) (p := wFXX) (z := wFYa) (dzc (by decide +kernel)) (dzc (by decide +kernel)) um4 wvG wvH) k
theorem lb4 : ∃ t, PS (XL P w K mg base f c A outer s HX) (stL 4) t ∧
    ∀ (D : Ends) (G : Hp) (c0 c1 c2 c3 c4 c5 : Option V), (∀ G' lf a b c d, Ex G G' → G' lf = some (.lst [a, b, c, d]) → SubP p1s a G' → SubP p2s b G' → SubP p3s c G' → OV G' d dueO → D.nx [c0, c1, c2, c3, c4, some (.ref lf)] G') → t D [c0, c1, c2, c3, c4, c5] G := by
  refine ⟨_, ps_set (i := 5) sc_lw.nd rfl (Or.inl rfl) (pe_lst (pa_cons (pe_disp (pps_cons pe_str (pe_tup (pa_cons pe_str (pa_cons pe_str pa_nil))) pps_nil) (by rfl) (by rfl) (fun z => by cases z) (by decide))
    (pa_cons (pe_disp (pps_cons pe_str pe_str (pps_cons pe_str pe_str pps_nil)) (by rfl) (by rfl) (fun z => by cases z) (by decide))
    (pa_cons (pe_disp (pps_cons pe_str pe_str pps_nil) (by rfl) (by rfl) (fun z => by cases z) (by decide))
    (pa_cons (pe_tup (pa_cons pe_str (pa_cons (pe_lst (pa_cons pe_int (pa_cons pe_int pa_nil))) (pa_cons (pe_lst (pa_cons pe_int pa_nil)) pa_nil)))) pa_nil))))), ?_⟩
  intro D G c0 c1 c2 c3 c4 c5 k
  exact s_asg4 (p1 := p1s) (p2 := p2s) (p3 := p3s) (o := dueO) (evp_disp1 (z := wFX) fun H1 _ => eox_tup (Ex.refl _) (eax_cons eox_str (eax_cons eox_str eax_nil)) (by show 2 ≤ 1000; decide)) (evp_disp2s (by decide +kernel)) evp_disp1s wvD k
theorem lb5 (T : T24 P w K mg base) (t2 : TabF K mg base) (hr : Room 46 (XL P w K mg base f c A outer s HX).A) (hg : (XL P w K mg base f c A outer s HX).A.guards = some []) : ∃ t, PS (XL P w K mg base f c A outer s HX) (stL 5) t ∧
    ∀ (D : Ends) (G : Hp) (c0 c1 c2 c3 : Option V) (lf ld : Addr), Sm G 2 (.ref lf) (.ref ld) → Tabs (tabT K) G → (∀ G', D.rt (.bl true) G') → t D [c0, c1, c2, c3, some (.ref lf), some (.ref ld)] G := by
  obtain ⟨fS, dS, GS, bS, kS, mS⟩ := (ok_sameX T 2).ex
  obtain ⟨⟨fdR, FR⟩, mR⟩ := T.df 48 "_law_refused_right" s__law_refused_right rfl
  have GR := ok_refused T t2 FR
  have bR := FR.bindsN (ps := []) fun kV doc pm an cdv ct us hl => match us, hl with | [], _ => rfl
  refine ⟨_, ps_ret (pe_and (pe_call GS (hr.mono (by decide)) (by rfl) mS kS bS .nil pass0 (pa_cons (pv 4) (pa_cons (pv 5) pa_nil))) (pe_one (pe_callG0 GR hg hr (by rfl) mR FR.kp bR))), ?_⟩
  intro D G c0 c1 c2 c3 lf ld hS hT k
  exact ⟨.ref lf, rfl, .ref ld, rfl, .ref lf, .ref ld, rfl, hS, fun G1 e1 => ⟨true, rfl, rfl, hT.ext e1, fun G2 => k G2⟩⟩
end
def spLaw (K : PySem.W.Frag) : Sp := fun vs H Q _ => ∃ (a : Addr) (ns : List Int), vs = [.ref a] ∧ SqL K H a (ns.map V.int) ∧ Tabs (tabT K) H ∧ ∀ G, Q (.bl true) G
section
variable {P : Program} {w : World} {K : PySem.W.Frag} {mg : Str → Option Value} {base : Heap}
theorem ok_law (T : T24 P w K mg base) (t2 : TabF K mg base) {fd : FuncData} (F : FnP K "law" s_law (He.ga K "law") fd) : FnG P w K mg base 47 (He.ga K "law") fd ["_law_script"] (spLaw K) := by
  refine FnG.of F sc_lw (fun vs H Q E h => ?_) (fun c _ A outer s H vs Q hg hr h => ?_)
  · obtain ⟨a, ns, rfl, _⟩ := h
    rfl
  · obtain ⟨a, ns, rfl, hS, hT, kf⟩ := h
    obtain ⟨u0, p0, k0⟩ := lb0 (c := c) (outer := outer) (s := s) (HX := H) T hr
    obtain ⟨u1, p1, k1⟩ := lb1 (c := c) (outer := outer) (s := s) (HX := H) T hr hg
    obtain ⟨u2, p2, k2⟩ := lb2 (c := c) (outer := outer) (s := s) (HX := H) T hr
    obtain ⟨u3, p3, k3⟩ := lb3 (c := c) (outer := outer) (s := s) (HX := H) T hr
    obtain ⟨u4, p4, k4⟩ := lb4 (P := P) (w := w) (K := K) (mg := mg) (base := base) (f := He.ga K "law") (c := c) (A := A) (outer := outer) (s := s) (HX := H)
    obtain ⟨u5, p5, k5⟩ := lb5 (c := c) (outer := outer) (s := s) (HX := H) T t2 hr hg
    refine ⟨tSeq u0 (tSeq u1 (tSeq u2 (tSeq u3 (tSeq u4 u5)))), PSs.nox (pss_cons p0 (pss_cons p1 (pss_cons p2 (pss_cons p3 (pss_cons p4 (pss_one p5)))))), ?_⟩
    refine k0 _ H _ _ _ _ _ a ns hS hT fun G1 p q S1 T1 => ?_
    refine k1 _ G1 _ _ _ _ _ p q S1 T1 fun G2 c2 c3 T2 => ?_
    refine k2 _ G2 _ _ _ _ _ _ fun G3 lf x y z e3 h3 hx hy hz => ?_
    refine k3 _ G3 _ _ _ _ _ lf [x, y, z] h3 (by show 3 ≤ 100; decide) fun v G4 e4 hv => ?_
    have T4 : Tabs (tabT K) G4 := (T2.ext e3).ext e4
    have h4 := e4 _ _ h3
    have T5 : Tabs (tabT K) (upd G4 lf (.lst ([x, y, z] ++ [v]))) := tabs_put T4 h4
    have tx := Tx.lst (o := .lst ([x, y, z] ++ [v])) h4
    have sp : ∀ {ps : List (Str × W)} {u : V}, SubP ps u G4 → SubP ps u (upd G4 lf (.lst ([x, y, z] ++ [v]))) := fun {ps u} ⟨d, e, hd⟩ => ⟨d, e, hd.tx tx fun o ho => by
      obtain ⟨kv, a, _⟩ := hd.get
      rw [upd_ne (ne_of a h4 (by intro z; cases z))]
      exact ho⟩
    have hx5 := sp (hx.ext e4)
    have hy5 := sp (hy.ext e4)
    have hz5 := sp (hz.ext e4)
    have h5 : (upd G4 lf (.lst ([x, y, z] ++ [v]))) lf = some (.lst [x, y, z, v]) := upd_same
    generalize upd G4 lf (.lst ([x, y, z] ++ [v])) = G5 at hv T5 hx5 hy5 hz5 h5
    refine k4 _ G5 _ _ _ _ _ _ fun G6 ld x2 y2 z2 v2 e6 h6 hx6 hy6 hz6 hv6 => ?_
    have sm : Sm G6 2 (.ref lf) (.ref ld) := by
      refine .inr (.inr ⟨true, lf, ld, [x, y, z, v], [x2, y2, z2, v2], rfl, rfl, e6 _ _ h5, h6, rfl, by show 4 ≤ 1000; decide, fun i a b ha hb => ?_⟩)
      match i, ha, hb with
      | 0, ha, hb =>
        obtain rfl : x = a := by simpa using ha
        obtain rfl : x2 = b := by simpa using hb
        exact .inr (sm_p (m := 0) (hx5.ext e6) hx6 (by show 1 ≤ 8; decide) (by unfold p1s; decide +kernel))
      | 1, ha, hb =>
        obtain rfl : y = a := by simpa using ha
        obtain rfl : y2 = b := by simpa using hb
        exact .inr (sm_p (m := 0) (hy5.ext e6) hy6 (by show 2 ≤ 8; decide) (by unfold p2s; decide +kernel))
      | 2, ha, hb =>
        obtain rfl : z = a := by simpa using ha
        obtain rfl : z2 = b := by simpa using hb
        exact .inr (sm_p (m := 0) (hz5.ext e6) hz6 (by show 1 ≤ 8; decide) (by unfold p3s; decide +kernel))
      | 3, ha, hb =>
        obtain rfl : v = a := by simpa using ha
        obtain rfl : v2 = b := by simpa using hb
        exact .inl ⟨dueO, hv.ext e6, hv6, by decide +kernel, by decide +kernel⟩
    exact k5 _ G6 _ _ _ _ lf ld sm (T5.ext e6) kf
end
end K24

set_option Elab.async false
set_option linter.all false
set_option maxRecDepth 100000
set_option maxHeartbeats 4000000
/-! The law's call from the head's heap, where no guard stands; facts of the error classes. -/
namespace K24
open PySem PySem.Spec PyProof.Rows L2 LamX
/-- what is tracked at first: the tables of T, the script at a -/
def H00 (K : PySem.W.Frag) (a : Addr) (T : List Addr) (u : HO) : Hp := fun b => if b ∈ T then some (.tbl #[]) else if b = a ∧ K.lookup a = none then some u else none
section
variable {K : PySem.W.Frag} {a : Addr} {T : List Addr} {u : HO}
theorem h00_tab {b : Addr} (h : b ∈ T) : H00 K a T u b = some (.tbl #[]) := if_pos h
theorem h00_a (n : a ∉ T) (k : K.lookup a = none) : H00 K a T u a = some u := (if_neg n).trans (if_pos ⟨rfl, k⟩)
theorem h00_some {b : Addr} {o : HO} (h : H00 K a T u b = some o) : (b ∈ T ∧ o = .tbl #[]) ∨ (b = a ∧ K.lookup a = none ∧ o = u) := by
  unfold H00 at h
  by_cases c : b ∈ T
  · rw [if_pos c] at h
    exact .inl ⟨c, (Option.some.inj h).symm⟩
  · rw [if_neg c] at h
    by_cases c2 : b = a ∧ K.lookup a = none
    · rw [if_pos c2] at h
      exact .inr ⟨c2.1, c2.2, (Option.some.inj h).symm⟩
    · rw [if_neg c2] at h
      cases h
theorem h00_none {b : Addr} (h1 : b ∉ T) (h2 : b = a → K.lookup a ≠ none) : H00 K a T u b = none := by
  unfold H00
  rw [if_neg h1]
  exact if_neg fun z => h2 z.1 z.2
end
abbrev tabObj : Obj := { cls := .none, data := .fields #[] }
theorem law_callG {P : Program} {w : World} {K : PySem.W.Frag} {mg mb : Str → Option Value} {k : Nat} {fa a : Addr} {cs : List (Addr × Addr)} {fd : FuncData} {x : Str} {sp : Sp} {s : Shared} {vs : List Value} {ns : List Int}
    (KX : K.In s.heap) (hns : s.heap.Ns mainGlobals mg) (hb : s.heap.Ns builtinsNs mb) (hbb : ∀ x : Str, x ≠ "__name__" → mb x = bootBuiltins x) (hlim : s.heap.NoLimit) (hg : s.gens = #[])
    (hT : ∀ p ∈ cs, s.heap.get? p.2 = some tabObj) (nT : ∀ p ∈ cs, K.lookup p.2 = none) (C : ∀ p ∈ cs, PySem.W.CodeHd s.heap p.1 p.2)
    (hbm : ∃ (bm : Addr) (ob : Obj), mg "__builtins__" = some (.ref bm) ∧ bm ≠ builtinsNs ∧ s.heap.get? bm = some ob ∧ ob.cls = .type "module" ∧ ob.dict = some builtinsNs ∧ ob.data = .plain)
    (ha : s.heap.get? a = some { cls := .type "list", data := .seq vs.toArray }) (hi : IntsAre vs ns) (hl : ns.length ≤ sizeLine) (hr : Room k callerA)
    (F : ∀ base : Heap, K.In base → base.Ns mainGlobals mg → (∀ p ∈ cs, TabB base mg p.1 p.2) → FnG P w K mg base k fa fd [x] sp) (hbind : ∀ (s : Shared) (u : Value), BindsTo s fd ⟨[u], []⟩ [(x, u)])
    (hsp : ∀ H : Hp, (∀ p ∈ cs, H p.2 = some (.tbl #[])) → SqL K H a (ns.map V.int) → sp [.ref a] H (fun v _ => v = .bl true) E0) :
    codeAny (model P w) callerA (.call (.ref fa) ⟨[.ref a], []⟩) (fun r s' => r = .ok (.ret (.bool true)) ∧ OldK s.heap s'.heap ∧ s'.os = s.os ∧ AllBare s'.gens) s := by
  have rv := vals_ints hi
  let T := cs.map (·.2)
  let u : HO := .frz { cls := .type "list", data := .seq vs.toArray } (.lst (ns.map V.int))
  let H := H00 K a T u
  have tabAt : ∀ b ∈ T, s.heap.get? b = some tabObj := fun b hb => by
    obtain ⟨p, hp, e⟩ := List.mem_map.mp hb
    rw [← e]
    exact hT p hp
  have aT : a ∉ T := fun z => by
    have q := (tabAt a z).symm.trans ha
    cases q
  -- what is neither a list nor a table is not tracked
  have free : ∀ {b : Addr} {o : Obj}, s.heap.get? b = some o → (∀ its n, o.data ≠ .seq its n) → o.data ≠ .fields #[] → H b = none := fun {b o} e n1 n2 => h00_none (fun z => by
    rw [tabAt b z] at e
    exact n2 (by rw [← Option.some.inj e])) fun z => by
    rw [z, ha] at e
    exact (n1 _ _ (by rw [← Option.some.inj e])).elim
  have hok : HOk P w H s.heap := fun b o e => by
    rcases h00_some e with ⟨z, rfl⟩ | ⟨rfl, _, rfl⟩
    · exact tabAt b z
    · exact ⟨ha, by rw [List.length_map]; exact hl, vs, _, rv, ha⟩
  have hS : SqL K H a (ns.map V.int) := by
    cases q : K.lookup a with
    | none => exact .inl (.inr ⟨_, h00_a aT q⟩)
    | some o =>
      have e := (KX a o q).symm.trans ha
      rw [Option.some.inj e] at q
      exact .inr ⟨_, vs.toArray, _, q, rfl, rfl, rfl, by rw [List.size_toArray, hi.length]; exact hl, by simpa using rv⟩
  have up : ∀ {b : Addr} {o : Obj}, s.heap.get? b = some o → H b = none → (hidT s.heap H).get? b = some o := fun e n => hidT_get e n
  have ups : ∀ {b : Addr} {m : Str → Option Value}, s.heap.Ns b m → (hidT s.heap H).Ns b m := fun {b m} ⟨o, es, ep, e, d, r⟩ =>
    ⟨o, es, ep, up e (free e (fun _ _ z => by rw [d] at z; cases z) fun z => by rw [d] at z; cases z), d, r⟩
  have kin : K.In (hidT s.heap H) := fun b o e => up (KX b o e) (h00_none (fun z => by
    obtain ⟨p, hp, ep⟩ := List.mem_map.mp z
    rw [← ep, nT p hp] at e
    cases e) fun z => by
    rw [← z, e]
    exact Option.some_ne_none _)
  have md : L2.Mod K mg (hidT s.heap H) := ⟨kin, ups hns, ⟨mb, ups hb, hbb⟩, let ⟨mc, h1, h2⟩ := hlim; ⟨mc, ups h1, h2⟩⟩
  have TB : ∀ p ∈ cs, TabB (hidT s.heap H) mg p.1 p.2 := fun p hp => by
    refine ⟨?_, ?_, fun z => ?_⟩
    · obtain ⟨o, us, file, tf, flags, tg, inF, text, tt, e1, r1, r2, r3, r⟩ := C p hp
      refine ⟨o, us, file, tf, flags, tg, inF, text, tt, up e1 (free e1 (fun _ _ z => by rw [r2] at z; cases z) fun z => ?_), r1, r2, r3, r⟩
      rw [r2] at z
      cases z
      cases r3
    · obtain ⟨bm, ob, b1, b2, b3, b4, b5, b6⟩ := hbm
      refine ⟨bm, ob, b1, b2, fun q => ?_, fun q => ?_, up b3 (free b3 (fun _ _ z => by rw [b6] at z; cases z) fun z => by rw [b6] at z; cases z), b4, b5, b6⟩
      · obtain ⟨o, es, ep, e, d, _⟩ := hns
        rw [q, e] at b3
        cases b3
        rw [d] at b6
        cases b6
      · rw [q, hT p hp] at b3
        cases b3
        cases b6
    · obtain ⟨o, es, ep, e, d, _⟩ := hns
      rw [z, hT p hp] at e
      cases e
      cases d
  have e0 : Env0 P w K mg (hidT s.heap H) callerA [] s H := ⟨rfl, md, fun b o e => of_hidT e, Nat.le_of_eq (hidT_size _ _), trivial, (fun b hb => nomatch (show b ∈ ([] : List Addr) from hb)), hok, .of_eq hg⟩
  refine codeAny_mono ((F _ kin (ups hns) TB).run callerA [] s H ⟨[.ref a], []⟩ [.ref a] [.ref a] _ rfl hr e0 (hbind s (.ref a)) (.cons rfl .nil) (hsp H (fun p hp => h00_tab (List.mem_map.mpr ⟨p, hp, rfl⟩)) hS)) fun r s' h => ?_
  match r, h with
  | .error _, h => exact (show False from h).elim
  | .ok (.ret v), ⟨x, H', os, bare, un, hok', rx, q⟩ =>
    obtain rfl : x = .bl true := q
    obtain rfl : v = Value.bool true := rx
    have more : ∀ p ∈ cs, ∃ m : Array Value, s'.heap.get? p.2 = some { cls := .none, data := .fields m } := fun p hp => by
      obtain ⟨m, z⟩ := un.tbls p.2 #[] (h00_tab (List.mem_map.mpr ⟨p, hp, rfl⟩))
      exact ⟨_, hok' p.2 _ z⟩
    have stay : ∀ b o, b ∉ T → s.heap.get? b = some o → s'.heap.get? b = some o := fun b o nb e => by
      cases q : H b with
      | none => exact un.keep b o e q (fun z => nomatch (show b ∈ ([] : List Addr) from z)) (by simp)
      | some y =>
        rcases h00_some q with ⟨z, _⟩ | ⟨z, _, z2⟩
        · exact (nb z).elim
        · rw [z2] at q
          obtain ⟨f1, _⟩ := hok b _ q
          obtain ⟨f2, _⟩ := hok' b _ (un.frzs b _ _ q)
          rw [← Option.some.inj (f1.symm.trans e)]
          exact f2
    refine ⟨rfl, ⟨fun b o e => ?_, fun b o e => ?_⟩, os, bare⟩
    · by_cases hb : b ∈ T
      · obtain ⟨p, hp, rfl⟩ := List.mem_map.mp hb
        obtain ⟨m, hm⟩ := more p hp
        obtain rfl := Option.some.inj ((hT p hp).symm.trans e)
        exact .inr (.inl ⟨((C p hp).tab (hT p hp)).isCodeTable, rfl, #[], m, rfl, by rw [Array.empty_append]; exact hm⟩)
      · exact .inl (stay b o hb e)
    · by_cases hb : b ∈ T
      · obtain ⟨p, hp, rfl⟩ := List.mem_map.mp hb
        obtain ⟨m, hm⟩ := more p hp
        exact ⟨_, hm⟩
      · exact ⟨o, stay b o hb e⟩
structure ClF (K : PySem.W.Frag) (bm : List Value) (C : Addr) (fs : List Str) : Prop where
  cls : ∃ nm qn N bs sn sub ab col dd k0 k1 k2 k3 k5, K.lookup C = some (excClassObj nm qn C N bs bm true sn sub ab col dd k0 k1 k2 k3 k5 "ValueError.__new__")
  sa : PySem.W.findIn K (.ref C) "__setattr__" = some (some (.builtin "object.__setattr__"))
  ga : PySem.W.findIn K (.ref C) "__getattribute__" = some (some (.builtin "BaseException.__getattribute__"))
  gg : PySem.W.findIn K (.ref C) "__getattr__" = some none
  gc : PySem.W.findIn K (.ref C) "__class__" = some (some (.builtin "object.__class__"))
  kp : PySem.W.keepIn K (.ref C) = true
  no : ∀ f ∈ fs, PySem.W.findIn K (.ref C) f = some none
theorem cl_ok {K : PySem.W.Frag} {bm : List Value} {C : Addr} {fs : List Str} (h : clB K bm C fs = true) : ClF K bm C fs := by
  unfold clB at h
  obtain ⟨h1, h⟩ := Bool.and_eq_true_iff.mp h
  obtain ⟨h2, h⟩ := Bool.and_eq_true_iff.mp h
  obtain ⟨h3, h⟩ := Bool.and_eq_true_iff.mp h
  obtain ⟨h4, h⟩ := Bool.and_eq_true_iff.mp h
  obtain ⟨h5, h⟩ := Bool.and_eq_true_iff.mp h
  obtain ⟨h6, h7⟩ := Bool.and_eq_true_iff.mp h
  exact ⟨shape_ok h1, He.eqO_ok h2, He.eqO_ok h3, He.eqO_ok h4, He.eqO_ok h5, h6, fun f hf => He.eqO_ok (List.all_eq_true.mp h7 f hf)⟩
section
variable {K : PySem.W.Frag} {bm : List Value} {C : Addr} {fs : List Str}
theorem ClF.clsIn (T : ClF K bm C fs) : ∃ cd, PySem.W.clsIn K C = some cd ∧ cd.mro = .ref C :: bm ∧ cd.hasDict = true := by
  obtain ⟨nm, qn, N, bs, sn, sub, ab, col, dd, k0, k1, k2, k3, k5, hC⟩ := T.cls
  exact ⟨{ name := nm, bases := bs, mro := .ref C :: bm, ns := N, qualname := qn, hasDict := true, slotNames := sn, subclasses := sub, abstract := ab, collection := col, hasDel := false }, by unfold PySem.W.clsIn; rw [hC], rfl, rfl⟩
theorem ClF.mro (T : ClF K bm C fs) (b : Value) : PySem.W.mroIn K C b = some ((Value.ref C :: bm).contains b) := by
  obtain ⟨cd, h1, h2, h3⟩ := T.clsIn
  unfold PySem.W.mroIn
  rw [h1, Option.bind_some, h2]
  rfl
theorem ClF.ty (T : ClF K bm C fs) : PySem.W.typeIn K (.ref C) = some (.type "type") := by
  obtain ⟨nm, qn, N, bs, sn, sub, ab, col, dd, k0, k1, k2, k3, k5, hC⟩ := T.cls
  show (K.lookup C).map (·.cls) = some (.type "type")
  rw [hC]
  rfl
theorem ClF.dict (T : ClF K bm C fs) : PySem.W.hasDictIn K C = true := by
  obtain ⟨cd, h1, h2, h3⟩ := T.clsIn
  unfold PySem.W.hasDictIn
  rw [h1]
  exact h3
theorem ClF.sub (T : ClF K bm C fs) (b : Value) : PySem.W.subIn K (.ref C) b = some ((Value.ref C :: bm).contains b) := T.mro b
theorem ClF.oex (T : ClF K bm C fs) (hbm : PySem.HandSPX.refsVE bm = true) : OexC K C := by
  obtain ⟨nm, qn, N, bs, sn, sub, ab, col, dd, k0, k1, k2, k3, k5, hC⟩ := T.cls
  refine ⟨⟨nm, qn, N, bs, bm, sn, sub, ab, col, dd, k0, k1, k2, k3, k5, hC, hbm⟩, T.sa, ?_, T.ty, T.kp⟩
  rw [T.sub, List.contains_cons, PySem.HandSPX.refsVE_contains _ _ hbm]
  rfl
theorem get_cls : PySem.W.specialIn K (.builtin "object.__class__") "__get__" = some (some (.builtin "getset_descriptor.__get__")) := by
  kernel_rfl
theorem takes_cls : PySem.W.takesIn K (.builtin "object.__class__") = some true := by
  kernel_rfl
theorem ClF.xf (T : ClF K bm C fs) (hbm : PySem.HandSPX.refsVE bm = true) : XfC K C := by
  refine ⟨T.ga, T.gg, ?_, T.dict⟩
  rw [T.sub, List.contains_cons, PySem.HandSPX.refsVE_contains _ _ hbm]
  rfl
end
end K24

set_option Elab.async false
set_option linter.all false
set_option maxRecDepth 100000
set_option maxHeartbeats 4000000
/-! The head's facts; the end. -/
namespace K24
open PySem PySem.Spec PyProof.Rows L2 LamX
section
variable {P : Program} {w : World} {K : PySem.W.Frag} {h h0 base : Heap} {mg : Str → Option Value}
theorem fa_glo {x : Str} (hx : x ∈ dnms) : He.Fa.glo x ∈ fa := List.mem_append.mpr (.inl (List.mem_map.mpr ⟨x, hx, rfl⟩))
theorem fa_cls {x : Str} (hx : x ∈ cnms) : He.Fa.glo x ∈ fa := List.mem_append.mpr (.inr (List.mem_append.mpr (.inl (List.mem_map.mpr ⟨x, hx, rfl⟩))))
theorem fa_free {x : Str} (hx : x ∈ fBl) : He.Fa.free x ∈ fa := List.mem_append.mpr (.inr (List.mem_append.mpr (.inr (List.mem_append.mpr (.inl (List.mem_map.mpr ⟨x, hx, rfl⟩))))))
theorem fa_o {f : He.Fa} (i : Nat) (hf : faO[i]? = some f := by rfl) : f ∈ fa := List.mem_append.mpr (.inr (List.mem_append.mpr (.inr (List.mem_append.mpr (.inr (List.mem_of_getElem? hf))))))
theorem fn_at {i : Nat} {d : He.DefD} (hi : fnA[i]? = some d) : fn[i]? = some d := by
  unfold fn
  rw [List.getElem?_append_left (List.getElem?_eq_some_iff.mp hi).1]
  exact hi
theorem exA_ok (e : exA K = true) : (exC K "BadWord" = true ∧ exC K "BadPlace" = true ∧ exC K "BadSubstitution" = true) ∧ PySem.W.exmOne K (.ref (He.ga K "BadPlace")) (.ref (He.ga K "BadWord")) = some false ∧ PySem.W.exmOne K (.ref (He.ga K "BadSubstitution")) (.ref (He.ga K "BadWord")) = some false ∧ PySem.W.exmOne K (.ref (He.ga K "BadSubstitution")) (.ref (He.ga K "BadPlace")) = some false ∧ (∀ x ∈ hds, PySem.W.nsIn K (He.ga K "KEPT") x = some none) ∧ (∃ v, PySem.W.nsIn K (He.ga K "KEPT") "not" = some (some v)) := by
  unfold exA at e
  obtain ⟨e1, e2⟩ := Bool.and_eq_true_iff.mp e
  obtain ⟨e3, e4⟩ := Bool.and_eq_true_iff.mp e1
  obtain ⟨a1, a2⟩ := Bool.and_eq_true_iff.mp e3
  obtain ⟨a2, a3⟩ := Bool.and_eq_true_iff.mp a2
  obtain ⟨b1, b2⟩ := Bool.and_eq_true_iff.mp e4
  obtain ⟨b1, b3⟩ := Bool.and_eq_true_iff.mp b1
  obtain ⟨b3, b4⟩ := Bool.and_eq_true_iff.mp b3
  refine ⟨⟨a1, a2, a3⟩, of_decide_eq_true b1, of_decide_eq_true b3, of_decide_eq_true b4, fun x hx => He.eqO_ok (List.all_eq_true.mp b2 x hx), ?_⟩
  split at e2
  · rename_i v hv
    exact ⟨v, hv⟩
  · cases e2
theorem errC_of (X : K.In base) (G : base.Ns mainGlobals mg) (c : SaysA w h0 K) {x : Str} {i : Nat} (hx : x ∈ cnms) (e : exC K x = true) {p1 p2 p3 p4 : Pos} {params : Arguments} {scope : Scope} {qual : Str}
    (hd : fn[i]? = some ⟨(x, some "__init__"), "__init__", qual, params, [.Assign [.Attribute (.Name "self" p1) "thing" p2] (.Name "thing" p3) p4], scope, [], []⟩) (hs : FnScope ["self", "thing"] ["self", "thing"] scope)
    (hb : ∀ (kV doc pm : Value) (an : Option Addr) (cdv ct : Value) (us : List Value), us.length = 2 → bindArgs (PySem.W.fnOf "__init__" qual params [.Assign [.Attribute (.Name "self" p1) "thing" p2] (.Name "thing" p3) p4] scope .none kV doc pm an cdv ct) ⟨us, []⟩ = pure ((["self", "thing"] : List Str).zip us)) : ErrC P w K mg base x := by
  unfold exC at e
  obtain ⟨e1, e2⟩ := Bool.and_eq_true_iff.mp e
  obtain ⟨e3, e4⟩ := Bool.and_eq_true_iff.mp e2
  obtain ⟨e5, e6⟩ := Bool.and_eq_true_iff.mp e4
  obtain ⟨e7, e8⟩ := Bool.and_eq_true_iff.mp e6
  have T := cl_ok e1
  obtain ⟨fd, F⟩ := c.t.d.def_ i hd
  exact ⟨T.oex (bm_ve _), T.xf (bm_ve _), T.no _ (by simp), He.glo_ok X G (c.t.d.facts (fa_cls hx)), of_decide_eq_true e7, _, fd, p1, p2, p3, p4, params, scope, qual, He.eqO_ok e3, of_decide_eq_true e5, F, hs, F.bindsN hb⟩
theorem t24_of (X : K.In base) (G : base.Ns mainGlobals mg) (c : SaysA w h0 K) : T24 P w K mg base := by
  obtain ⟨⟨x1, x2, x2s⟩, x3, x3w, x3p, x4, x5⟩ := exA_ok c.ex
  exact {
    fr := fun x hx => He.free_ok X G (c.t.d.facts (fa_free hx))
    df := fun i x st hi => by
      obtain ⟨fd, F⟩ := c.t.d.def_ i (fn_at hi)
      have hm : (dN x st).name ∈ dnms := List.mem_map.mpr ⟨_, List.mem_of_getElem? hi, rfl⟩
      exact ⟨⟨fd, F⟩, He.glo_ok X G (c.t.d.facts (fa_glo hm))⟩
    kd := c.t.tab 0 rfl
    kn := x4
    knot := x5
    kept := He.glo_ok X G (c.t.d.facts (fa_o 0))
    letters := He.str_ok X G (c.t.d.facts (fa_o 1))
    capitals := He.str_ok X G (c.t.d.facts (fa_o 2))
    longest := He.int_ok X G (c.t.d.facts (fa_o 3))
    most := He.int_ok X G (c.t.d.facts (fa_o 4))
    bw := errC_of (i := 50) X G c (by decide) x1 (p1 := _) (p2 := _) (p3 := _) (p4 := _) (params := _) (scope := _) (qual := _) rfl ⟨rfl, rfl, rfl, by decide +kernel, rfl, by decide +kernel, by decide +kernel⟩ (fun kV doc pm an cdv ct us hl => match us, hl with | [_, _], _ => rfl)
    bp := errC_of (i := 51) X G c (by decide) x2 (p1 := _) (p2 := _) (p3 := _) (p4 := _) (params := _) (scope := _) (qual := _) rfl ⟨rfl, rfl, rfl, by decide +kernel, rfl, by decide +kernel, by decide +kernel⟩ (fun kV doc pm an cdv ct us hl => match us, hl with | [_, _], _ => rfl)
    xpw := x3
    bs := errC_of (i := 52) X G c (by decide) x2s (p1 := _) (p2 := _) (p3 := _) (p4 := _) (params := _) (scope := _) (qual := _) rfl ⟨rfl, rfl, rfl, by decide +kernel, rfl, by decide +kernel, by decide +kernel⟩ (fun kV doc pm an cdv ct us hl => match us, hl with | [_, _], _ => rfl)
    xsw := x3w
    xsp := x3p
    cl := fun x hx => He.glo_ok X G (c.t.d.facts (fa_cls hx)) }
end
theorem tri_nil : TriplesOk (#[] : Array Value).toList := by trivial
abbrev lw : PySem.W.OpenLaw := PySem.Challenge.rw_eithershown_k24_whole_puts_and_matching
abbrev dK := HandSHeadRun.topDef R.prog 76
theorem walkK : PySem.W.WalkO (PySem.W.view R.prog [76]) loose (PySem.W.XL (PySem.W.view R.prog [76]) []) hookA.says lw.row.toRowW dK [] (fun f vs => PySem.call f vs) := by
  refine Att.attach_callB (n := 63) rfl rfl fun w s₀ s₁ mg mb fa o pm cd doc a vs ns G Y ho hd hcd hmg hobj hints hlen hbits hg => ?_
  obtain ⟨K, KX, c⟩ := Y
  obtain ⟨fd, F⟩ := c.t.d.def_ 49 (d := dN "law" s_law) rfl
  have e : fa = He.ga K "law" := by
    have q := (He.glo_ok KX G.T.g (c.t.d.facts (fa_glo (x := "law") (List.mem_map.mpr ⟨dN "law" s_law, List.mem_of_getElem? (i := 49) rfl, rfl⟩)))).symm.trans hmg
    exact (Value.ref.inj (Option.some.inj q)).symm
  subst e
  have tl : ∀ p ∈ tf.map (He.cT K), ∃ q ∈ tf, He.cT K q = p := fun p hp => List.mem_map.mp hp
  refine law_callG (cs := tf.map (He.cT K)) (k := 47) (x := "_law_script") (sp := spLaw K) (fd := fd) KX G.T.g G.T.b G.T.builtins G.T.nolimit hg (fun p hp => ?_) (fun p hp => ?_) (fun p hp => ?_) G.T.bmain hobj hints (Nat.le_trans hlen (by rw [sizeLine_eq]; decide)) ?_
    (fun base KB GB TB => ok_law (t24_of KB GB c) ⟨fun p hp => TB _ (List.mem_map.mpr ⟨p, hp, rfl⟩)⟩ F) (fun s u => F.bindsA (ps := ["_law_script"]) (fun kV doc pm an cdv ct us hl => match us, hl with | [_], _ => rfl) s [u] rfl) (fun H hT hS => ⟨a, ns, rfl, hS, ?_, fun _ => rfl⟩)
  · obtain ⟨q, hq, rfl⟩ := tl p hp
    exact c.empty q hq
  · obtain ⟨q, hq, rfl⟩ := tl p hp
    exact c.out q hq
  · obtain ⟨q, hq, rfl⟩ := tl p hp
    exact PySem.W.codeHd_of_K KX (c.hd q hq)
  · exact ⟨rfl, by decide +kernel, by decide +kernel⟩
  · intro z hz
    obtain ⟨q, hq, rfl⟩ := List.mem_map.mp hz
    exact ⟨#[], hT _ (List.mem_map.mpr ⟨q, hq, rfl⟩), tri_nil, fun pos cv e => nomatch e⟩
end K24
open PySem PySem.W PySem.Calls PyProof.Rows
theorem PySem.Challenge.cw_eithershown_k24_whole_puts_and_matching_holds : PySem.Challenge.rw_eithershown_k24_whole_puts_and_matching.Holds := by
  w_on; o_law
  refine HandSHeadRun.head_any (r := OpenLaw.row PySem.Challenge.rw_eithershown_k24_whole_puts_and_matching) (q := PySem.W.view K24.R.prog [76]) (H := K24.hookA) (ob := fun s => K24.obA (K24.gT s)) (M := 9000) (loose := K24.loose) (d := K24.dK) (kwd := []) (fun s => K24.obA_eq (HandSHeadRun.getT_eq s)) (by kernel_rfl) (fun s => by kernel_rfl) K24.run (by rfl) (by rfl) (by rfl) (by rfl) (by first | assumption | decide +kernel) (by decide +kernel) ⟨rfl, rfl, rfl, rfl, rfl, by decide +kernel⟩ ?hw K24.walkK
  case hw => w_witness2

