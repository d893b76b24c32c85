import PyProof.Rows.All
import Wide.All
import OpenK.AllK
import Wide.FinOn
import KE.KStateDown
import Lean
import HandS.ForMost
import HandS.ForExc
import HandS.Words
import HandS.WordsExc
import HandS.Defaults
import HandS.ExcInit
import HandS.ExcIs
import HandS.ExcField
import HandS.Lambda
import HandS.Head0
import HandS.Head1
import HandS.Head2
import HandS.HeadEnd
import HandS.HeadHook1
import HandS.HeadHook2
import HandS.HeadHook3
import HandS.HeadHook4
import HandS.EndTab
import PySem.Challenge.RW_eithershown_k17_whole_trimmed
import HandS.Evl
import HandS.IsInst
import HandS.More
import HandS.StrMore
import PyProof.AutoSeq1
import HandS.CallLocal
import HandS.Walk
import HandS.DictComp
import HandS.Zip
import KE.GoesMore
import HandS.ExcOwn
import HandS.Wide
import HandS.ListItems
import HandS.Deep
import HandS.Iter
import HandS.TryOnly
import KE.KDictZip
import KE.KDictKeyed
import KE.GoesEnum
import HandS.Dict
import HandS.Call
import KE.KDictCopyH
import KE.KSortTupG
import HandS.Sort
import KE.KSortTupUse
import HandS.HeadWalk
set_option Elab.async false
set_option linter.all false
set_option maxRecDepth 100000
set_option maxHeartbeats 0
/-! The text by places, the head's looks. -/
namespace K17
open PySem PySem.Spec PyProof.Rows L2
def top (i : Nat) : Stmt := PySem.Challenge.pw_eithershown_k17_whole_trimmed.main.body.getD i (.Pass ⟨0, 0, 0, 0⟩)
abbrev FnP (K : PySem.W.Frag) (x : Str) (st : Stmt) (f : Addr) (fd : FuncData) : Prop := FunD K x x (defArgs st) (defBody st) (defScope st) [] [] f fd
abbrev s_has_lists : Stmt := top 1
abbrev s_frozen : Stmt := top 2
abbrev s_unlike : Stmt := top 3
abbrev s_variables_in : Stmt := top 5
abbrev s_clause_variables : Stmt := top 6
abbrev s_exchanged : Stmt := top 7
abbrev s_is_always_true : Stmt := top 9
abbrev s_trimmed : Stmt := top 10
abbrev s_told_clause : Stmt := top 11
abbrev s__law_start : Stmt := top 13
abbrev s__law_draw : Stmt := top 14
abbrev s__law_pick : Stmt := top 15
abbrev s__law_mixed : Stmt := top 16
abbrev s__law_same : Stmt := top 17
abbrev s__law_each_once : Stmt := top 18
abbrev s__law_loose : Stmt := top 19
abbrev s__law_c_names : Stmt := top 20
abbrev s__law_c_word : Stmt := top 21
abbrev s__law_c_atom : Stmt := top 22
abbrev s__law_c_with : Stmt := top 23
abbrev s__law_c_value : Stmt := top 24
abbrev s__law_c_true : Stmt := top 25
abbrev s__law_c_rows : Stmt := top 26
abbrev s__law_c_some_true : Stmt := top 27
abbrev s__law_c_holds : Stmt := top 28
abbrev s__law_c_stand : Stmt := top 29
abbrev s__law_c_variables : Stmt := top 30
abbrev s__law_c_worlds : Stmt := top 31
abbrev s__law_c_some_worlds : Stmt := top 32
abbrev s__law_c_world : Stmt := top 33
abbrev s__law_c_put : Stmt := top 34
abbrev s__law_c_short : Stmt := top 35
abbrev s__law_c_told : Stmt := top 36
abbrev s__law_list : Stmt := top 37
abbrev s__law_list_right : Stmt := top 38
abbrev s_law : Stmt := top 39
def dN (x : Str) (st : Stmt) : He.DefD := ⟨(x, none), x, x, defArgs st, defBody st, defScope st, [], []⟩
def fnA0 : List (He.DefD) := [dN "has_lists" s_has_lists, dN "frozen" s_frozen, dN "unlike" s_unlike, dN "variables_in" s_variables_in, dN "clause_variables" s_clause_variables, dN "exchanged" s_exchanged, dN "is_always_true" s_is_always_true, dN "trimmed" s_trimmed, dN "told_clause" s_told_clause, dN "_law_start" s__law_start, dN "_law_draw" s__law_draw, dN "_law_pick" s__law_pick, dN "_law_mixed" s__law_mixed, dN "_law_same" s__law_same, dN "_law_each_once" s__law_each_once, dN "_law_loose" s__law_loose, dN "_law_c_names" s__law_c_names, dN "_law_c_word" s__law_c_word, dN "_law_c_atom" s__law_c_atom, dN "_law_c_with" s__law_c_with]
def fnA1 : List (He.DefD) := [dN "_law_c_value" s__law_c_value, dN "_law_c_true" s__law_c_true, dN "_law_c_rows" s__law_c_rows, dN "_law_c_some_true" s__law_c_some_true, dN "_law_c_holds" s__law_c_holds, dN "_law_c_stand" s__law_c_stand, dN "_law_c_variables" s__law_c_variables, dN "_law_c_worlds" s__law_c_worlds, dN "_law_c_some_worlds" s__law_c_some_worlds, dN "_law_c_world" s__law_c_world, dN "_law_c_put" s__law_c_put, dN "_law_c_short" s__law_c_short, dN "_law_c_told" s__law_c_told, dN "_law_list" s__law_list, dN "_law_list_right" s__law_list_right, dN "law" s_law]
def fnA : List (He.DefD) := fnA0 ++ fnA1
def loose0 : List (Str) := ["__name__", "has_lists", "frozen", "unlike", "variables_in", "clause_variables", "exchanged", "is_always_true", "trimmed", "told_clause", "_law_start", "_law_draw", "_law_pick", "_law_mixed", "_law_same", "_law_each_once", "_law_loose", "_law_c_names", "_law_c_word", "_law_c_atom", "_law_c_with", "_law_c_value", "_law_c_true", "_law_c_rows", "_law_c_some_true", "_law_c_holds", "_law_c_stand", "_law_c_variables", "_law_c_worlds", "_law_c_some_worlds"]
def loose1 : List (Str) := ["_law_c_world", "_law_c_put", "_law_c_short", "_law_c_told", "_law_list", "_law_list_right"]
def loose : List (Str) := loose0 ++ loose1
/-- walking names to what they stand for -/
def nv (g : Addr → Option Obj) (x : Str) : Addr := He.ga (He.frG g [mainGlobals]) x
def codeOf (g : Addr → Option Obj) (f : Addr) : List Addr := match g f with
  | some ⟨_, _, .func fd, _⟩ => He.refV fd.code
  | _ => []
def objsF (g : Addr → Option Obj) (x : Str) : List Addr := nv g x :: codeOf g (nv g x)
def dnms : List Str := fnA.map (·.name)
def fn : List He.DefD := fnA
def asK (g : Addr → Option Obj) : List Addr := mainGlobals :: sysModules :: dnms.flatMap (objsF g)
def fK (g : Addr → Option Obj) : PySem.W.Frag := He.frT g (asK g)
def fBl : List Str := ["all", "any", "bool", "dict", "enumerate", "int", "isinstance", "len", "list", "range", "repr", "sorted", "str", "tuple", "zip"]
def faG : List He.Fa := dnms.map He.Fa.glo
def faF : List He.Fa := fBl.map He.Fa.free
def fa : List He.Fa := faG ++ faF
def ts : List He.Tab := []
def tf : List He.Defn := []
abbrev R : PySem.W.OpenRow := PySem.W.OpenLaw.row PySem.Challenge.rw_eithershown_k17_whole_trimmed
def exA (K : PySem.W.Frag) : Bool := true
def obA (g : Addr → Option Obj) : He.AlT × Bool := (He.obsT fa fn ts (fK g), exA (fK g) && He.tabsB g tf (fK g))
def valA (w : World) : He.AlT × Bool := (He.valT fn ts w, true)
noncomputable abbrev gT (s : PySem.W.SharedT) : Addr → Option Obj := HandSHeadRun.getT s
structure SaysA (w : World) (h : Heap) (K : PySem.W.Frag) : Prop where
  t : He.SaysT fa fn ts w K
  ex : exA K = true
  hd : ∀ p ∈ tf, PySem.W.codeHdIn K (He.cT K p).1 (He.cT K p).2 = true
  out : ∀ p ∈ tf, K.lookup (He.cT K p).2 = none
  empty : ∀ p ∈ tf, h.get? (He.cT K p).2 = some { cls := .none, data := .fields #[] }
theorem says_of {w : World} {h : Heap} (e : obA h.get? = valA w) : SaysA w h (fK h.get?) := by
  have e2 : (exA (fK h.get?) && He.tabsB h.get? tf (fK h.get?)) = true := congrArg (fun z : He.AlT × Bool => z.2) e
  obtain ⟨h1, h2⟩ := Bool.and_eq_true_iff.mp e2
  have key : ∀ p ∈ tf, PySem.W.codeHdIn (fK h.get?) (He.cT (fK h.get?) p).1 (He.cT (fK h.get?) p).2 = true ∧ ∃ o, h.get? (He.cT (fK h.get?) p).2 = some o ∧ He.emptyTab o = true := fun p hp => by
    obtain ⟨a1, a2⟩ := Bool.and_eq_true_iff.mp (List.all_eq_true.mp h2 p hp)
    refine ⟨a1, ?_⟩
    cases q : h.get? (He.cT (fK h.get?) p).2 with
    | none =>
      rw [q] at a2
      cases a2
    | some o =>
      rw [q] at a2
      exact ⟨o, rfl, a2⟩
  exact ⟨congrArg (fun z : He.AlT × Bool => z.1) e, h1, fun p hp => (key p hp).1, fun p hp => by
    obtain ⟨_, o, q, z⟩ := key p hp
    exact He.frT_none q z, fun p hp => by
    obtain ⟨_, o, q, z⟩ := key p hp
    rw [q, He.emptyTab_eq z]⟩
def hookA : PySem.W.Hook where
  α := He.AlT × Bool
  obs := fun s => obA s.heap.get?
  val := fun w => valA w
  says := fun w h => ∃ K : PySem.W.Frag, K.In h ∧ SaysA w h K
  of := fun _ _ e => ⟨_, He.frT_in, says_of e⟩
  keeps := fun _ _ _ ⟨K, hK, c⟩ k => ⟨K, PySem.W.Frag.In.keeps hK k, ⟨c.t, c.ex, c.hd, c.out, fun p hp => k _ _ (c.empty p hp)⟩⟩
theorem obA_eq {g : Addr → Option Obj} {s : Shared} (h : ∀ a, g a = s.heap.get? a) : obA g = hookA.obs s := by
  have e : g = s.heap.get? := funext h
  rw [e] <;> rfl
end K17

set_option Elab.async false
set_option linter.all false
set_option maxRecDepth 100000
set_option maxHeartbeats 0
namespace K17
open PySem PySem.Spec PyProof.Rows L2
theorem run_f (w : World) : HandSHeadRun.RunEq R (PySem.W.view R.prog [39]) hookA (fun s => obA (gT s)) 9000 loose (w.withFollow "special-get-raises" false) := by
  intro os
  kernel_rfl
theorem run_t (w : World) : HandSHeadRun.RunEq R (PySem.W.view R.prog [39]) hookA (fun s => obA (gT s)) 9000 loose (w.withFollow "special-get-raises" true) := by
  intro os
  kernel_rfl
theorem run (w : World) : HandSHeadRun.RunEq R (PySem.W.view R.prog [39]) hookA (fun s => obA (gT s)) 9000 loose w :=
  PySem.W.byRow2 "special-get-raises" (P := fun w => HandSHeadRun.RunEq R (PySem.W.view R.prog [39]) hookA (fun s => obA (gT s)) 9000 loose w) run_f run_t w
end K17

set_option Elab.async false
set_option linter.all false
set_option maxRecDepth 100000
set_option maxHeartbeats 4000000
/-! What serves any def: isinstance, lists, walks. -/
namespace K17
open PySem PySem.Spec PyProof.Rows L2 Evl
section
variable {H G : Hp}
/-- all tuples stay -/
def Tx (H G : Hp) : Prop := ∀ a xs, H a = some (.tup xs) → G a = some (.tup xs)
theorem Tx.of (e : Ex H G) : Tx H G := fun a xs h => e a _ h
theorem Tx.refl (H : Hp) : Tx H H := fun _ _ h => h
theorem Tx.trans {J : Hp} (a : Tx H G) (b : Tx G J) : Tx H J := fun c xs h => b c xs (a c xs h)
theorem Tx.lst {p : Addr} {xs : List V} {o : HO} (h : H p = some (.lst xs)) : Tx H (upd H p o) := fun a ys e => by
  rw [upd_ne (ne_of e h (by intro z; cases z))]
  exact e
theorem Tx.dct {p : Addr} {xs : List (Key × V)} {o : HO} (h : H p = some (.dK xs)) : Tx H (upd H p o) := fun a ys e => by
  rw [upd_ne (ne_of e h (by intro z; cases z))]
  exact e
end
/-! ### isinstance(e, C), C a built-in; (list, tuple) -/
abbrev tIsi (K : PySem.W.Frag) (t : String) (te : TE) : TE := tCB (rIsi K) (tCons te (tCons (tC (.ty t)) tNil))
abbrev tIsi2 (K : PySem.W.Frag) (te : TE) : TE := tCB (rIsiT K) (tCons te (tCons (tTup (tCons (tC (.ty "list")) (tCons (tC (.ty "tuple")) tNil))) tNil))
section
variable {X : Cx} {e : Expr} {te : TE} {p q r q1 q2 pos : Pos}
theorem pe_isiB {n : Str} {t : String} (m1 : X.mg "isinstance" = none) (m2 : X.mg n = none) (hv : bootBuiltins n = some (.type t)) (he : PE X e te) (g1 : Gl X "isinstance" := by rfl) (g2 : Gl X n := by rfl) (hn : n ≠ "__name__" := by decide) (hd : (n == ("__debug__" : Str)) = false := by decide)
    (hs : starEach [e, .Name n q] X.env = (false, eval e X.env) :: starEach [.Name n q] X.env := by rfl) (hs2 : starEach [.Name n q] X.env = (false, eval (.Name n q) X.env) :: starEach [] X.env := by rfl) (hpl : (backTo pos (starEach [.Name n q] X.env)).any (·.1) = false := by rfl) :
    PE X (.Call (.Name "isinstance" p) [e, .Name n q] [] pos) (tIsi X.K t te) :=
  pe_callB call_isi g1 m1 PyProof.Rows.boot_isinstance (pa_cons he (pa_cons (pe_bltn (v := .ty t) g2 m2 hv rfl hn hd) pa_nil hs2) hs) (by decide) (by decide) hs hpl
theorem pe_isiLT (m1 : X.mg "isinstance" = none) (m2 : X.mg "list" = none) (m3 : X.mg "tuple" = none) (he : PE X e te) (g1 : Gl X "isinstance" := by rfl) (g2 : Gl X "list" := by rfl) (g3 : Gl X "tuple" := by rfl)
    (hs : starEach [e, .Tuple [.Name "list" q1, .Name "tuple" q2] x1 r] X.env = (false, eval e X.env) :: starEach [.Tuple [.Name "list" q1, .Name "tuple" q2] x1 r] X.env := by rfl)
    (hs2 : starEach [.Tuple [.Name "list" q1, .Name "tuple" q2] x1 r] X.env = (false, eval (.Tuple [.Name "list" q1, .Name "tuple" q2] x1 r) X.env) :: starEach [] X.env := by rfl)
    (hs3 : starEach [.Name "list" q1, .Name "tuple" q2] X.env = (false, eval (.Name "list" q1) X.env) :: starEach [.Name "tuple" q2] X.env := by rfl) (hs4 : starEach [.Name "tuple" q2] X.env = (false, eval (.Name "tuple" q2) X.env) :: starEach [] X.env := by rfl)
    (hpl : (backTo pos (starEach [.Tuple [.Name "list" q1, .Name "tuple" q2] x1 r] X.env)).any (·.1) = false := by rfl) :
    PE X (.Call (.Name "isinstance" p) [e, .Tuple [.Name "list" q1, .Name "tuple" q2] x1 r] [] pos) (tIsi2 X.K te) :=
  pe_callB call_isiT g1 m1 PyProof.Rows.boot_isinstance (pa_cons he (pa_cons (pe_tup (pa_cons (pe_bltn (v := .ty "list") g2 m2 PyProof.Rows.boot_list rfl (by decide) (by decide)) (pa_cons (pe_bltn (v := .ty "tuple") g3 m3 PyProof.Rows.boot_tuple rfl (by decide) (by decide)) pa_nil hs4) hs3)) pa_nil hs2) hs) (by decide) (by decide) hs hpl
end
theorem tyx_ext {K : PySem.W.Frag} {H G : Hp} {v : V} {t : Value} (e : Ex H G) (h : TyX K H v t) : TyX K G v t := by
  cases h with
  | base h =>
    refine .base ?_
    cases h with
    | non => exact .non
    | bl x => exact .bl x
    | int i => exact .int i
    | str x => exact .str x
    | flt x => exact .flt x
    | lst h => exact .lst (e _ _ h)
    | frz h => exact .frz (e _ _ h)
    | tup h => exact .tup (e _ _ h)
    | dK h => exact .dK (e _ _ h)
    | dT h => exact .dT (e _ _ h)
    | ins h a b c d f => exact .ins (e _ _ h) a b c d f
  | byt b => exact .byt b
  | set h => exact .set (e _ _ h)
  | kList a b => exact .kList a b
  | kTuple a b => exact .kTuple a b
  | kDict a b => exact .kDict a b
  | fTuple h => exact .fTuple (e _ _ h)
  | fDict h => exact .fDict (e _ _ h)
section
variable {K : PySem.W.Frag} {σ : L2.St} {H : Hp} {te : TE} {v : V}
theorem ev_isi {m n : String} {b : Bool} (h : Ev te σ H v) (ty : TyX K H v (.type m)) (e : kitB m n = some b) : Ev (tIsi K n te) σ H (.bl b) :=
  ev_cb (ea_cons h (ea_cons ev_c ea_nil)) fun H1 x Q q => ⟨v, .ty n, _, _, b, rfl, .ty n, tyx_ext x ty, kit_ty e, q H1 (Ex.refl H1)⟩
/-- is it a list or a tuple -/
def isLT (m : String) : Bool := m == "list" || m == "tuple"
theorem ev_isi2 {m : String} {b1 b2 : Bool} (h : Ev te σ H v) (ty : TyX K H v (.type m)) (e1 : kitB m "list" = some b1) (e2 : kitB m "tuple" = some b2) : Ev (tIsi2 K te) σ H (.bl (b1 || b2)) := fun H1 x Q q =>
  h H1 x _ fun H2 x2 => ⟨by show 2 ≤ sizeLine; decide, fun p hp => by
    have x3 : Ex H2 (upd H2 p (.tup [.ty "list", .ty "tuple"])) := Ex.new hp
    show rIsiT K [v, .ref p] _ Q
    refine ⟨v, p, [.ty "list", .ty "tuple"], _, [.type "list", .type "tuple"], b1 || b2, rfl, upd_same, .cons (.ty _) (.cons (.ty _) .nil), tyx_ext ((x.trans x2).trans x3) ty, ?_, q _ (x2.trans x3)⟩
    cases b1 with
    | true => exact kitAny_cons (kit_ty e1) (fun z => nomatch z) fun _ => rfl
    | false => exact kitAny_cons (kit_ty e1) (fun _ => by
        cases b2 with
        | true => exact kitAny_cons (kit_ty e2) (fun z => nomatch z) fun _ => rfl
        | false => exact kitAny_cons (kit_ty e2) (fun _ => kitAny_nil) fun z => nomatch z) fun z => nomatch z⟩
end
theorem extend_tup (l : Addr) (items : Array Value) (n : Nat) (b : Addr) (dd : Option Addr) (sl : Array (Option Value)) (items2 : Array Value) (n2 : Nat) (hs0 : ¬(!items.isEmpty && Builtin.List.listTooLong (items.size + items2.size)) = true) (hs1 : items.size ≤ sizeLine) (hs2 : items.size + items2.size ≤ sizeLine + 1) :
    Meets (Builtin.«list.extend» ⟨[.ref l, .ref b], []⟩) (fun _ R s => s.heap.get? l = some { cls := .type "list", dict := none, data := .seq items n, slots := #[] } ∧ s.heap.get? b = some { cls := .type "tuple", dict := dd, data := .seq items2 n2, slots := sl } ∧ R (.ok (.ret Value.none)) { s with heap := s.heap.update l (Obj.mapSeq fun x => x ++ items2), toks := s.toks }) :=
  .of_wp fun prog w A R s h => by
    obtain ⟨hp, g, d, tk, os⟩ := s
    obtain ⟨hl, hb, h⟩ := h
    have f1 := PySem.AutoSeq1.idx_int
    have f2 := PySem.AutoSeq1.sub_tuple_tuple
    have f3 := PySem.AutoSeq1.sub_list_list
    have f4 := PySem.AutoSeq1.sub_tuple_list
    have f5 := PySem.AutoSeq1.sub_list_tuple
    have hz' : (items ++ items2).size ≤ sizeLine + 1 := by rw [Array.size_append]; exact hs2
    wp_walk using (wpAny_updateSeq hl rfl (hz := hs1) (_hz' := hz')), PySem.AutoSeq1.wpAny_loadPart' hl, PySem.AutoSeq1.wpAny_loadPart' hb
    exact ⟨_, rfl, h⟩
def rExtT (K : PySem.W.Frag) : V → List V → Hp → VK → Prop := fun x vs H Q => ∃ l b xs zs, x = .ref l ∧ vs = [.ref b] ∧ H l = some (.lst xs) ∧ SqT K H b zs ∧ xs.length + zs.length ≤ sizeLine ∧ Q .non (upd H l (.lst (xs ++ zs)))
theorem mt_extT {X : Cx} : MtM X "list.extend" (rExtT X.K) := by
  intro pins s σ H x vs v us Q I rx rv h
  obtain ⟨l, b, xs, zs, rfl, rfl, hH, hB, hz, q⟩ := h
  cases rx
  obtain ⟨u, rfl, ru⟩ := rv.one
  cases ru
  obtain ⟨z, its, n, r, hl, e⟩ := I.lstM hH
  obtain ⟨its2, r2, ⟨o, e2, oc, n2, od⟩, hl2⟩ := I.tuple hB
  obtain ⟨oc', dd, dt, sl⟩ := o
  dsimp only at oc od
  subst oc od
  have h1 := r2.length
  have hsz : its.toArray.size + its2.toArray.size ≤ sizeLine := by rw [List.size_toArray, List.size_toArray]; omega
  have hlong : ¬ (!its.toArray.isEmpty && Builtin.List.listTooLong (its.toArray.size + its2.toArray.size)) = true := by
    rw [notLongL hsz, Bool.and_false]
    exact Bool.false_ne_true
  refine call_meets F.slot_list_extend ⟨_, e, rfl⟩ F.entry_list_extend (F.args_list_extend_2 _ _)
    (extend_tup l its.toArray n b dd sl its2.toArray n2 hlong (by rw [List.size_toArray]; omega) (by omega)) ⟨e, e2, ?_⟩
  refine ⟨.non, _, I.lset (its' := its ++ its2) hH e (by simp) (r.append r2) ?_, rfl, q⟩
  rw [List.length_append]
  omega
section
variable {K : PySem.W.Frag} {σ : L2.St} {H G : Hp} {te ta tb : TE} {v : V}
theorem et_truL {p : Addr} {xs : List V} (h : Ev te σ H (.ref p)) (hs : SqL K H p xs) : EvT (fun σ H Q => te σ H fun x H' => ∃ k, TruV K x H' k ∧ Q k H') σ H (!xs.isEmpty) :=
  fun H1 e Q q => h H1 e _ fun H2 e2 => ⟨_, .inl ⟨xs, ex_l (e.trans e2) hs, rfl⟩, q H2 e2⟩
abbrev tLen (K : PySem.W.Frag) (te : TE) : TE := tCB (fun xs H Q => ∃ x n, xs = [x] ∧ LenV K x H n ∧ Q (.int n) H) (tCons te tNil)
theorem ev_lenG {n : Nat} (h : Ev te σ H v) (l : ∀ G, Ex H G → LenV K v G n) : Ev (tLen K te) σ H (.int n) := fun H1 e Q q => h H1 e _ fun H2 e2 => ⟨v, n, rfl, l H2 (e.trans e2), q H2 e2⟩
theorem ev_lenT {p : Addr} {xs : List V} (h : Ev te σ H (.ref p)) (hs : SqT K H p xs) : Ev (tLen K te) σ H (.int (xs.length : Nat)) := ev_lenG h fun G e => .inr ⟨xs, ex_t e hs, rfl⟩
theorem ev_lenL {p : Addr} {xs : List V} (h : Ev te σ H (.ref p)) (hs : SqL K H p xs) : Ev (tLen K te) σ H (.int (xs.length : Nat)) := ev_lenG h fun G e => .inl ⟨xs, ex_l e hs, rfl⟩
theorem ev_lenS {x : Str} (h : Ev te σ H (.str x)) (l : x.length ≤ 1000) : Ev (tLen K te) σ H (.int (x.length : Nat)) := ev_lenG h fun G e => ⟨Nat.le_trans l (by decide), rfl⟩
end
section
variable {K : PySem.W.Frag} {σ : L2.St} {H G : Hp} {te ta tb : TE} {v : V} {D : Ends} {tz : TS}
theorem last_at {xs : List V} {y : V} : (xs ++ [y])[(xs ++ [y]).length - 1]? = some y := by simp
/-- y = xs.pop() -/
theorem q_pop {l : Addr} {xs : List V} {y : V} {j : Nat} (hl : H l = some (.lst (xs ++ [y]))) (ha : Ev ta σ H (.ref l)) (k : ∀ H1, Ex H H1 → tz D (σ.set j (some y)) (upd H1 l (.lst xs))) : tSeq (tAsg (tBM0 K "list" rPop ta) (gName j)) tz D σ H :=
  ha H (Ex.refl H) _ fun H1 e1 => ⟨.inl ⟨rfl, _, sq_of (e1 l _ hl)⟩, l, _, y, rfl, rfl, e1 l _ hl, last_at, by
    rw [List.dropLast_concat]
    exact k H1 e1⟩
/-- xs.extend(t), t a tuple -/
theorem s_extT {l b : Addr} {xs zs : List V} (hl : H l = some (.lst xs)) (ha : Ev ta σ H (.ref l)) (hb : Ev te σ H (.ref b)) (hz : SqT K H b zs) (hs : xs.length + zs.length ≤ 100000) (k : ∀ H1, Ex H H1 → D.nx σ (upd H1 l (.lst (xs ++ zs)))) :
    tDrop (tBM K "list" (rExtT K) ta (tCons te tNil)) D σ H := ha H (Ex.refl H) _ fun H1 e1 => ⟨.inl ⟨rfl, _, sq_of (e1 l _ hl)⟩, hb H1 e1 _ fun H2 e2 =>
  ⟨l, b, xs, zs, rfl, rfl, e2 l _ (e1 l _ hl), ex_t (e1.trans e2) hz, sz_of hs, k H2 (e1.trans e2)⟩⟩
theorem q_extT {l b : Addr} {xs zs : List V} (hl : H l = some (.lst xs)) (ha : Ev ta σ H (.ref l)) (hb : Ev te σ H (.ref b)) (hz : SqT K H b zs) (hs : xs.length + zs.length ≤ 100000) (k : ∀ H1, Ex H H1 → tz D σ (upd H1 l (.lst (xs ++ zs)))) :
    tSeq (tDrop (tBM K "list" (rExtT K) ta (tCons te tNil))) tz D σ H := s_extT (D := { D with nx := tz D }) hl ha hb hz hs k
/-- xs.extend(t), t a new list -/
theorem s_extL {l : Addr} {xs zs : List V} (hl : H l = some (.lst xs)) (ha : Ev ta σ H (.ref l)) (hb : EvL te σ H zs) (hs : xs.length + zs.length ≤ 100000) (k : ∀ H1, Ex H H1 → D.nx σ (upd H1 l (.lst (xs ++ zs)))) :
    tDrop (tBM K "list" rExtend ta (tCons te tNil)) D σ H := ha H (Ex.refl H) _ fun H1 e1 => ⟨.inl ⟨rfl, _, sq_of (e1 l _ hl)⟩, hb H1 e1 _ fun p H2 _ e2 hp =>
  ⟨l, p, xs, zs, rfl, rfl, e2 l _ (e1 l _ hl), hp, sz_of hs, k H2 (e1.trans e2)⟩⟩
theorem q_extL {l : Addr} {xs zs : List V} (hl : H l = some (.lst xs)) (ha : Ev ta σ H (.ref l)) (hb : EvL te σ H zs) (hs : xs.length + zs.length ≤ 100000) (k : ∀ H1, Ex H H1 → tz D σ (upd H1 l (.lst (xs ++ zs)))) :
    tSeq (tDrop (tBM K "list" rExtend ta (tCons te tNil))) tz D σ H := s_extL (D := { D with nx := tz D }) hl ha hb hs k
end
section
variable {K : PySem.W.Frag} {σ : L2.St} {H G : Hp} {te ta tb : TE} {v : V}
theorem ev_m0 {g : Str → Bool} {x : Str} (h : Ev te σ H (.str x)) : Ev (tM0 (fun x xs H Q => ∃ a, x = V.str a ∧ xs = [] ∧ True ∧ Q (.bl (g a)) H) te) σ H (.bl (g x)) := fun H1 e Q q =>
  h H1 e _ fun H2 e2 => ⟨⟨x, rfl⟩, x, rfl, rfl, trivial, q H2 e2⟩
theorem rv_insign {c : Nat} {z : Str} : RV (fun x y H Q => ∃ (c : Nat) (z : Str), x = .str ⟨#[c]⟩ ∧ y = .str z ∧ Q (.bl (decide (c ∈ z.cps.toList))) H) (.str ⟨#[c]⟩) (.str z) H (.bl (decide (c ∈ z.cps.toList))) := fun H1 _ _ q => ⟨c, z, rfl, rfl, q H1 (Ex.refl H1)⟩
theorem rv_notInKd {d : Addr} {x : Str} (h : PySem.W.nsIn K d x = some none) : RV (fun x y H Q => ∃ (z : Str) (r : Option Value), x = .str z ∧ y = .ref d ∧ PySem.W.nsIn K d z = some r ∧ Q (.bl (!r.isSome)) H) (.str x) (.ref d) H (.bl true) := fun H1 _ _ q => ⟨x, none, rfl, rfl, h, q H1 (Ex.refl H1)⟩
end
section
variable {K : PySem.W.Frag} {σ : L2.St} {H G : Hp} {te ta tb tl : TE} {v : V} {D : Ends} {tu tz : TS}
abbrev gPair (K : PySem.W.Frag) (j1 j2 : Nat) : TG := gTup K 2 (gCons (gName j1) (gCons (gName j2) gNil))
/-- for i, x in enumerate(xs) -/
theorem s_forEnum {a : Addr} {xs : List V} {j1 j2 : Nat} (h : Ev tl σ H (.ref a)) (hx : SqL K H a xs) (Pv : Nat → L2.St → Hp → Prop) (h0 : ∀ H1, Ex H H1 → Pv 0 σ H1) (hl : ∀ i σ' H', i ≤ xs.length → Pv i σ' H' → SqL K H' a xs)
    (hs : ∀ (i : Nat) x σ' H' H2, xs[i]? = some x → Pv i σ' H' → Ex H' H2 → tu { D with nx := Pv (i + 1), ct := Pv (i + 1), bk := D.nx } ((σ'.set j1 (some (.int i))).set j2 (some x)) H2) (hd : ∀ σ' H', Pv xs.length σ' H' → D.nx σ' H') : tFor (iEnum K (tCons tl tNil)) (gPair K j1 j2) tu D σ H :=
  h H (Ex.refl H) _ fun H1 e => ⟨a, xs, rfl, ex_l e hx, for_it walk_enum Pv (h0 H1 e) hl (fun i v σ' H' H2 hi p y => by
    obtain ⟨T, x, z, rfl, hT, rfl, e1, e2⟩ := y
    cases e1
    exact ⟨T, _, rfl, SqT.of upd_same, rfl, _, _, rfl, _, _, rfl, rfl, hs i z σ' H' _ e2 p (Ex.new hT)⟩) hd⟩
theorem q_forEnum {a : Addr} {xs : List V} {j1 j2 : Nat} (h : Ev tl σ H (.ref a)) (hx : SqL K H a xs) (Pv : Nat → L2.St → Hp → Prop) (h0 : ∀ H1, Ex H H1 → Pv 0 σ H1) (hl : ∀ i σ' H', i ≤ xs.length → Pv i σ' H' → SqL K H' a xs)
    (hs : ∀ (i : Nat) x σ' H' H2, xs[i]? = some x → Pv i σ' H' → Ex H' H2 → tu { D with nx := Pv (i + 1), ct := Pv (i + 1), bk := tz D } ((σ'.set j1 (some (.int i))).set j2 (some x)) H2) (hd : ∀ σ' H', Pv xs.length σ' H' → tz D σ' H') : tSeq (tFor (iEnum K (tCons tl tNil)) (gPair K j1 j2) tu) tz D σ H :=
  s_forEnum (D := { D with nx := tz D }) h hx Pv h0 hl hs hd
end
/-- a call of the def that a name holds -/
theorem ev_callL {σ : L2.St} {H : Hp} {i : Nat} {f : Addr} {sp : Sp} {dvs vs : List V} {E : XK} {ta : TA} {z : V} (hs : σ[i]? = some (some (.ref f))) (h : EvA ta σ H vs) (hp : SpV sp (vs ++ dvs) H z) : Ev (tCallL i f sp dvs E ta) σ H z := fun H1 e Q q =>
  ⟨hs, h H1 e _ fun H2 e2 => hp H2 (e.trans e2) Q (fun H3 e3 => q H3 (e2.trans e3)) E⟩
section
variable {K : PySem.W.Frag} {σ : L2.St} {H G : Hp} {te ta tb tl : TE} {v : V} {D : Ends} {tu tz : TS}
theorem cut1 {α : Type} (x : α) (xs : List α) : ((x :: xs).drop (HT.sIx (x :: xs).length 0 (some 1))).take (HT.sIx (x :: xs).length (x :: xs).length none - HT.sIx (x :: xs).length 0 (some 1)) = xs := by
  have e1 : HT.sIx (x :: xs).length 0 (some 1) = 1 := by simp [HT.sIx]
  have e2 : HT.sIx (x :: xs).length (x :: xs).length none = (x :: xs).length := by simp [HT.sIx]
  rw [e1, e2]
  simp
/-- t[1:] -/
theorem eu_tail {a : Addr} {x : V} {xs : List V} (h : Ev te σ H (.ref a)) (ha : SqT K H a (x :: xs)) : EvU (tSl (rSlT K) te (tPart (tC (.int 1))) tNoPart) σ H xs := fun H1 e Q q =>
  h H1 e _ fun H2 e2 => ⟨1, rfl, ⟨a, x :: xs, rfl, ex_t (e.trans e2) ha, fun z => by
    have e1 : HT.sIx (x :: xs).length 0 (some 1) = 1 := by simp [HT.sIx]
    rw [e1] at z
    exact absurd z.1 (by decide), fun p hp => by
    have e0 : cutV (x :: xs) (some 1) none = xs := cut1 x xs
    rw [e0]
    exact q p _ (fresh_back e2 hp) (e2.trans (Ex.new hp)) upd_same⟩⟩
/-- xs.extend(t), t a new tuple -/
theorem s_extU {l : Addr} {xs zs : List V} (hl : H l = some (.lst xs)) (ha : Ev ta σ H (.ref l)) (hb : EvU te σ H zs) (hs : xs.length + zs.length ≤ 100000) (k : ∀ H1, Ex H H1 → D.nx σ (upd H1 l (.lst (xs ++ zs)))) :
    tDrop (tBM K "list" (rExtT K) ta (tCons te tNil)) D σ H := ha H (Ex.refl H) _ fun H1 e1 => ⟨.inl ⟨rfl, _, sq_of (e1 l _ hl)⟩, hb H1 e1 _ fun p H2 _ e2 hp =>
  ⟨l, p, xs, zs, rfl, rfl, e2 l _ (e1 l _ hl), st_of hp, sz_of hs, k H2 (e1.trans e2)⟩⟩
/-- a call with a new list ahead -/
theorem ev_callNL {sp : Sp} {vs dvs xs : List V} {E : XK} {tr : TA} {z : V} (h : EvL te σ H xs) (hr : EvA tr σ H vs) (hp : ∀ p H1, Ex H H1 → H1 p = some (.lst xs) → SpV sp ((.ref p :: vs) ++ dvs) H1 z) : Ev (tCall sp dvs E (tCons te tr)) σ H z := fun H1 e Q q =>
  h H1 e _ fun p H2 _ e2 h2 => hr H2 (e.trans e2) _ fun H3 e3 => hp p H3 ((e.trans e2).trans e3) (e3 _ _ h2) H3 (Ex.refl _) Q (fun H4 e4 => q H4 ((e2.trans e3).trans e4)) E
theorem ev_isN {b : Bool} (h : Ev te σ H v) (e : decide (v = .non) = b) : Ev (tIsN te) σ H (.bl b) := fun H1 x Q q => h H1 x _ fun H2 x2 => by
  subst e
  exact q H2 x2
end
def A2 {α β : Type} (R : α → β → Prop) : List α → List β → Prop
  | [], [] => True
  | a :: as, b :: bs => R a b ∧ A2 R as bs
  | _, _ => False
section
variable {α β : Type} {R S : α → β → Prop}
theorem A2.mono (h : ∀ a b, R a b → S a b) : ∀ {as : List α} {bs : List β}, A2 R as bs → A2 S as bs
  | [], [], _ => trivial
  | _ :: _, _ :: _, k => ⟨h _ _ k.1, A2.mono h k.2⟩
  | [], _ :: _, k => k.elim
  | _ :: _, [], k => k.elim
theorem A2.append : ∀ {as cs : List α} {bs ds : List β}, A2 R as bs → A2 R cs ds → A2 R (as ++ cs) (bs ++ ds)
  | [], _, [], _, _, k => k
  | _ :: _, _, _ :: _, _, h, k => ⟨h.1, A2.append h.2 k⟩
  | [], _, _ :: _, _, h, _ => h.elim
  | _ :: _, _, [], _, h, _ => h.elim
theorem A2.length : ∀ {as : List α} {bs : List β}, A2 R as bs → as.length = bs.length
  | [], [], _ => rfl
  | _ :: _, _ :: _, k => congrArg (· + 1) (A2.length k.2)
  | [], _ :: _, k => k.elim
  | _ :: _, [], k => k.elim
theorem A2.get : ∀ {as : List α} {bs : List β} {i : Nat} {a : α}, A2 R as bs → as[i]? = some a → ∃ b, bs[i]? = some b ∧ R a b
  | [], [], i, a, _, e => by simp at e
  | x :: as, y :: bs, 0, a, h, e => by
    obtain rfl : x = a := by simpa using e
    exact ⟨y, rfl, h.1⟩
  | _ :: as, _ :: bs, i + 1, a, h, e => by
    obtain ⟨b, q, r⟩ := A2.get (i := i) (a := a) h.2 (by simpa using e)
    exact ⟨b, by simpa using q, r⟩
  | [], _ :: _, _, _, h, _ => h.elim
  | _ :: _, [], _, _, h, _ => h.elim
theorem A2.getb : ∀ {as : List α} {bs : List β} {i : Nat} {b : β}, A2 R as bs → bs[i]? = some b → ∃ a, as[i]? = some a ∧ R a b
  | [], [], i, a, _, e => by simp at e
  | x :: as, y :: bs, 0, b, h, e => by
    obtain rfl : y = b := by simpa using e
    exact ⟨x, rfl, h.1⟩
  | _ :: as, _ :: bs, i + 1, b, h, e => by
    obtain ⟨a, q, r⟩ := A2.getb (i := i) (b := b) h.2 (by simpa using e)
    exact ⟨a, by simpa using q, r⟩
  | [], _ :: _, _, _, h, _ => h.elim
  | _ :: _, [], _, _, h, _ => h.elim
theorem A2.of_map {γ : Type} {f : γ → α} : ∀ {cs : List γ} {bs : List β}, A2 R (cs.map f) bs → A2 (fun c b => R (f c) b) cs bs
  | [], [], _ => trivial
  | _ :: _, _ :: _, k => ⟨k.1, A2.of_map k.2⟩
  | [], _ :: _, k => k.elim
  | _ :: _, [], k => k.elim
end
/-! ### what evaluates to a thing of which P holds -/
def EvP (te : TE) (σ : L2.St) (H : Hp) (P : V → Hp → Prop) : Prop := ∀ H1, Ex H H1 → ∀ Q : VK, (∀ v H2, Ex H1 H2 → P v H2 → Q v H2) → te σ H1 Q
/-- a new list of which P holds -/
def EvLP (te : TE) (σ : L2.St) (H : Hp) (P : List V → Hp → Prop) : Prop := ∀ H1, Ex H H1 → ∀ Q : VK, (∀ p xs H2, H1 p = none → Ex H1 H2 → H2 p = some (.lst xs) → P xs H2 → Q (.ref p) H2) → te σ H1 Q
/-- what stays true -/
def Up (P : Hp → Prop) : Prop := ∀ H G, Ex H G → P H → P G
section
variable {K : PySem.W.Frag} {σ : L2.St} {H G : Hp} {te ta tb tl tk tx : TE} {tt : TT} {v : V} {D : Ends} {tu tz : TS} {J : It} {n : Nat} {vs : List Nat}
theorem EvP.of (h : Ev te σ H v) {P : V → Hp → Prop} (p : ∀ G, Ex H G → P v G) : EvP te σ H P := fun H1 e Q q => h H1 e _ fun H2 e2 => q v H2 e2 (p H2 (e.trans e2))
theorem EvP.mono (e : Ex H G) {P : V → Hp → Prop} (h : EvP te σ H P) : EvP te σ G P := fun H1 e1 Q q => h H1 (e.trans e1) Q q
theorem EvP.tup {ta : TA} {xs : List V} {P : V → Hp → Prop} (h : EvU (tTup ta) σ H xs) (p : ∀ a G, Ex H G → G a = some (.tup xs) → P (.ref a) G) : EvP (tTup ta) σ H P := fun H1 e Q q => h H1 e _ fun a H2 _ e2 ha => q _ _ e2 (p a H2 (e.trans e2) ha)
def Cwp (H0 : Hp) (f : Nat → Bool) (Pe : Nat → V → Hp → Prop) (Dl : Addr) (i : Nat) (H : Hp) : Prop := H0 Dl = none ∧ Ex H0 H ∧ ∃ acc, H Dl = some (.lst acc) ∧ acc.length ≤ i ∧ A2 (fun i y => Pe i y H) ((List.range i).filter f) acc
theorem cwp0 {H0 : Hp} {f : Nat → Bool} {Pe : Nat → V → Hp → Prop} {Dl : Addr} (h : H0 Dl = none) : Cwp H0 f Pe Dl 0 (upd H0 Dl (.lst [])) := ⟨h, Ex.new h, [], upd_same, Nat.le_refl _, trivial⟩
/-- what stays true if the thing at Dl, not known ahead, changes -/
def UpD (H0 : Hp) (Dl : Addr) (P : Hp → Prop) : Prop := ∀ H G xs, H Dl = some (.lst xs) → Ex H0 H → Ex H0 G → (∀ a o, a ≠ Dl → H a = some o → G a = some o) → P H → P G
theorem cwp_turn {H0 H1 H2 : Hp} {f : Nat → Bool} {Pe : Nat → V → Hp → Prop} {Dl : Addr} {i : Nat} {σ2 : L2.St} (up : ∀ i v, UpD H0 Dl (Pe i v)) (p : Cwp H0 f Pe Dl i H1) (e12 : Ex H1 H2) (hi : i < 50000) (ht : EvT tt σ2 H2 (f i)) (he : f i = true → ∀ H3, Ex H2 H3 → EvP te σ2 H3 (Pe i)) :
    tt σ2 H2 fun b H3 => if b = true then te σ2 H3 fun y H4 => ∃ acc, H4 Dl = some (.lst acc) ∧ acc.length < sizeLine ∧ Cwp H0 f Pe Dl (i + 1) (upd H4 Dl (.lst (acc ++ [y]))) else Cwp H0 f Pe Dl (i + 1) H3 := by
  obtain ⟨p1, p2, acc, p3, p4, p5⟩ := p
  have e2 : Ex H0 H2 := p2.trans e12
  refine ht H2 (Ex.refl _) _ fun H3 e3 => ?_
  have e03 := e2.trans e3
  cases hf : f i with
  | true =>
    show te σ2 H3 fun y H4 => ∃ acc, H4 Dl = some (.lst acc) ∧ acc.length < sizeLine ∧ Cwp H0 f Pe Dl (i + 1) (upd H4 Dl (.lst (acc ++ [y])))
    refine he hf H3 e3 H3 (Ex.refl _) _ fun y H4 e4 hy => ?_
    have hD : H4 Dl = some (.lst acc) := e4 _ _ (e3 _ _ (e12 _ _ p3))
    have e04 := e03.trans e4
    have e05 : Ex H0 (upd H4 Dl (.lst (acc ++ [y]))) := Ex.mut e04 p1
    have kp : ∀ a o, a ≠ Dl → H4 a = some o → (upd H4 Dl (.lst (acc ++ [y]))) a = some o := fun a o n h => by
      rw [upd_ne n]
      exact h
    refine ⟨acc, hD, sz_lt (by omega), p1, e05, _, upd_same, by simp; omega, ?_⟩
    rw [List.range_succ, List.filter_append, List.filter_cons, if_pos hf]
    refine A2.append (A2.mono (fun j z h => ?_) p5) ⟨up _ _ _ _ _ hD e04 e05 kp hy, trivial⟩
    exact up _ _ _ _ _ p3 p2 e05 (fun a o n h => kp a o n (e4 _ _ (e3 _ _ (e12 _ _ h)))) h
  | false =>
    show Cwp H0 f Pe Dl (i + 1) H3
    refine ⟨p1, e03, acc, e3 _ _ (e12 _ _ p3), by omega, ?_⟩
    rw [List.range_succ, List.filter_append, List.filter_cons, if_neg (by rw [hf]; decide)]
    show A2 _ (_ ++ []) _
    rw [List.append_nil]
    exact A2.mono (fun j z h => up _ _ _ _ _ p3 p2 e03 (fun a o _ q => e3 _ _ (e12 _ _ q)) h) p5
theorem walk_zipT {a b : Addr} {xs ys : List V} (hn : n = min xs.length ys.length) : Walk (RZ.ItzT K a b) n (fun H => SqT K H a xs ∧ SqT K H b ys) (YPair (fun i => xs[i]?) (fun i => ys[i]?)) := by
  subst hn
  refine ⟨fun i _ hi q => ?_, fun _ q => ⟨xs, ys, q.1, q.2, by omega⟩, fun i H v H' _ q y => ?_⟩
  · have h1 : i < xs.length := by omega
    have h2 : i < ys.length := by omega
    exact ⟨xs, ys, xs[i], ys[i], q.1, q.2, by simp [h1], by simp [h2]⟩
  · obtain ⟨T, x, z, h1, h2, h3, h4, h5⟩ := y
    exact ⟨T, x, z, h1, h2, h3, h4 xs q.1, h5 ys q.2⟩
/-- for x in t, t a new tuple -/
theorem s_forNT {xs : List V} {j : Nat} (h : EvU tl σ H xs) (Pv : Addr → Nat → L2.St → Hp → Prop) (h0 : ∀ p H1, H p = none → Ex H H1 → H1 p = some (.tup xs) → Pv p 0 σ H1) (hl : ∀ p i σ' H', i ≤ xs.length → Pv p i σ' H' → SqT K H' p xs)
    (hs : ∀ p i x σ' H', xs[i]? = some x → Pv p i σ' H' → tu { D with nx := Pv p (i + 1), ct := Pv p (i + 1), bk := D.nx } (σ'.set j (some x)) H') (hd : ∀ p σ' H', Pv p xs.length σ' H' → D.nx σ' H') : tFor (iTup K tl) (gName j) tu D σ H :=
  h H (Ex.refl H) _ fun p H1 hp e h1 => ⟨p, rfl, ⟨xs, st_of h1⟩, for_tup (Pv p) (h0 p H1 hp e h1) (hl p) (hs p) (hd p)⟩
theorem q_forNT {xs : List V} {j : Nat} (h : EvU tl σ H xs) (Pv : Addr → Nat → L2.St → Hp → Prop) (h0 : ∀ p H1, H p = none → Ex H H1 → H1 p = some (.tup xs) → Pv p 0 σ H1) (hl : ∀ p i σ' H', i ≤ xs.length → Pv p i σ' H' → SqT K H' p xs)
    (hs : ∀ p i x σ' H', xs[i]? = some x → Pv p i σ' H' → tu { D with nx := Pv p (i + 1), ct := Pv p (i + 1), bk := tz D } (σ'.set j (some x)) H') (hd : ∀ p σ' H', Pv p xs.length σ' H' → tz D σ' H') : tSeq (tFor (iTup K tl) (gName j) tu) tz D σ H :=
  s_forNT (D := { D with nx := tz D }) h Pv h0 hl hs hd
/-- for x, y in zip(s, t), new tuples -/
theorem q_forZipNT {xs ys : List V} {j1 j2 : Nat} {t1 t2 : TE} (h1 : EvU t1 σ H xs) (h2 : EvU t2 σ H ys) (Pv : Nat → L2.St → Hp → Prop) (h0 : ∀ H1, Ex H H1 → Pv 0 σ H1) (hE : ∀ i σ' H', Pv i σ' H' → Ex H H')
    (hp : ∀ i σ' H' G, Pv i σ' H' → Ex H' G → Pv i σ' G)
    (hs : ∀ i x y σ' H', xs[i]? = some x → ys[i]? = some y → Pv i σ' H' → ∀ N : L2.St → Hp → Prop, (∀ σ2 H2, Pv (i + 1) σ2 H2 → Ex H' H2 → N σ2 H2) → tu { D with nx := N, ct := N, bk := tz D } ((σ'.set j1 (some x)).set j2 (some y)) H') (hd : ∀ σ' H', Pv (min xs.length ys.length) σ' H' → tz D σ' H') :
    tSeq (tFor (RZ.iZipA K (tCons t1 (tCons t2 tNil))) (gPair K j1 j2) tu) tz D σ H :=
  h1 H (Ex.refl H) _ fun p H1 _ e1 hp1 => h2 H1 e1 _ fun q H2 _ e2 hq => ⟨p, q, xs, ys, rfl, .inr ⟨st_of (e2 _ _ hp1), st_of hq,
    for_it (walk_zipT (K := K) (a := p) (b := q) (xs := xs) (ys := ys) rfl) (fun i σ' H' => Pv i σ' H' ∧ H' p = some (.tup xs) ∧ H' q = some (.tup ys)) ⟨h0 H2 (e1.trans e2), e2 _ _ hp1, hq⟩ (fun i σ' H' _ z => ⟨st_of z.2.1, st_of z.2.2⟩)
      (fun i v σ' H' H'' hi z y => by
        obtain ⟨T, x, w, rfl, hT, rfl, ex, ey⟩ := y
        have eT : Ex H' (upd H' T (.tup [x, w])) := Ex.new hT
        exact ⟨T, _, rfl, SqT.of upd_same, rfl, _, _, rfl, _, _, rfl, rfl, hs i x w σ' _ ex ey (hp i σ' H' _ z.1 eT) _ fun σ2 H2 a e => ⟨a, e _ _ (eT _ _ z.2.1), e _ _ (eT _ _ z.2.2)⟩⟩) (fun σ' H' z => hd σ' H' z.1)⟩⟩
/-- a dict comprehension over a walk -/
theorem dc_it {J : It} {G : Hp → Prop} {Y : Nat → Hp → V → Hp → Prop} (w : Walk J n G Y) {g : TG} {H1 : Hp} {Dl : Addr} {Qd : Hp → Prop} (Pv : Nat → Hp → Prop) (h0 : Pv 0 (upd H1 Dl (.dK []))) (hG : ∀ i H, i ≤ n → Pv i H → G H)
    (hs : ∀ i x H H', i < n → Pv i H → Y i H x H' → g x (wipe σ vs) H' fun σ2 H2 => wipe σ2 vs = wipe σ vs ∧ tt σ2 H2 fun b H3 =>
      if b = true then tk σ2 H3 fun y H4 => tx σ2 H4 fun z H5 => ∃ kvs k, y = kV k ∧ H5 Dl = some (.dK kvs) ∧ kvs.length < sizeLine ∧ Pv (i + 1) (upd H5 Dl (.dK (putK kvs k z))) else Pv (i + 1) H3) (hd : ∀ H, Pv n H → Qd H) :
    ∃ W : Nat → Nat → Hp → Prop, (∃ m, W 0 m (upd H1 Dl (.dK []))) ∧ ∀ i m H, W i m H →
      (J.stop i H ∧ Qd H) ∨ (J.go i H ∧ ∃ Nx : Hp → Prop, (∀ H', Nx H' → ∃ m', m' < m ∧ W (i + 1) m' H') ∧ ∀ x H', J.yld i H x H' → g x (wipe σ vs) H' fun σ2 H2 => wipe σ2 vs = wipe σ vs ∧ tt σ2 H2 fun b H3 =>
        if b = true then tk σ2 H3 fun y H4 => tx σ2 H4 fun z H5 => ∃ kvs k, y = kV k ∧ H5 Dl = some (.dK kvs) ∧ kvs.length < sizeLine ∧ Nx (upd H5 Dl (.dK (putK kvs k z))) else Nx H3) := by
  refine ⟨fun i m H => m = n - i ∧ i ≤ n ∧ Pv i H, ⟨n, by simp, Nat.zero_le _, h0⟩, ?_⟩
  rintro i m H ⟨rfl, hi, p⟩
  have q := hG i H hi p
  by_cases hlt : i < n
  · exact .inr ⟨w.goes i H hlt q, Pv (i + 1), fun H' p' => ⟨n - (i + 1), by omega, rfl, hlt, p'⟩, fun x H' y => hs i x H H' hlt p (w.yields i H x H' hlt q y)⟩
  · have e : i = n := by omega
    subst e
    exact .inl ⟨w.stops H q, hd H p⟩
end
set_option maxHeartbeats 1000000 in
theorem meets_enum1 {v : Value} {o : Obj} {H : Heap → Prop} (B : Begins v o H) :
    Meets (Builtin.«enumerate.__new__» ⟨[.type "enumerate", v], []⟩) (fun _ R s => H s.heap ∧
      R (.ok (.ret (.ref (s.heap.push o).objs.size))) { s with heap := (s.heap.push o).push { cls := .type "enumerate", data := .fields #[.none, .bool false, .ref s.heap.objs.size, rawInt 0, .none, .none] } }) :=
  .of_wp fun prog w A R s h => by
    obtain ⟨hp, g, d, tk, os⟩ := s
    obtain ⟨h1, h⟩ := h
    have hsub := sub_enumerate
    have q1 : ∀ {A' : Around} {E : Value → Shared → Prop} {Q : Value → Shared → Prop}, Q (.ref hp.objs.size) ⟨hp.push o, g, d, tk, os⟩ → wpAny (model prog w) A' (pyIter v) Q E ⟨hp, g, d, tk, os⟩ :=
      fun q => B.iter prog w _ _ ⟨hp, g, d, tk, os⟩ _ h1 q
    wp_walk using q1
    refine wpAny_stack_any fun st => wpAny_pure ?_
    split
    · rename_i c _ _ _ _ _
      cases (c == Value.type "enumerate")
      · wp_walk using q1
        exact ⟨_, rfl, h⟩
      · wp_walk using q1
        exact ⟨_, rfl, h⟩
    · wp_walk using q1
      exact ⟨_, rfl, h⟩
theorem call_enum1 {prog : Program} {w : World} {A : Around} {E : Value → Shared → Prop} {s : Shared} {v : Value} {o : Obj} {H : Heap → Prop} {Q : Value → Shared → Prop} (B : Begins v o H) (h1 : H s.heap)
    (h : ∀ h', IsEnum h' (s.heap.objs.size + 1) s.heap.objs.size 0 .none → h'.get? s.heap.objs.size = some o → h'.objs.size = s.heap.objs.size + 2 →
      (∀ b o, s.heap.get? b = some o → h'.get? b = some o) → Q (.ref (s.heap.objs.size + 1)) { s with heap := h' }) :
    wpAny (model prog w) A (call (.type "enumerate") [v]) Q E s := by
  refine callType_new F.called_enumerate (by decide) (F.typeCall_enumerate_1 _) (F.newCall_enumerate_1 _) (fun obj => F.args_object_init_2 obj _) F.entry_enumerate_new
    (meets_enum1 B) ⟨h1, ?_⟩
  have hz : (s.heap.push o).objs.size = s.heap.objs.size + 1 := Heap.size_push ..
  show _ ∧ _
  rw [hz]
  have he : IsEnum ((s.heap.push o).push { cls := .type "enumerate", data := .fields #[.none, .bool false, .ref s.heap.objs.size, rawInt 0, .none, .none] }) (s.heap.objs.size + 1) s.heap.objs.size 0 .none := by
    have := Heap.get?_push_size (s.heap.push o) (o := { cls := .type "enumerate", data := .fields #[.none, .bool false, .ref s.heap.objs.size, rawInt 0, .none, .none] }) rfl
    rw [hz] at this; exact this
  refine ⟨⟨_, he, rfl⟩, h _ he (Heap.get?_push_of_some _ (Heap.get?_push_size _ B.free)) (by rw [Heap.size_push, hz]) fun b o x => Heap.get?_push_of_some _ (Heap.get?_push_of_some _ x)⟩
/-- the tuple at a as it stands at each turn, each item in a new pair -/
def IteT (K : PySem.W.Frag) (a : Addr) : It :=
  ⟨fun i H => ∃ (xs : List V) (x : V), SqT K H a xs ∧ xs[i]? = some x, fun i H v H' => ∃ T x, v = .ref T ∧ H T = none ∧ H' = upd H T (.tup [.int (i : Nat), x]) ∧ ∀ xs, SqT K H a xs → xs[i]? = some x, fun i H => ∃ xs : List V, SqT K H a xs ∧ xs.length ≤ i⟩
theorem draws_end {prog : Program} {w : World} {A : Around} {it a : Addr} {items : Array Value} {i : Nat} (hh : A.handled = none) (hne : a ≠ it) (hx : items[i]? = none) :
    Draws prog w A it [it, a] i (fun _ _ => False) (fun j h => j = i ∧ h.IsTupleIter it a i ∧ h.IsTuple a items) where
  live := fun _ _ st => let ⟨o, ho, _⟩ := st.2.1; ⟨o, ho⟩
  frame := fun _ _ _ st hk => ⟨st.1, st.2.1.at fun o e => hk it (by simp) o e, st.2.2.at fun o e => hk a (by simp) o e⟩
  item := fun j s Q E hj st _ => absurd st.1 (by omega)
  done := fun s Q E st hE => wpAny_nextOf_tuple_end hh st.2.1 st.2.2 hx hE
theorem turn_enumT {P : Program} {w : World} {K : PySem.W.Frag} {elts : List Expr} {kk : Nat} {tpos : Pos} (a e it : Addr) :
    Turn P w K (.Tuple elts kk tpos) (IteT K a) [e, it] e (fun i h => (∃ old, IsEnum h e it ((i : Nat) : Int) old) ∧ h.IsTupleIter it a i ∧ e ≠ it ∧ a ≠ it ∧ e ≠ a) where
  mem := by simp
  obj := fun i h st b hb => by
    obtain ⟨⟨old, he⟩, ⟨o, ho, hc, hd⟩, _⟩ := st
    have e' : b = e ∨ b = it := by simpa using hb
    rcases e' with z | z
    · rw [z]; exact ⟨_, he, fun v q => nomatch q⟩
    · rw [z]; exact ⟨o, ho, fun v q => by rw [hd] at q; cases q⟩
  keep := fun i h h' st k => let ⟨⟨old, he⟩, hi, hne⟩ := st; ⟨⟨old, k e (by simp) _ he⟩, hi.at fun o q => k it (by simp) o q, hne⟩
  item := by
    intro X hP hw hK hc i pins s σ H E I hf st hg
    subst hP hw hK
    obtain ⟨⟨old, he⟩, hit, hne, hai, hea⟩ := st
    obtain ⟨xs, x, hq, hx⟩ := hg
    obtain ⟨its, rv, p, hz⟩ := I.tuple hq
    obtain ⟨u, hu, ru⟩ := rv.get hx
    have hel : e < s.heap.objs.size := Heap.lt_size he
    have hil : it < s.heap.objs.size := by obtain ⟨_, q, _⟩ := hit; exact Heap.lt_size q
    have hlt : i < its.toArray.size := by
      have := (List.getElem?_eq_some_iff.mp hu).1
      simpa using this
    refine wpAny_pyNext_enum_itemD (Draws.tuple (A := X.A.in1) (I.ok.hd hc) it a hai its.toArray) he ⟨hit, p⟩ hlt hne (by simp [hne, hea]) fun y h' tk hy ho hst hT hsz hk => ?_
    have hyu : y = u := by
      have e1 : its.toArray[i]? = some u := by simpa using hu
      rw [e1] at hy
      exact (Option.some.inj hy).symm
    subst hyu
    refine ⟨_, rfl, wpAny_letOwnedTupleGo_enum (s := { s with heap := h', toks := tk + 1 }) ho fun h'' he' sb => ?_⟩
    have hT2 : h''.get? s.heap.objs.size = some { cls := .type "tuple", data := .seq #[.int i tk, y] } := (sb.2 _ (Nat.ne_of_gt hel)).trans hT
    have new : ObjOk X.prog X.w (upd H s.heap.objs.size (.tup [.int (i : Nat), x])) h'' s.heap.objs.size (.tup [.int (i : Nat), x]) :=
      ⟨by show 2 ≤ sizeLine; decide, [.int i tk, y], .cons ⟨_, rfl⟩ (.cons ru .nil), ⟨_, hT2, rfl, _, rfl⟩⟩
    have I1 : Inv X pins σ (upd H s.heap.objs.size (.tup [.int (i : Nat), x])) { s with heap := h'', toks := tk + 1 } :=
      I.turnedNew (ch := [e, it]) (fun b ob hb q => (sb.2 b (fun z => hb (by simp [z]))).trans (hk b ob (fun z => hb (by simp [z])) (fun z => hb (by simp [z])) q)) hf (Nat.le_refl _) new
    refine ⟨.ref s.heap.objs.size, _, I1, rfl, ⟨_, x, rfl, I.hok.fresh (Nat.le_refl _), rfl, fun ys hy => by rw [I.tuple_inj hy hq]; exact hx⟩, ⟨⟨y, ?_⟩, hst.1.at fun o q => (sb.2 it (Ne.symm hne)).trans q, hne, hai, hea⟩, fun b hb => ?_⟩
    · have e1 : ((i + 1 : Nat) : Int) = (i : Int) + 1 := by omega
      rw [e1]; exact he'
    · have hb' : b < s.heap.objs.size := by
        have e' : b = e ∨ b = it := by simpa using hb
        rcases e' with z | z
        · rw [z]; exact hel
        · rw [z]; exact hil
      rw [upd_ne (Nat.ne_of_lt hb')]
      exact (hf b hb).1
  done := by
    intro X hP hw hK hc i pins s σ H E I hf st hg
    subst hP hw hK
    obtain ⟨⟨old, he⟩, hit, hne, hai, hea⟩ := st
    obtain ⟨xs, hq, hx⟩ := hg
    obtain ⟨its, rv, p, hz⟩ := I.tuple hq
    obtain ⟨f0, f1, f2, f3, f4, f5⟩ := hf it (by simp)
    have hl := rv.length
    have hx0 : its.toArray[i]? = none := by simp; omega
    exact wpAny_pyNext_enum_endD (draws_end (A := X.A.in1) (I.ok.hd hc) hai hx0) he ⟨rfl, hit, p⟩ fun h' eb => ⟨rfl, I.turned (t' := s.toks) (fun b o hb q => eb b o hb q) f0 f1 f3 f4 f5⟩
  self := fun A i s Q E st h => let ⟨⟨_, he⟩, _⟩ := st; wpAny_pyIter_enum he h
def iEnumT (K : PySem.W.Frag) (ta : TA) : TI := fun σ H R => ta σ H fun vs H1 => ∃ a xs, vs = [.ref a] ∧ SqT K H1 a xs ∧ R (IteT K a) H1
theorem pi_enumT {X : Cx} {e : Expr} {ta : TA} {p pos tpos : Pos} {elts : List Expr} {kk : Nat} (hg : Gl X "enumerate") (hm : X.mg "enumerate" = none) (ha : PA X [e] ta) (hs : starEach [e] X.env = [(false, eval e X.env)] := by rfl) :
    PI X (.Tuple elts kk tpos) (.Call (.Name "enumerate" p) [e] [] pos) (iEnumT X.K ta) := by
  refine ⟨fun pins s σ H R I h => ?_⟩
  refine Call_ (ld_blt I hg hm boot_enumerate (PyProof.Rows.callWith_type1 (thn (ha.run pos pins s σ H _ I h) fun us s1 ⟨vs, H1, I1, r1, q1⟩ => ?_) hs rfl))
  obtain ⟨a, xs, ex, hq, q⟩ := q1
  subst ex
  cases r1 with
  | cons r rr =>
    cases rr
    cases r
    obtain ⟨its, rv, p', hz⟩ := I1.tuple hq
    have hal : a < s1.heap.objs.size := by obtain ⟨_, q, _⟩ := p'; exact Heap.lt_size q
    refine call_enum1 (begins_tuple a its.toArray) (show s1.heap.IsTuple a its.toArray from p') fun h' he hit hsz hk => wpAny_pyIter_enum he ?_
    have I2 : Inv X pins σ H1 { s1 with heap := h' } := I1.kept (t' := s1.toks) hk
    refine ⟨s1.heap.objs.size + 1, [s1.heap.objs.size + 1, s1.heap.objs.size], _, _, H1, rfl, I2, turn_enumT a (s1.heap.objs.size + 1) s1.heap.objs.size, ⟨⟨.none, he⟩, ⟨_, hit, rfl, rfl⟩, Nat.succ_ne_self _, Nat.ne_of_lt hal, Nat.ne_of_gt (Nat.lt_succ_of_lt hal)⟩, fun b hb => ?_, q⟩
    have e' : b = s1.heap.objs.size + 1 ∨ b = s1.heap.objs.size := by simpa using hb
    have hle : s1.heap.objs.size ≤ b := by
      rcases e' with z | z
      · rw [z]; exact Nat.le_add_right _ _
      · rw [z]; exact Nat.le_refl _
    exact I1.fpOk hle (I1.hok.fresh hle)
theorem walk_enumT {K : PySem.W.Frag} {a : Addr} {xs : List V} : Walk (IteT K a) xs.length (fun H => SqT K H a xs) (YPair (fun i => some (.int (i : Nat))) (fun i => xs[i]?)) := by
  refine ⟨fun i _ hi q => ⟨xs, xs[i], q, by simp [hi]⟩, fun _ q => ⟨xs, q, Nat.le_refl _⟩, fun i H v H' _ q y => ?_⟩
  obtain ⟨T, x, h1, h2, h3, h4⟩ := y
  exact ⟨T, .int (i : Nat), x, h1, h2, h3, rfl, h4 xs q⟩
/-- for i, x in enumerate(t), t a new tuple -/
theorem q_forEnumNT {K : PySem.W.Frag} {σ : L2.St} {H : Hp} {tl : TE} {D : Ends} {tu tz : TS} {xs : List V} {j1 j2 : Nat} (h : EvU tl σ H xs) (Pv : Nat → L2.St → Hp → Prop) (h0 : ∀ H1, Ex H H1 → Pv 0 σ H1)
    (hs : ∀ (i : Nat) x σ' H' H2, xs[i]? = some x → Pv i σ' H' → Ex H' H2 → ∀ N : L2.St → Hp → Prop, (∀ σ3 H3, Pv (i + 1) σ3 H3 → Tx H2 H3 → N σ3 H3) → tu { D with nx := N, ct := N, bk := tz D } ((σ'.set j1 (some (.int i))).set j2 (some x)) H2) (hd : ∀ σ' H', Pv xs.length σ' H' → tz D σ' H') : tSeq (tFor (iEnumT K (tCons tl tNil)) (gPair K j1 j2) tu) tz D σ H :=
  h H (Ex.refl H) _ fun p H1 _ e hp => ⟨p, xs, rfl, st_of hp, for_it walk_enumT (fun i σ' H' => Pv i σ' H' ∧ H' p = some (.tup xs)) ⟨h0 H1 e, hp⟩ (fun i σ' H' _ z => st_of z.2) (fun i v σ' H' H2 hi z y => by
    obtain ⟨T, x, w, rfl, hT, rfl, e1, e2⟩ := y
    cases e1
    have eT : Ex H' (upd H' T (.tup [.int (i : Nat), w])) := Ex.new hT
    exact ⟨T, _, rfl, st_of upd_same, rfl, _, _, rfl, _, _, rfl, rfl, hs i w σ' H' _ e2 z.1 eT _ fun σ3 H3 a t => ⟨a, t _ _ (eT _ _ z.2)⟩⟩) fun σ' H' z => hd σ' H' z.1⟩
section
variable {K : PySem.W.Frag} {σ : L2.St} {H : Hp} {te ta tb : TE} {v : V}
theorem rv_neB {a b : Bool} : Evl.RV rNe (.bl a) (.bl b) H (.bl (!decide (V.bl a = V.bl b))) := rv_ne rfl
theorem ev_isiN {m : String} {cs : List String} {b : Bool} (h : Ev te σ H v) (ty : TyX K H v (.type m)) (e : PySem.W.kitAny K (.type m) (cs.map Value.type) = some b) {ta : TA} (ht : EvU (tTup ta) σ H (cs.map V.ty)) : Ev (tCB (rIsiT K) (tCons te (tCons (tTup ta) tNil))) σ H (.bl b) := fun H1 x Q q =>
  h H1 x _ fun H2 x2 => ht H2 (x.trans x2) _ fun p H3 hp x3 h3 => by
    show rIsiT K [v, .ref p] H3 Q
    have pr : ∀ cs : List String, Paired ClsV (cs.map V.ty) (cs.map Value.type) := fun cs => by
      induction cs with
      | nil => exact .nil
      | cons c cs ih => exact .cons (.ty c) ih
    exact ⟨v, p, cs.map V.ty, _, cs.map Value.type, b, rfl, h3, pr cs, tyx_ext ((x.trans x2).trans x3) ty, e, q _ (x2.trans x3)⟩
end
end K17

set_option Elab.async false
set_option linter.all false
set_option maxRecDepth 100000
set_option maxHeartbeats 4000000
/-! Any object, as data; words. -/
namespace K17
open PySem PySem.Spec PyProof.Rows L2 Evl
inductive O where
  | non | bl (b : Bool) | int (i : Int) | str (s : Str) | dct | lst (xs : List O) | tup (xs : List O)
def O.seq : Bool → List O → O
  | true, xs => .lst xs
  | false, xs => .tup xs
mutual
def O.sz : O → Nat
  | .non => 1 | .bl _ => 1 | .int _ => 1 | .str _ => 1 | .dct => 1 | .lst xs => O.szs xs + 1 | .tup xs => O.szs xs + 1
def O.szs : List O → Nat
  | [] => 0
  | x :: xs => x.sz + O.szs xs
end
mutual
def O.dp : O → Nat
  | .non => 0 | .bl _ => 0 | .int _ => 0 | .str _ => 0 | .dct => 0 | .lst xs => O.dps xs + 1 | .tup xs => O.dps xs + 1
def O.dps : List O → Nat
  | [] => 0
  | x :: xs => max x.dp (O.dps xs)
end
mutual
def O.strip : O → O
  | .non => .non | .bl b => .bl b | .int i => .int i | .str s => .str s | .dct => .dct | .lst xs => .tup (O.strips xs) | .tup xs => .tup (O.strips xs)
def O.strips : List O → List O
  | [] => []
  | x :: xs => x.strip :: O.strips xs
end
mutual
def O.hasL : O → Bool
  | .non => false | .bl _ => false | .int _ => false | .str _ => false | .dct => false | .lst _ => true | .tup xs => O.hasLs xs
def O.hasLs : List O → Bool
  | [] => false
  | x :: xs => x.hasL || O.hasLs xs
end
mutual
def OV (H : Hp) : V → O → Prop
  | v, .non => v = .non
  | v, .bl b => v = .bl b
  | v, .int i => v = .int i
  | v, .str s => v = .str s
  | v, .dct => ∃ a, v = .ref a ∧ H a = some (.dK [])
  | v, .lst xs => ∃ a vs, v = .ref a ∧ H a = some (.lst vs) ∧ OVs H vs xs
  | v, .tup xs => ∃ a vs, v = .ref a ∧ H a = some (.tup vs) ∧ OVs H vs xs
def OVs (H : Hp) : List V → List O → Prop
  | vs, [] => vs = []
  | vs, o :: os => ∃ v us, vs = v :: us ∧ OV H v o ∧ OVs H us os
end
section
variable {H G : Hp}
mutual
theorem OV.ext (e : Ex H G) : ∀ {o : O} {v : V}, OV H v o → OV G v o
  | .non, _, h => h
  | .bl _, _, h => h
  | .int _, _, h => h
  | .str _, _, h => h
  | .dct, _, ⟨a, h1, h2⟩ => ⟨a, h1, e _ _ h2⟩
  | .lst _, _, ⟨a, vs, h1, h2, h3⟩ => ⟨a, vs, h1, e _ _ h2, OVs.ext e h3⟩
  | .tup _, _, ⟨a, vs, h1, h2, h3⟩ => ⟨a, vs, h1, e _ _ h2, OVs.ext e h3⟩
theorem OVs.ext (e : Ex H G) : ∀ {os : List O} {vs : List V}, OVs H vs os → OVs G vs os
  | [], _, h => h
  | _ :: _, _, ⟨v, us, h1, h2, h3⟩ => ⟨v, us, h1, OV.ext e h2, OVs.ext e h3⟩
end
theorem OVs.length : ∀ {os : List O} {vs : List V}, OVs H vs os → vs.length = os.length
  | [], _, h => by rw [show _ = [] from h]; rfl
  | _ :: _, _, ⟨v, us, h1, h2, h3⟩ => by rw [h1, List.length_cons, List.length_cons, OVs.length h3]
theorem OVs.nil : OVs H [] [] := rfl
theorem OVs.cons {v : V} {vs : List V} {o : O} {os : List O} (h : OV H v o) (k : OVs H vs os) : OVs H (v :: vs) (o :: os) := ⟨v, vs, rfl, h, k⟩
theorem OVs.append : ∀ {os ps : List O} {vs us : List V}, OVs H vs os → OVs H us ps → OVs H (vs ++ us) (os ++ ps)
  | [], _, _, _, h, k => by rw [show _ = [] from h]; exact k
  | _ :: _, _, _, _, ⟨v, us, h1, h2, h3⟩, k => by rw [h1]; exact ⟨v, _, rfl, h2, OVs.append h3 k⟩
theorem OVs.snoc : ∀ {os : List O} {o : O} {vs : List V}, OVs H vs (os ++ [o]) → ∃ us v, vs = us ++ [v] ∧ OVs H us os ∧ OV H v o
  | [], _, _, ⟨v, us, h1, h2, h3⟩ => ⟨[], v, by rw [h1, show us = [] from h3]; rfl, rfl, h2⟩
  | _ :: _, _, _, ⟨v, us, h1, h2, h3⟩ => by
    obtain ⟨ws, w, e, a, b⟩ := OVs.snoc h3
    exact ⟨v :: ws, w, by rw [h1, e]; rfl, ⟨v, ws, rfl, h2, a⟩, b⟩
theorem OVs.get : ∀ {os : List O} {vs : List V} {i : Nat} {v : V}, OVs H vs os → vs[i]? = some v → ∃ o, os[i]? = some o ∧ OV H v o
  | [], _, i, v, h, e => by rw [show _ = [] from h] at e; simp at e
  | o :: _, _, 0, v, ⟨u, us, h1, h2, h3⟩, e => by
    rw [h1] at e
    obtain rfl : u = v := by simpa using e
    exact ⟨o, rfl, h2⟩
  | _ :: _, _, i + 1, v, ⟨u, us, h1, h2, h3⟩, e => by
    rw [h1] at e
    obtain ⟨o, a, b⟩ := OVs.get (i := i) (v := v) h3 (by simpa using e)
    exact ⟨o, by simpa using a, b⟩
theorem OVs.geto : ∀ {os : List O} {vs : List V} {i : Nat} {o : O}, OVs H vs os → os[i]? = some o → ∃ v, vs[i]? = some v ∧ OV H v o
  | [], _, i, v, h, e => by simp at e
  | o :: _, _, 0, p, ⟨u, us, h1, h2, h3⟩, e => by
    obtain rfl : o = p := by simpa using e
    exact ⟨u, by rw [h1]; rfl, h2⟩
  | _ :: _, _, i + 1, v, ⟨u, us, h1, h2, h3⟩, e => by
    obtain ⟨w, a, b⟩ := OVs.geto (i := i) h3 (by simpa using e)
    exact ⟨w, by rw [h1]; simpa using a, b⟩
theorem O.szs_app : ∀ (xs ys : List O), O.szs (xs ++ ys) = O.szs xs + O.szs ys
  | [], ys => by simp [O.szs]
  | x :: xs, ys => by
    show x.sz + O.szs (xs ++ ys) = x.sz + O.szs xs + O.szs ys
    rw [O.szs_app xs ys]
    omega
theorem O.sz_pos : ∀ o : O, 1 ≤ o.sz
  | .non => Nat.le_refl _ | .bl _ => Nat.le_refl _ | .int _ => Nat.le_refl _ | .str _ => Nat.le_refl _ | .dct => Nat.le_refl _
  | .lst xs => Nat.le_add_left _ _ | .tup xs => Nat.le_add_left _ _
theorem O.len_szs : ∀ xs : List O, xs.length ≤ O.szs xs
  | [] => Nat.le_refl _
  | x :: xs => by
    have h := O.len_szs xs
    have h1 := x.sz_pos
    show xs.length + 1 ≤ x.sz + O.szs xs
    omega
/-- a list or a tuple -/
theorem OV.seq {v : V} {b : Bool} {xs : List O} (h : OV H v (O.seq b xs)) : ∃ a vs, v = .ref a ∧ H a = some (if b = true then .lst vs else .tup vs) ∧ OVs H vs xs := by
  cases b with
  | true => exact h
  | false => exact h
theorem O.seq_sz {b : Bool} {xs : List O} : (O.seq b xs).sz = O.szs xs + 1 := by cases b <;> rfl
end
/-! ### of what type -/
def O.ty : O → String
  | .non => "NoneType" | .bl _ => "bool" | .int _ => "int" | .str _ => "str" | .dct => "dict" | .lst _ => "list" | .tup _ => "tuple"
def O.isInt : O → Bool
  | .bl _ => true | .int _ => true | _ => false
def O.isBool : O → Bool
  | .bl _ => true | _ => false
def O.isStr : O → Bool
  | .str _ => true | _ => false
def O.isLst : O → Bool
  | .lst _ => true | _ => false
def O.isTup : O → Bool
  | .tup _ => true | _ => false
def O.isDct : O → Bool
  | .dct => true | _ => false
section
variable {K : PySem.W.Frag} {σ : L2.St} {H G : Hp} {te ta tb : TE} {v : V} {o : O}
theorem OV.tyx (h : OV H v o) : TyX K H v (.type o.ty) := by
  cases o with
  | non => rw [show v = .non from h]; exact .base .non
  | bl b => rw [show v = .bl b from h]; exact .base (.bl b)
  | int i => rw [show v = .int i from h]; exact .base (.int i)
  | str s => rw [show v = .str s from h]; exact .base (.str s)
  | dct => obtain ⟨a, rfl, h1⟩ := h; exact .base (.dK h1)
  | lst xs => obtain ⟨a, vs, rfl, h1, _⟩ := h; exact .base (.lst h1)
  | tup xs => obtain ⟨a, vs, rfl, h1, _⟩ := h; exact .base (.tup h1)
theorem kit_int (o : O) : kitB o.ty "int" = some o.isInt := by cases o <;> dsimp only [O.ty, O.isInt] <;> decide +kernel
theorem kit_bool (o : O) : kitB o.ty "bool" = some o.isBool := by cases o <;> dsimp only [O.ty, O.isBool] <;> decide +kernel
theorem kit_str (o : O) : kitB o.ty "str" = some o.isStr := by cases o <;> dsimp only [O.ty, O.isStr] <;> decide +kernel
theorem kit_lst (o : O) : kitB o.ty "list" = some o.isLst := by cases o <;> dsimp only [O.ty, O.isLst] <;> decide +kernel
theorem kit_tup (o : O) : kitB o.ty "tuple" = some o.isTup := by cases o <;> dsimp only [O.ty, O.isTup] <;> decide +kernel
theorem kit_dct (o : O) : kitB o.ty "dict" = some o.isDct := by cases o <;> dsimp only [O.ty, O.isDct] <;> decide +kernel
theorem ev_isInt (h : Ev te σ H v) (k : OV H v o) : Ev (tIsi K "int" te) σ H (.bl o.isInt) := ev_isi h k.tyx (kit_int o)
theorem ev_isBool (h : Ev te σ H v) (k : OV H v o) : Ev (tIsi K "bool" te) σ H (.bl o.isBool) := ev_isi h k.tyx (kit_bool o)
theorem ev_isStr (h : Ev te σ H v) (k : OV H v o) : Ev (tIsi K "str" te) σ H (.bl o.isStr) := ev_isi h k.tyx (kit_str o)
theorem ev_isLst (h : Ev te σ H v) (k : OV H v o) : Ev (tIsi K "list" te) σ H (.bl o.isLst) := ev_isi h k.tyx (kit_lst o)
theorem ev_isTup (h : Ev te σ H v) (k : OV H v o) : Ev (tIsi K "tuple" te) σ H (.bl o.isTup) := ev_isi h k.tyx (kit_tup o)
theorem ev_isDct (h : Ev te σ H v) (k : OV H v o) : Ev (tIsi K "dict" te) σ H (.bl o.isDct) := ev_isi h k.tyx (kit_dct o)
theorem ev_isSeq (h : Ev te σ H v) (k : OV H v o) : Ev (tIsi2 K te) σ H (.bl (o.isLst || o.isTup)) := ev_isi2 h k.tyx (kit_lst o) (kit_tup o)
theorem O.seq_of {o : O} (h : (o.isLst || o.isTup) = true) : ∃ b xs, o = O.seq b xs := by
  cases o with
  | lst xs => exact ⟨true, xs, rfl⟩
  | tup xs => exact ⟨false, xs, rfl⟩
  | _ => cases h
end
/-! ### rules for either of two kinds -/
theorem ix_or {X : Cx} {r1 r2 : R2} (h1 : IxR X r1) (h2 : IxR X r2) : IxR X (fun x y H Q => r1 x y H Q ∨ r2 x y H Q) := by
  intro value slice pins s σ H x y v u Q I rx ry h e
  rcases h with h | h
  · exact h1 value slice pins s σ H x y v u Q I rx ry h e
  · exact h2 value slice pins s σ H x y v u Q I rx ry h e
theorem op_or {X : Cx} {f : Value → Value → Sem Value} {r1 r2 : R2} (h1 : OpR X f r1) (h2 : OpR X f r2) : OpR X f (fun x y H Q => r1 x y H Q ∨ r2 x y H Q) := by
  intro pins s σ H x y v u Q I rx ry h
  rcases h with h | h
  · exact h1 pins s σ H x y v u Q I rx ry h
  · exact h2 pins s σ H x y v u Q I rx ry h
theorem mt_or {X : Cx} {id : String} {r1 r2 : V → List V → Hp → VK → Prop} (h1 : MtM X id r1) (h2 : MtM X id r2) : MtM X id (fun x vs H Q => r1 x vs H Q ∨ r2 x vs H Q) := by
  intro pins s σ H x vs v us Q I rx rv h
  rcases h with h | h
  · exact h1 pins s σ H x vs v us Q I rx rv h
  · exact h2 pins s σ H x vs v us Q I rx rv h
section
variable {K : PySem.W.Frag} {σ : L2.St} {H G : Hp} {te ta tb : TE} {v : V} {D : Ends} {tz : TS}
/-- x[i], x a list or a tuple -/
abbrev rIxQ (K : PySem.W.Frag) : R2 := fun x y H Q => rIxL K x y H Q ∨ rIxT K x y H Q
theorem ix_seq {X : Cx} : IxR X (rIxQ X.K) := ix_or ix_list ix_tup
abbrev rSlQ (K : PySem.W.Frag) : V → Option Int → Option Int → Hp → VK → Prop := fun x lo hi H Q => rSlL K x lo hi H Q ∨ rSlT K x lo hi H Q
theorem sl_seq {X : Cx} : SlR X (rSlQ X.K) := SlR.or sl_list sl_tup
/-- xs.extend(ys), ys a new list or a tuple -/
abbrev rExtQ (K : PySem.W.Frag) : V → List V → Hp → VK → Prop := fun x vs H Q => rExtend x vs H Q ∨ rExtT K x vs H Q
theorem mt_extQ {X : Cx} : MtM X "list.extend" (rExtQ X.K) := mt_or mt_extend mt_extT
/-- what stands at a: a list or a tuple -/
def SqB (H : Hp) (b : Bool) (a : Addr) (vs : List V) : Prop := H a = some (if b = true then .lst vs else .tup vs)
theorem SqB.ext {b : Bool} {a : Addr} {vs : List V} (e : Ex H G) (h : SqB H b a vs) : SqB G b a vs := e _ _ h
theorem rv_ixQ {b : Bool} {p : Addr} {vs : List V} {i : Int} (h : SqB H b p vs) (ha : atI vs i = some v) : RV (rIxQ K) (.ref p) (.int i) H v := fun H1 e Q q => by
  cases b with
  | true => exact .inl (rv_ixL (sq_of h) ha H1 e Q q)
  | false => exact .inr (rv_ixT (st_of h) ha H1 e Q q)
theorem ev_notN {b : Bool} (h : Ev te σ H v) (e : (!decide (v = .non)) = b) : Ev (tNotN te) σ H (.bl b) := fun H1 x Q q => h H1 x _ fun H2 x2 => by
  subst e
  exact q H2 x2
theorem ev_lenQ {b : Bool} {p : Addr} {vs : List V} (h : Ev te σ H (.ref p)) (hs : SqB H b p vs) : Ev (tLen K te) σ H (.int (vs.length : Nat)) := by
  cases b with
  | true => exact ev_lenL h (sq_of hs)
  | false => exact ev_lenT h (st_of hs)
/-- a new list or tuple -/
def EvQ (te : TE) (σ : L2.St) (H : Hp) (xs : List V) : Prop := ∀ H1, Ex H H1 → ∀ Q : VK, (∀ b p H2, H1 p = none → Ex H1 H2 → SqB H2 b p xs → Q (.ref p) H2) → te σ H1 Q
/-- x[1:] -/
theorem eq_tail {b : Bool} {a : Addr} {x : V} {xs : List V} (h : Ev te σ H (.ref a)) (ha : SqB H b a (x :: xs)) : EvQ (tSl (rSlQ K) te (tPart (tC (.int 1))) tNoPart) σ H xs := fun H1 e Q q =>
  h H1 e _ fun H2 e2 => ⟨1, rfl, by
    have e0 : cutV (x :: xs) (some 1) none = xs := cut1 x xs
    have ha2 := ha.ext (e.trans e2)
    cases b with
    | true => exact .inl ⟨a, x :: xs, rfl, sq_of ha2, fun p hp => by
        rw [e0]
        exact q true p _ (fresh_back e2 hp) (e2.trans (Ex.new hp)) upd_same⟩
    | false => exact .inr ⟨a, x :: xs, rfl, st_of ha2, fun z => by
        have e1 : HT.sIx (x :: xs).length 0 (some 1) = 1 := by simp [HT.sIx]
        rw [e1] at z
        exact absurd z.1 (by decide), fun p hp => by
        rw [e0]
        exact q false p _ (fresh_back e2 hp) (e2.trans (Ex.new hp)) upd_same⟩⟩
theorem s_extQ {l : Addr} {xs zs : List V} (hl : H l = some (.lst xs)) (ha : Ev ta σ H (.ref l)) (hb : EvQ te σ H zs) (hs : xs.length + zs.length ≤ 100000) (k : ∀ H1, Ex H H1 → D.nx σ (upd H1 l (.lst (xs ++ zs)))) :
    tDrop (tBM K "list" (rExtQ K) ta (tCons te tNil)) D σ H := ha H (Ex.refl H) _ fun H1 e1 => ⟨.inl ⟨rfl, _, sq_of (e1 l _ hl)⟩, hb H1 e1 _ fun b p H2 _ e2 hp => by
  have hl2 := e2 l _ (e1 l _ hl)
  cases b with
  | true => exact .inl ⟨l, p, xs, zs, rfl, rfl, hl2, hp, sz_of hs, k H2 (e1.trans e2)⟩
  | false => exact .inr ⟨l, p, xs, zs, rfl, rfl, hl2, st_of hp, sz_of hs, k H2 (e1.trans e2)⟩⟩
end
end K17

set_option Elab.async false
set_option linter.all false
set_option maxRecDepth 100000
set_option maxHeartbeats 4000000
/-! What is known of the module's names; kinds. -/
namespace K17
open PySem PySem.Spec PyProof.Rows L2 Evl
structure T17 (P : Program) (w : World) (K : PySem.W.Frag) (mg : Str → Option Value) (base : Heap) : Prop where
  fr : ∀ x ∈ fBl, mg x = none
  df : ∀ (i : Nat) (x : Str) (st : Stmt), fnA[i]? = some (dN x st) → (∃ fd, FnP K x st (He.ga K x) fd) ∧ mg x = some (.ref (He.ga K x))
/-- a def of the module keeps a promise; CX: what it may let out -/
structure Ok (P : Program) (w : World) (K : PySem.W.Frag) (mg : Str → Option Value) (base : Heap) (CX : CXT) (x : Str) (ps : List Str) (k : Nat) (sp : Sp) : Prop where
  ex : ∃ (f : Addr) (fd : FuncData), FnOk P w K mg base CX k f fd ps sp ∧ Binds K fd ps [] ∧ PySem.W.keepIn K (.ref f) = true ∧ mg x = some (.ref f)
section
variable {P : Program} {w : World} {K : PySem.W.Frag} {mg : Str → Option Value} {base : Heap}
theorem T17.any (T : T17 P w K mg base) : mg "any" = none := T.fr _ (by decide)
theorem T17.isi (T : T17 P w K mg base) : mg "isinstance" = none := T.fr _ (by decide)
theorem T17.len (T : T17 P w K mg base) : mg "len" = none := T.fr _ (by decide)
theorem T17.list (T : T17 P w K mg base) : mg "list" = none := T.fr _ (by decide)
theorem T17.tuple (T : T17 P w K mg base) : mg "tuple" = none := T.fr _ (by decide)
theorem T17.str (T : T17 P w K mg base) : mg "str" = none := T.fr _ (by decide)
theorem T17.int (T : T17 P w K mg base) : mg "int" = none := T.fr _ (by decide)
theorem T17.bool (T : T17 P w K mg base) : mg "bool" = none := T.fr _ (by decide)
theorem T17.dict (T : T17 P w K mg base) : mg "dict" = none := T.fr _ (by decide)
theorem T17.range (T : T17 P w K mg base) : mg "range" = none := T.fr _ (by decide)
theorem T17.enumerate (T : T17 P w K mg base) : mg "enumerate" = none := T.fr _ (by decide)
theorem T17.zip (T : T17 P w K mg base) : mg "zip" = none := T.fr _ (by decide)
theorem T17.all (T : T17 P w K mg base) : mg "all" = none := T.fr _ (by decide)
theorem T17.repr (T : T17 P w K mg base) : mg "repr" = none := T.fr _ (by decide)
theorem T17.sorted (T : T17 P w K mg base) : mg "sorted" = none := T.fr _ (by decide)
/-- a def by its place, nothing let out -/
theorem T17.ok (T : T17 P w K mg base) (i : Nat) {x : Str} {st : Stmt} {N ps : List Str} {k : Nat} {sp : Sp} (hi : fnA[i]? = some (dN x st)) (S : FnScope N ps (defScope st)) (len : ∀ vs H Q E, sp vs H Q E → vs.length = ps.length)
    (hb : ∀ (kV doc pm : Value) (an : Option Addr) (cdv ct : Value) (us : List Value), us.length = ps.length → bindArgs (PySem.W.fnOf x x (defArgs st) (defBody st) (defScope st) .none kV doc pm an cdv ct) ⟨us, []⟩ = pure (ps.zip us))
    (hbody : ∀ (f : Addr) (cdv : Value) (A : Around) (outer : List Env) (s : Shared) (H : Hp) (vs : List V) (Q : VK) (E : XK), Room k (A.deeper (envOfC x (defScope st) s.heap.objs.size f cdv)) → sp vs H Q E →
      ∃ t, PSs (cxOf CX0 P w K mg base N x (defScope st) f cdv A outer s H E).nox (defBody st) t ∧ t { nx := fun _ H' => Q .non H', rt := Q } (L2.start N vs) H) : Ok P w K mg base CX0 x ps (k + 1) sp := by
  obtain ⟨⟨fd, F⟩, m⟩ := T.df i x st hi
  refine ⟨_, fd, F.ok S len (fun cdv A outer s H vs Q E hr h => ?_), F.bindsN hb, F.kp, m⟩
  obtain ⟨t, h1, h2⟩ := hbody _ cdv A outer s H vs Q E hr h
  exact ⟨t, PSs.nox h1, h2⟩
/-- a def that may raise -/
theorem T17.okX (T : T17 P w K mg base) (i : Nat) {x : Str} {st : Stmt} {N ps : List Str} {k : Nat} {sp : Sp} (hi : fnA[i]? = some (dN x st)) (S : FnScope N ps (defScope st)) (len : ∀ vs H Q E, sp vs H Q E → vs.length = ps.length)
    (hb : ∀ (kV doc pm : Value) (an : Option Addr) (cdv ct : Value) (us : List Value), us.length = ps.length → bindArgs (PySem.W.fnOf x x (defArgs st) (defBody st) (defScope st) .none kV doc pm an cdv ct) ⟨us, []⟩ = pure (ps.zip us))
    (hbody : ∀ (f : Addr) (cdv : Value) (A : Around) (outer : List Env) (s : Shared) (H : Hp) (vs : List V) (Q : VK) (E : XK), Room k (A.deeper (envOfC x (defScope st) s.heap.objs.size f cdv)) → sp vs H Q E →
      ∃ t, PSs (cxOf (L2.CX P w) P w K mg base N x (defScope st) f cdv A outer s H E) (defBody st) t ∧ t { nx := fun _ H' => Q .non H', rt := Q } (L2.start N vs) H) : Ok P w K mg base (L2.CX P w) x ps (k + 1) sp := by
  obtain ⟨⟨fd, F⟩, m⟩ := T.df i x st hi
  exact ⟨_, fd, F.ok S len (fun cdv A outer s H vs Q E hr h => hbody _ cdv A outer s H vs Q E hr h), F.bindsN hb, F.kp, m⟩
end
/-- all texts that stand in any data here -/
def SS : List Str := ["c", "f", "soc", "k1", "q", "e", "d1", "s1", "r", "p", "=", "X", "Y", "Z7", "X12", "X1", "X2", "X3", "X4", "late"]
theorem ss_lens : SS.all (fun s => decide (s.length ≤ 100)) = true := by decide +kernel
theorem ss_len {s : Str} (h : s ∈ SS) : s.length ≤ 100 := of_decide_eq_true (List.all_eq_true.mp ss_lens s h)
end K17

set_option Elab.async false
set_option linter.all false
set_option maxRecDepth 100000
set_option maxHeartbeats 4000000
/-! Variables; what has lists. -/
namespace K17
open PySem PySem.Spec PyProof.Rows L2 Evl
section
variable {P : Program} {w : World} {K : PySem.W.Frag} {mg : Str → Option Value} {base : Heap}
theorem ev_slS {σ : L2.St} {H : Hp} {te : TE} {x : Str} (h : Ev te σ H (.str x)) (hl : x.length ≤ 1000) : Ev (tSl rSlS te (tPart (tC (.int 1))) tNoPart) σ H (.str (cutS x (some 1) none)) := fun H1 e Q q =>
  h H1 e _ fun H2 e2 => ⟨1, rfl, x, rfl, sz_of (by omega), q H2 e2⟩
/-! ### has_lists -/
theorem hasLs_app : ∀ (xs ys : List O), O.hasLs (xs ++ ys) = (O.hasLs xs || O.hasLs ys)
  | [], ys => by simp [O.hasLs]
  | x :: xs, ys => by
    show (x.hasL || O.hasLs (xs ++ ys)) = (x.hasL || O.hasLs xs || O.hasLs ys)
    rw [hasLs_app xs ys, Bool.or_assoc]
def spHL : Sp := fun vs H Q _ => ∃ v o, vs = [v] ∧ OV H v o ∧ o.sz ≤ 9000 ∧ RetV (.bl o.hasL) H Q
theorem sc_hl : FnScope ["thing", "work", "part"] ["thing"] (defScope s_has_lists) := ⟨rfl, rfl, rfl, by decide +kernel, rfl, by decide +kernel, by decide +kernel⟩
theorem ok_has_lists (T : T17 P w K mg base) : Ok P w K mg base CX0 "has_lists" ["thing"] 1 spHL := by
  refine T.ok 0 rfl sc_hl (fun vs H Q E h => ?_) (fun kV doc pm an cdv ct us hl => match us, hl with | [_], _ => rfl) (fun f cdv A outer s H vs Q E hr h => ?_)
  · obtain ⟨v, z, rfl, _⟩ := h
    rfl
  · obtain ⟨v, z, rfl, hw, hz, k⟩ := h
    refine ⟨_, pss_cons (ps_set (i := 1) sc_hl.nd rfl (Or.inl rfl) (pe_lst (pa_cons (pv 0) pa_nil)))
      (pss_cons (ps_while PassesOwn.never (pt_truth (pv 1) (by intro _; rfl))
        (pss_cons (ps_set (i := 2) sc_hl.nd rfl (Or.inl rfl) (pe_bm0 PySem.F.plainAttrs_list PySem.F.slot_list_pop PySem.F.type_list_pop mt_pop (pv 1)))
        (pss_cons (ps_if (pt_val (pe_isiB T.isi T.list PyProof.Rows.boot_list (pv 2))) (pss_one (ps_ret pe_bl)) pss_nil)
        (pss_one (ps_if (pt_val (pe_isiB T.isi T.tuple PyProof.Rows.boot_tuple (pv 2))) (pss_one (ps_expr (pe_bm PySem.F.plainAttrs_list PySem.F.slot_list_extend PySem.F.type_list_extend mt_extT (pv 1) (pa_cons (pv 2) pa_nil)))) pss_nil)))))
      (pss_one (ps_ret pe_bl))), ?_⟩
    refine q_asgL (el_lst (ea_cons (ev_var rfl) ea_nil) (by show 1 ≤ 100000; decide)) fun p H1 hp e1 h1 => ?_
    refine q_while (fun m σ' H' => ∃ (xs : List V) (ts : List O) (o : Option V), σ' = [some v, some (.ref p), o] ∧ Ex H H' ∧ H' p = some (.lst xs) ∧ OVs H xs ts ∧ m = O.szs ts ∧ m ≤ 9000 ∧ O.hasLs ts = z.hasL) z.sz
      ⟨[v], [z], none, rfl, e1, h1, .cons hw .nil, by simp [O.szs], hz, by simp [O.hasLs]⟩ ?_
    rintro m σ' H' ⟨xs, ts, o, rfl, e2, h2, tv, hm, hm2, hres⟩
    refine ⟨!xs.isEmpty, et_truL (ev_var rfl) (SqL.of h2), fun hb H3 e3 => ?_, fun hb H3 e3 => ?_⟩
    · rcases List.eq_nil_or_concat ts with ht | ⟨ts', t, ht⟩
      · subst ht
        rw [show xs = [] from tv] at hb
        exact absurd hb (by decide)
      rw [List.concat_eq_append] at ht
      subst ht
      obtain ⟨us, x, rfl, tv1, tvx⟩ := OVs.snoc tv
      have hp' : H p = none := hp
      have hsum := O.szs_app ts' [t]
      have hs1 : O.szs [t] = t.sz := by simp [O.szs]
      have hlen := O.len_szs ts'
      have hle := tv1.length
      rw [hasLs_app, show O.hasLs [t] = t.hasL by simp [O.hasLs]] at hres
      refine ⟨fun σ2 H2 => ∃ m', m' < m ∧ ∃ (xs : List V) (ts : List O) (o : Option V), σ2 = [some v, some (.ref p), o] ∧ Ex H H2 ∧ H2 p = some (.lst xs) ∧ OVs H xs ts ∧ m' = O.szs ts ∧ m' ≤ 9000 ∧ O.hasLs ts = z.hasL, fun σ2 H2 z => z, ?_⟩
      refine q_pop (e3 _ _ h2) (ev_var rfl) fun H4 e4 => ?_
      have e5 : Ex H (upd H4 p (.lst us)) := Ex.mut ((e2.trans e3).trans e4) hp'
      have tvx5 := tvx.ext e5
      have tp := t.sz_pos
      refine q_when (b := t.isLst) (et_B (ev_isLst (ev_var rfl) tvx5)) (fun hL H5 e6 => ?_) fun hL H5 e6 => ?_
      · cases t with
        | lst ys =>
          refine s_ret (ev_is ev_c ?_) fun H6 e7 => k H6 ((e5.trans e6).trans e7)
          rw [← hres, show (O.lst ys).hasL = true from rfl, Bool.or_true]
        | _ => cases hL
      · refine s_when (b := t.isTup) (et_B (ev_isTup (ev_var rfl) (tvx5.ext e6))) (fun hT H6 e7 => ?_) fun hT H6 e7 => ?_
        · cases t with
          | tup ys =>
            obtain ⟨r, as, rfl, hr', ha⟩ := tvx
            have e8 := e6.trans e7
            have hal := ha.length
            have hly := O.len_szs ys
            have hty : (O.tup ys).sz = O.szs ys + 1 := rfl
            refine s_extT (e8 _ _ upd_same) (ev_var rfl) (ev_var rfl) (st_of ((e5.trans e8) _ _ hr')) (by omega) fun H7 e9 => ?_
            exact ⟨O.szs (ts' ++ ys), by rw [O.szs_app]; omega, us ++ as, ts' ++ ys, _, rfl, Ex.mut ((e5.trans e8).trans e9) hp', upd_same, tv1.append ha, rfl, by rw [O.szs_app]; omega, by rw [hasLs_app]; exact hres⟩
          | _ => cases hT
        · have hno : t.hasL = false := by cases t with
            | lst ys => cases hL
            | tup ys => cases hT
            | _ => rfl
          rw [hno, Bool.or_false] at hres
          exact ⟨O.szs ts', by omega, us, ts', _, rfl, (e5.trans e6).trans e7, e7 _ _ (e6 _ _ upd_same), tv1, rfl, by omega, hres⟩
    · have hx : xs = [] := by
        cases xs with
        | nil => rfl
        | cons _ _ => cases hb
      have ht : ts = [] := by
        have := tv.length
        rw [hx] at this
        exact List.length_eq_zero_iff.mp this.symm
      rw [ht] at hres
      refine s_ret (ev_is ev_c ?_) fun H4 e4 => k H4 ((e2.trans e3).trans e4)
      rw [← hres]
      rfl
end
end K17

set_option Elab.async false
set_option linter.all false
set_option maxRecDepth 100000
set_option maxHeartbeats 4000000
/-! frozen: lists made tuples. -/
namespace K17
open PySem PySem.Spec PyProof.Rows L2 Evl
mutual
def O.nod : O → Bool
  | .non => true | .bl _ => true | .int _ => true | .str _ => true | .dct => false | .lst xs => O.nods xs | .tup xs => O.nods xs
def O.nods : List O → Bool
  | [] => true
  | x :: xs => x.nod && O.nods xs
end
section
variable {H G : Hp}
mutual
theorem OV.tx (e : Tx H G) : ∀ {o : O} {v : V}, o.hasL = false → o.nod = true → OV H v o → OV G v o
  | .non, _, _, _, h => h
  | .bl _, _, _, _, h => h
  | .int _, _, _, _, h => h
  | .str _, _, _, _, h => h
  | .dct, _, _, h, _ => nomatch h
  | .lst _, _, h, _, _ => nomatch h
  | .tup _, _, h1, h2, ⟨a, vs, e1, e2, e3⟩ => ⟨a, vs, e1, e _ _ e2, OVs.tx e h1 h2 e3⟩
theorem OVs.tx (e : Tx H G) : ∀ {os : List O} {vs : List V}, O.hasLs os = false → O.nods os = true → OVs H vs os → OVs G vs os
  | [], _, _, _, h => h
  | _ :: _, _, h1, h2, ⟨v, us, e1, e2, e3⟩ => by
    obtain ⟨a, b⟩ := Bool.or_eq_false_iff.mp h1
    obtain ⟨c, d⟩ := Bool.and_eq_true_iff.mp h2
    exact ⟨v, us, e1, OV.tx e a c e2, OVs.tx e b d e3⟩
end
end
mutual
theorem strip_id : ∀ {o : O}, o.hasL = false → o.strip = o
  | .non, _ => rfl | .bl _, _ => rfl | .int _, _ => rfl | .str _, _ => rfl | .dct, _ => rfl
  | .lst _, h => nomatch h
  | .tup xs, h => congrArg O.tup (strips_id (os := xs) h)
theorem strips_id : ∀ {os : List O}, O.hasLs os = false → O.strips os = os
  | [], _ => rfl
  | x :: xs, h => by
    obtain ⟨a, b⟩ := Bool.or_eq_false_iff.mp h
    show x.strip :: O.strips xs = x :: xs
    rw [strip_id a, strips_id b]
end
mutual
theorem strip_noL : ∀ o : O, o.strip.hasL = false
  | .non => rfl | .bl _ => rfl | .int _ => rfl | .str _ => rfl | .dct => rfl
  | .lst xs => strips_noL xs
  | .tup xs => strips_noL xs
theorem strips_noL : ∀ os : List O, O.hasLs (O.strips os) = false
  | [] => rfl
  | x :: xs => by
    show (x.strip.hasL || O.hasLs (O.strips xs)) = false
    rw [strip_noL x, strips_noL xs]
    rfl
end
mutual
theorem strip_nod : ∀ o : O, o.strip.nod = o.nod
  | .non => rfl | .bl _ => rfl | .int _ => rfl | .str _ => rfl | .dct => rfl
  | .lst xs => strips_nod xs
  | .tup xs => strips_nod xs
theorem strips_nod : ∀ os : List O, O.nods (O.strips os) = O.nods os
  | [] => rfl
  | x :: xs => by
    show (x.strip.nod && O.nods (O.strips xs)) = (x.nod && O.nods xs)
    rw [strip_nod x, strips_nod xs]
end
theorem strips_eq : ∀ os : List O, O.strips os = os.map O.strip
  | [] => rfl
  | x :: xs => by
    show x.strip :: O.strips xs = _
    rw [strips_eq xs]
    rfl
theorem seq_strip (b : Bool) (ws : List O) : (O.seq b ws).strip = .tup (O.strips ws) := by cases b <;> rfl
theorem seq_nod (b : Bool) (ws : List O) : (O.seq b ws).nod = O.nods ws := by cases b <;> rfl
theorem nods_get : ∀ {os : List O} {i : Nat} {o : O}, O.nods os = true → os[i]? = some o → o.nod = true
  | [], _, _, _, h => by simp at h
  | x :: xs, 0, o, h, e => by
    obtain rfl : x = o := by simpa using e
    exact (Bool.and_eq_true_iff.mp h).1
  | _ :: xs, i + 1, o, h, e => nods_get (i := i) (Bool.and_eq_true_iff.mp h).2 (by simpa using e)
theorem nods_take : ∀ {os : List O} (n : Nat), O.nods os = true → O.nods (os.take n) = true
  | [], n, h => by simp [O.nods]
  | _ :: _, 0, _ => rfl
  | x :: xs, n + 1, h => by
    obtain ⟨a, b⟩ := Bool.and_eq_true_iff.mp h
    show (x.nod && O.nods (xs.take n)) = true
    rw [a, nods_take n b]
    rfl
theorem szs_drop : ∀ {os : List O} {n : Nat} {o : O}, os[n]? = some o → O.szs (os.drop n) = o.sz + O.szs (os.drop (n + 1))
  | [], _, _, e => by simp at e
  | x :: xs, 0, o, e => by
    obtain rfl : x = o := by simpa using e
    rfl
  | _ :: xs, n + 1, o, e => szs_drop (os := xs) (n := n) (by simpa using e)
theorem take_snoc {α : Type} {xs : List α} {n : Nat} {x : α} (h : xs[n]? = some x) : xs.take (n + 1) = xs.take n ++ [x] := by
  rw [List.take_succ, h]
  rfl
theorem hasL_seq {o : O} (h : o.hasL = true) : ∃ b ws, o = O.seq b ws := by
  cases o with
  | lst ws => exact ⟨true, ws, rfl⟩
  | tup ws => exact ⟨false, ws, rfl⟩
  | _ => cases h
/-- one thing that is begun: what it is, the tuple that holds it and its list, what is done -/
structure Fr where
  wv : V
  b : Bool
  ws : List O
  t : Addr
  d : Addr
  dv : List V
  n : Nat
/-- what holds of one: H0 at the def's begin -/
structure FrOk (H0 H : Hp) (f : Fr) : Prop where
  wh : OV H0 f.wv (O.seq f.b f.ws)
  tp : H f.t = some (.tup [f.wv, .ref f.d])
  dn : H f.d = some (.lst f.dv)
  new : H0 f.d = none
  ov : OVs H f.dv (O.strips (f.ws.take f.n))
  le : f.n ≤ f.ws.length
  nod : O.nods f.ws = true
  sz : O.szs f.ws ≤ 9000
theorem FrOk.len {H0 H : Hp} {f : Fr} (h : FrOk H0 H f) : f.dv.length = f.n := by
  rw [h.ov.length, strips_eq, List.length_map, List.length_take]
  exact Nat.min_eq_left h.le
/-- it stays if its list stays, and all tuples -/
theorem FrOk.keep {H0 H G : Hp} {f : Fr} (h : FrOk H0 H f) (t : Tx H G) (d : G f.d = H f.d) : FrOk H0 G f :=
  ⟨h.wh, t _ _ h.tp, d.trans h.dn, h.new, h.ov.tx t (strips_noL _) (by rw [strips_nod]; exact nods_take _ h.nod), h.le, h.nod, h.sz⟩
/-- from the top: each is the next thing of the one below -/
def Chain : List Fr → O → Prop
  | [], _ => False
  | [f], o => o = O.seq f.b f.ws
  | f :: g :: r, o => g.ws[g.n]? = some (O.seq f.b f.ws) ∧ Chain (g :: r) o
def lowM : List Fr → Nat
  | [] => 0
  | f :: r => 3 * O.szs (f.ws.drop (f.n + 1)) + 1 + lowM r
def topM : List Fr → Nat
  | [] => 0
  | f :: r => 3 * O.szs (f.ws.drop f.n) + 1 + lowM r
section
variable {K : PySem.W.Frag} {σ : L2.St} {H G : Hp} {te ta tb : TE} {v : V} {D : Ends} {tz : TS}
abbrev rTupOf (K : PySem.W.Frag) : List V → Hp → VK → Prop := fun xs H Q => ∃ p ys, xs = [.ref p] ∧ ((SqL K H p ys ∧ ∀ l, H l = none → Q (.ref l) (upd H l (.tup ys))) ∨ (SqT K H p ys ∧ Q (.ref p) H))
/-- tuple(xs), xs a list -/
theorem eu_tupL {p : Addr} {xs : List V} (h : Ev te σ H (.ref p)) (hs : SqL K H p xs) : EvU (tCB (rTupOf K) (tCons te tNil)) σ H xs := fun H1 e Q q =>
  h H1 e _ fun H2 e2 => ⟨p, xs, rfl, .inl ⟨ex_l (e.trans e2) hs, fun l hl => q l _ (fresh_back e2 hl) (e2.trans (Ex.new hl)) upd_same⟩⟩
/-- (e, []) -/
def EvPN (te : TE) (σ : L2.St) (H : Hp) (v : V) : Prop := ∀ H1, Ex H H1 → ∀ Q : VK, (∀ t d H2, H1 t = none → H1 d = none → t ≠ d → Ex H1 H2 → H2 t = some (.tup [v, .ref d]) → H2 d = some (.lst []) → Q (.ref t) H2) → te σ H1 Q
theorem epn {te : TE} (h : Ev te σ H v) : EvPN (tTup (tCons te (tCons (tLst tNil) tNil))) σ H v := fun H1 e Q q =>
  h H1 e _ fun H2 e2 => ⟨Nat.zero_le _, fun d hd => ⟨by show 2 ≤ sizeLine; decide, fun t ht => by
    have e3 : Ex H2 (upd H2 d (.lst [])) := Ex.new hd
    have td : t ≠ d := fun z => by
      rw [z, upd_same] at ht
      cases ht
    exact q t d _ (fresh_back (e2.trans e3) ht) (fresh_back e2 hd) td ((e2.trans e3).trans (Ex.new ht)) upd_same (by rw [upd_ne td.symm, upd_same])⟩⟩
theorem ev_top {B : Addr} {xs : List V} {y : V} {i : Nat} (hs : σ[i]? = some (some (.ref B))) (hB : H B = some (.lst (xs ++ [y]))) : Ev (tOp (rIxL K) (tVar i) (tUn (rU fun i => .int (-i)) (tC (.int 1)))) σ H y :=
  ev_op (ev_var hs) (ev_un ev_c ru_neg) (rv_ixL (sq_of hB) (atI_last xs y))
end
section
variable {P : Program} {w : World} {K : PySem.W.Frag} {mg : Str → Option Value} {base : Heap}
def spFz : Sp := fun vs H Q _ => ∃ v o, vs = [v] ∧ OV H v o ∧ o.sz ≤ 9000 ∧ o.nod = true ∧ ∀ (u : V) (G : Hp), Ex H G → OV G u o.strip → Q u G
theorem sc_fz : FnScope ["thing", "begun", "whole", "done"] ["thing"] (defScope s_frozen) := ⟨rfl, rfl, rfl, by decide +kernel, rfl, by decide +kernel, by decide +kernel⟩
theorem spv_hl {v : V} {o : O} {H : Hp} (h : OV H v o) (hz : o.sz ≤ 9000) : SpV spHL ([v] ++ []) H (.bl o.hasL) := fun H1 e Q q E => ⟨v, o, rfl, h.ext e, hz, q⟩
def refs (fs : List Fr) : List V := fs.reverse.map fun f => V.ref f.t
theorem refs_cons (f : Fr) (fs : List Fr) : refs (f :: fs) = refs fs ++ [V.ref f.t] := by
  unfold refs
  rw [List.reverse_cons, List.map_append]
  rfl
structure Inv5 (H0 H : Hp) (B : Addr) (o : O) (fs : List Fr) : Prop where
  ex : Ex H0 H
  nB : H0 B = none
  hB : H B = some (.lst (refs fs))
  ok : ∀ f ∈ fs, FrOk H0 H f
  ds : (B :: fs.map (·.d)).Nodup
  ch : Chain fs o
  len : fs.length + topM fs ≤ 90000
end
end K17

set_option Elab.async false
set_option linter.all false
set_option maxRecDepth 100000
set_option maxHeartbeats 4000000
/-! frozen, its loop. -/
namespace K17
open PySem PySem.Spec PyProof.Rows L2 Evl
section
variable {H0 H G : Hp} {B : Addr} {o : O} {f g : Fr} {r : List Fr}
theorem Inv5.ext (I : Inv5 H0 H B o r) (e : Ex H G) : Inv5 H0 G B o r :=
  ⟨I.ex.trans e, I.nB, e _ _ I.hB, fun f hf => (I.ok f hf).keep (Tx.of e) (by rw [(I.ok f hf).dn]; exact e _ _ (I.ok f hf).dn), I.ds, I.ch, I.len⟩
theorem Inv5.dB (I : Inv5 H0 H B o r) {f : Fr} (h : f ∈ r) : f.d ≠ B := fun z => (List.nodup_cons.mp I.ds).1 (by rw [← z]; exact List.mem_map.mpr ⟨f, h, rfl⟩)
theorem Inv5.dd (I : Inv5 H0 H B o (f :: r)) {g : Fr} (h : g ∈ r) : g.d ≠ f.d := fun z => by
  have q := (List.nodup_cons.mp (List.nodup_cons.mp I.ds).2).1
  exact q (List.mem_map.mpr ⟨g, h, z⟩)
theorem low_le : ∀ (fs : List Fr), lowM fs ≤ topM fs
  | [] => Nat.le_refl _
  | f :: r => by
    have : O.szs (f.ws.drop (f.n + 1)) ≤ O.szs (f.ws.drop f.n) := by
      cases e : f.ws[f.n]? with
      | none =>
        have h1 : f.ws.length ≤ f.n := List.getElem?_eq_none_iff.mp e
        rw [List.drop_eq_nil_of_le h1, List.drop_eq_nil_of_le (by omega)]
        exact Nat.le_refl _
      | some x => rw [szs_drop e]; omega
    show 3 * O.szs (f.ws.drop (f.n + 1)) + 1 + lowM r ≤ 3 * O.szs (f.ws.drop f.n) + 1 + lowM r
    omega
/-- one thing more is done -/
theorem Inv5.done (I : Inv5 H0 H B o (f :: r)) {x : O} {y : V} (hx : f.ws[f.n]? = some x) (hy : OV H y x.strip) :
    Inv5 H0 (upd H f.d (.lst (f.dv ++ [y]))) B o ({ f with dv := f.dv ++ [y], n := f.n + 1 } :: r) ∧ topM ({ f with dv := f.dv ++ [y], n := f.n + 1 } :: r) < topM (f :: r) := by
  have F := I.ok f (List.mem_cons_self ..)
  have t : Tx H (upd H f.d (.lst (f.dv ++ [y]))) := Tx.lst F.dn
  have hn : f.n < f.ws.length := (List.getElem?_eq_some_iff.mp hx).1
  have hs := szs_drop hx
  have hp := x.sz_pos
  have hm : topM ({ f with dv := f.dv ++ [y], n := f.n + 1 } :: r) + 3 * x.sz = topM (f :: r) := by
    show 3 * O.szs (f.ws.drop (f.n + 1)) + 1 + lowM r + 3 * x.sz = 3 * O.szs (f.ws.drop f.n) + 1 + lowM r
    rw [hs]
    omega
  refine ⟨⟨Ex.mut I.ex F.new, I.nB, ?_, ?_, I.ds, ?_, ?_⟩, by omega⟩
  · rw [upd_ne (I.dB (List.mem_cons_self ..)).symm, refs_cons]
    exact I.hB.trans (by rw [refs_cons])
  · intro g hg
    rcases List.mem_cons.mp hg with rfl | hg
    · refine ⟨F.wh, t _ _ F.tp, upd_same, F.new, ?_, hn, F.nod, F.sz⟩
      show OVs _ (f.dv ++ [y]) (O.strips (f.ws.take (f.n + 1)))
      rw [take_snoc hx, strips_eq, List.map_append, ← strips_eq]
      refine OVs.append (F.ov.tx t (strips_noL _) (by rw [strips_nod]; exact nods_take _ F.nod)) (.cons (hy.tx t (strip_noL _) (by rw [strip_nod]; exact nods_get F.nod hx)) .nil)
    · exact (I.ok g (List.mem_cons_of_mem _ hg)).keep t (upd_ne (I.dd hg))
  · cases r with
    | nil => exact I.ch
    | cons g r => exact I.ch
  · have := I.len
    show r.length + 1 + _ ≤ 90000
    have q : (f :: r).length = r.length + 1 := rfl
    omega
/-- one begins -/
theorem Inv5.push (I : Inv5 H0 H B o (f :: r)) {b : Bool} {ws : List O} {wv : V} {t d : Addr} (hx : f.ws[f.n]? = some (O.seq b ws)) (hw : OV H0 wv (O.seq b ws)) (ht : G t = some (.tup [wv, .ref d])) (hd : G d = some (.lst [])) (nd : H d = none) (e : Ex H G) :
    Inv5 H0 (upd G B (.lst (refs (f :: r) ++ [.ref t]))) B o (⟨wv, b, ws, t, d, [], 0⟩ :: f :: r) ∧ topM (⟨wv, b, ws, t, d, [], 0⟩ :: f :: r) < topM (f :: r) := by
  have F := I.ok f (List.mem_cons_self ..)
  have I1 := I.ext e
  have tB : Tx G (upd G B (.lst (refs (f :: r) ++ [.ref t]))) := Tx.lst I1.hB
  have hs := szs_drop hx
  rw [O.seq_sz] at hs
  have hdB : d ≠ B := fun z => by
    rw [z, I.hB] at nd
    cases nd
  have hm : topM (⟨wv, b, ws, t, d, [], 0⟩ :: f :: r) + 2 = topM (f :: r) := by
    show 3 * O.szs (ws.drop 0) + 1 + (3 * O.szs (f.ws.drop (f.n + 1)) + 1 + lowM r) + 2 = 3 * O.szs (f.ws.drop f.n) + 1 + lowM r
    rw [hs, List.drop_zero]
    omega
  have fresh0 : H0 d = none := fresh_back I.ex nd
  have hwz : O.szs ws + 1 ≤ 9000 := by
    have q : O.szs f.ws = O.szs (f.ws.take f.n) + O.szs (f.ws.drop f.n) := by rw [← O.szs_app, List.take_append_drop]
    have := F.sz
    omega
  refine ⟨⟨Ex.mut I1.ex I.nB, I.nB, ?_, ?_, ?_, ⟨hx, I.ch⟩, ?_⟩, by omega⟩
  · rw [upd_same, refs_cons _ (f :: r)]
  · intro g hg
    rcases List.mem_cons.mp hg with rfl | hg
    · refine ⟨hw, tB _ _ ht, by rw [upd_ne hdB]; exact hd, fresh0, .nil, Nat.zero_le _, ?_, by show O.szs ws ≤ 9000; omega⟩
      have := nods_get F.nod hx
      rw [seq_nod] at this
      exact this
    · exact (I1.ok g hg).keep tB (upd_ne (I.dB hg))
  · refine List.nodup_cons.mpr ⟨fun z => ?_, List.nodup_cons.mpr ⟨fun z => ?_, (List.nodup_cons.mp I.ds).2⟩⟩
    · rcases List.mem_cons.mp z with z | z
      · exact hdB z.symm
      · exact (List.nodup_cons.mp I.ds).1 z
    · obtain ⟨g, hg, e2⟩ := List.mem_map.mp z
      have := (I.ok g hg).dn
      rw [e2, nd] at this
      cases this
  · have := I.len
    show r.length + 1 + 1 + _ ≤ 90000
    have q : (f :: r).length = r.length + 1 := rfl
    omega
/-- the last one is done: it is what the one below waits for -/
theorem Inv5.pop (I : Inv5 H0 H B o (f :: g :: r)) (hn : f.n = f.ws.length) {u : Addr} (e1 : Ex (upd H B (.lst (refs (g :: r)))) G) (hu : G u = some (.tup f.dv)) :
    Inv5 H0 (upd G g.d (.lst (g.dv ++ [.ref u]))) B o ({ g with dv := g.dv ++ [.ref u], n := g.n + 1 } :: r) ∧ topM ({ g with dv := g.dv ++ [.ref u], n := g.n + 1 } :: r) < topM (f :: g :: r) := by
  have F := I.ok f (List.mem_cons_self ..)
  have tB : Tx H (upd H B (.lst (refs (g :: r)))) := Tx.lst I.hB
  have hx : g.ws[g.n]? = some (O.seq f.b f.ws) := I.ch.1
  have hl : lowM (g :: r) ≤ topM (g :: r) := low_le _
  have hm1 : topM (f :: g :: r) = 1 + lowM (g :: r) := by
    show 3 * O.szs (f.ws.drop f.n) + 1 + lowM (g :: r) = _
    rw [hn, List.drop_eq_nil_of_le (Nat.le_refl _)]
    rfl
  have hs := szs_drop hx
  rw [O.seq_sz] at hs
  have hm2 : topM (g :: r) = lowM (g :: r) + 3 * (O.szs f.ws + 1) := by
    show 3 * O.szs (g.ws.drop g.n) + 1 + lowM r = 3 * O.szs (g.ws.drop (g.n + 1)) + 1 + lowM r + _
    rw [hs]
    omega
  have I1 : Inv5 H0 (upd H B (.lst (refs (g :: r)))) B o (g :: r) ∨ True := .inr trivial
  -- below, without the bound
  have Gg := I.ok g (by simp)
  have tG : Tx H G := tB.trans (Tx.of e1)
  have ovU : OV G (.ref u) (O.seq f.b f.ws).strip := by
    rw [seq_strip]
    refine ⟨u, f.dv, rfl, hu, ?_⟩
    have := F.ov
    rw [hn, List.take_of_length_le (Nat.le_refl _)] at this
    exact this.tx tG (strips_noL _) (by rw [strips_nod]; exact F.nod)
  have keepD : ∀ h ∈ g :: r, G h.d = some (.lst h.dv) := fun h hh => e1 _ _ (by rw [upd_ne (I.dB (List.mem_cons_of_mem _ hh))]; exact (I.ok h (List.mem_cons_of_mem _ hh)).dn)
  have t : Tx G (upd G g.d (.lst (g.dv ++ [.ref u]))) := Tx.lst (keepD g (List.mem_cons_self ..))
  have hgn : g.n < g.ws.length := (List.getElem?_eq_some_iff.mp hx).1
  have ds2 : (B :: (g :: r).map (·.d)).Nodup := by
    have h1 := List.nodup_cons.mp I.ds
    exact List.nodup_cons.mpr ⟨fun z => h1.1 (List.mem_cons_of_mem _ z), (List.nodup_cons.mp h1.2).2⟩
  have dgr : ∀ h ∈ r, h.d ≠ g.d := fun h hh z => (List.nodup_cons.mp (List.nodup_cons.mp ds2).2).1 (List.mem_map.mpr ⟨h, hh, z⟩)
  have hm3 : topM ({ g with dv := g.dv ++ [.ref u], n := g.n + 1 } :: r) = lowM (g :: r) := rfl
  refine ⟨⟨Ex.mut ((Ex.mut I.ex I.nB).trans e1) Gg.new, I.nB, ?_, ?_, ds2, ?_, ?_⟩, by omega⟩
  · rw [upd_ne (I.dB (by simp)).symm, refs_cons]
    exact (e1 _ _ upd_same).trans (by rw [refs_cons])
  · intro h hh
    rcases List.mem_cons.mp hh with rfl | hh
    · refine ⟨Gg.wh, t _ _ (tG _ _ Gg.tp), upd_same, Gg.new, ?_, hgn, Gg.nod, Gg.sz⟩
      show OVs _ (g.dv ++ [.ref u]) (O.strips (g.ws.take (g.n + 1)))
      rw [take_snoc hx, strips_eq, List.map_append, ← strips_eq]
      refine OVs.append (Gg.ov.tx (tG.trans t) (strips_noL _) (by rw [strips_nod]; exact nods_take _ Gg.nod)) (.cons (ovU.tx t (strip_noL _) (by rw [strip_nod]; exact nods_get Gg.nod hx)) .nil)
    · have hk := I.ok h (by simp [hh])
      refine hk.keep (tG.trans t) ?_
      rw [upd_ne (dgr h hh), keepD h (List.mem_cons_of_mem _ hh), hk.dn]
  · cases r with
    | nil => exact I.ch.2
    | cons h r => exact I.ch.2
  · have := I.len
    have q : (f :: g :: r).length = r.length + 2 := rfl
    show r.length + 1 + _ ≤ 90000
    omega
end
section
variable {K : PySem.W.Frag} {σ : L2.St} {H G : Hp} {te ta tb : TE} {v : V} {D : Ends} {tz : TS}
/-- xs.pop() -/
theorem q_popD {l : Addr} {xs : List V} {y : V} (hl : H l = some (.lst (xs ++ [y]))) (ha : Ev ta σ H (.ref l)) (k : ∀ H1, Ex H H1 → tz D σ (upd H1 l (.lst xs))) : tSeq (tDrop (tBM0 K "list" rPop ta)) tz D σ H :=
  ha H (Ex.refl H) _ fun H1 e1 => ⟨.inl ⟨rfl, _, sq_of (e1 l _ hl)⟩, l, _, y, rfl, rfl, e1 l _ hl, last_at, by
    rw [List.dropLast_concat]
    exact k H1 e1⟩
/-- xs = [(e, [])] -/
theorem q_asgPN {i : Nat} (h : EvPN te σ H v) (k : ∀ t d B H2, H t = none → H d = none → Ex H H2 → H2 t = some (.tup [v, .ref d]) → H2 d = some (.lst []) → H2 B = none → tz D (σ.set i (some (.ref B))) (upd H2 B (.lst [.ref t]))) :
    tSeq (tAsg (tLst (tCons te tNil)) (gName i)) tz D σ H := h H (Ex.refl H) _ fun t d H2 nt nd td e2 ht hd => ⟨by show 1 ≤ sizeLine; decide, fun B hB => k t d B H2 nt nd e2 ht hd hB⟩
/-- x, y = t -/
theorem q_unp {i j : Nat} {t : Addr} {x y : V} (h : Ev te σ H (.ref t)) (ht : H t = some (.tup [x, y])) (k : ∀ H1, Ex H H1 → tz D ((σ.set i (some x)).set j (some y)) H1) : tSeq (tAsg te (gTup K 2 (gCons (gName i) (gCons (gName j) gNil)))) tz D σ H :=
  h H (Ex.refl H) _ fun H1 e => ⟨t, [x, y], rfl, st_of (e _ _ ht), rfl, _, _, rfl, _, _, rfl, rfl, k H1 e⟩
/-- xs.append((e, [])) -/
theorem s_appPN {l : Addr} {xs : List V} (hl : H l = some (.lst xs)) (ha : Ev ta σ H (.ref l)) (h : EvPN te σ H v) (hz : xs.length < 100000) (k : ∀ t d H1, H t = none → H d = none → t ≠ d → Ex H H1 → H1 t = some (.tup [v, .ref d]) → H1 d = some (.lst []) → D.nx σ (upd H1 l (.lst (xs ++ [.ref t])))) :
    tDrop (tBM K "list" rAppend ta (tCons te tNil)) D σ H := ha H (Ex.refl H) _ fun H1 e1 => ⟨.inl ⟨rfl, _, sq_of (e1 l _ hl)⟩, h H1 e1 _ fun t d H2 nt nd td e2 ht hd =>
  ⟨l, xs, .ref t, rfl, rfl, e2 l _ (e1 l _ hl), sz_lt hz, k t d H2 (fresh_back e1 nt) (fresh_back e1 nd) td (e1.trans e2) ht hd⟩⟩
end
section
variable {P : Program} {w : World} {K : PySem.W.Frag} {mg : Str → Option Value} {base : Heap}
theorem ok_frozen (T : T17 P w K mg base) : Ok P w K mg base CX0 "frozen" ["thing"] 2 spFz := by
  obtain ⟨fH, dH, GH, bH, kH, mH⟩ := (ok_has_lists T).ex
  refine T.ok 1 rfl sc_fz (fun vs H Q E h => ?_) (fun kV doc pm an cdv ct us hl => match us, hl with | [_], _ => rfl) (fun f cdv A outer s H vs Q E hr h => ?_)
  · obtain ⟨v, z, rfl, _⟩ := h
    rfl
  · obtain ⟨v, z, rfl, hw, hz, hnod, k⟩ := h
    refine ⟨_, pss_cons (ps_if (pt_not (pt_val (pe_call GH hr (by rfl) mH kH bH .nil pass0 (pa_cons (pv 0) pa_nil)))) (pss_one (ps_ret (pv 0))) pss_nil)
      (pss_cons (ps_set (i := 1) sc_fz.nd rfl (Or.inl rfl) (pe_lst (pa_cons (pe_tup (pa_cons (pv 0) (pa_cons (pe_lst pa_nil) pa_nil))) pa_nil)))
      (pss_one (ps_while PassesOwn.never (pt_val pe_bl)
        (pss_cons (ps_asg (pe_ix ix_list (pv 1) (pe_un un_neg pe_int) (fun _ _ => rfl)) (pg_tup rfl (pgs_cons (pg_name (i := 2) sc_fz.nd rfl (Or.inl rfl)) (pgs_cons (pg_name (i := 3) sc_fz.nd rfl (Or.inl rfl)) pgs_nil))))
        (pss_one (ps_if (pt_cmpR op_eq (pe_callB call_len (by rfl) T.len PySem.boot_len (pa_cons (pv 3) pa_nil)) (pe_callB call_len (by rfl) T.len PySem.boot_len (pa_cons (pv 2) pa_nil)) (nomark _))
          (pss_cons (ps_expr (pe_bm0 PySem.F.plainAttrs_list PySem.F.slot_list_pop PySem.F.type_list_pop mt_pop (pv 1)))
          (pss_cons (ps_if (pt_not (pt_truth (pv 1) (by intro _; rfl))) (pss_one (ps_ret (pe_callTy call_tuple_of (by rfl) T.tuple PyProof.Rows.boot_tuple (pa_cons (pv 3) pa_nil)))) pss_nil)
          (pss_one (ps_expr (pe_bm PySem.F.plainAttrs_list PySem.F.slot_list_append PySem.F.type_list_append mt_append (pe_ix ix_tup (pe_ix ix_list (pv 1) (pe_un un_neg pe_int) (fun _ _ => rfl)) pe_int (fun _ _ => rfl)) (pa_cons (pe_callTy call_tuple_of (by rfl) T.tuple PyProof.Rows.boot_tuple (pa_cons (pv 3) pa_nil)) pa_nil))))))
          (pss_one (ps_if (pt_val (pe_call GH hr (by rfl) mH kH bH .nil pass0 (pa_cons (pe_ix ix_seq (pv 2) (pe_callB call_len (by rfl) T.len PySem.boot_len (pa_cons (pv 3) pa_nil)) (fun _ _ => rfl)) pa_nil)))
            (pss_one (ps_expr (pe_bm PySem.F.plainAttrs_list PySem.F.slot_list_append PySem.F.type_list_append mt_append (pv 1) (pa_cons (pe_tup (pa_cons (pe_ix ix_seq (pv 2) (pe_callB call_len (by rfl) T.len PySem.boot_len (pa_cons (pv 3) pa_nil)) (fun _ _ => rfl)) (pa_cons (pe_lst pa_nil) pa_nil))) pa_nil))))
            (pss_one (ps_expr (pe_bm PySem.F.plainAttrs_list PySem.F.slot_list_append PySem.F.type_list_append mt_append (pv 3) (pa_cons (pe_ix ix_seq (pv 2) (pe_callB call_len (by rfl) T.len PySem.boot_len (pa_cons (pv 3) pa_nil)) (fun _ _ => rfl)) pa_nil)))))))))))), ?_⟩
    refine q_when (b := !z.hasL) (et_not (et_B (ev_call (ea_cons (ev_var rfl) ea_nil) (spv_hl hw hz)))) (fun hb H1 e1 => ?_) fun hb H1 e1 => ?_
    · have hno : z.hasL = false := by simpa using hb
      refine s_ret (ev_var rfl) fun H2 e2 => k v H2 (e1.trans e2) ?_
      rw [strip_id hno]
      exact hw.ext (e1.trans e2)
    have hyes : z.hasL = true := by simpa using hb
    obtain ⟨b, ws, rfl⟩ := hasL_seq hyes
    have hwsz : O.szs ws + 1 ≤ 9000 := by rw [← O.seq_sz (b := b)]; exact hz
    have hnods : O.nods ws = true := by rw [← seq_nod b]; exact hnod
    refine q_asgPN (epn (ev_var rfl)) fun t d B H2 nt nd e2 ht hd hB => ?_
    have e12 := e1.trans e2
    have hBd : B ≠ d := fun z => by
      rw [z, hd] at hB
      cases hB
    have hBt : B ≠ t := fun z => by
      rw [z, ht] at hB
      cases hB
    refine s_while (fun m σ' H' => ∃ (fs : List Fr) (o1 o2 : Option V), σ' = [some v, some (.ref B), o1, o2] ∧ Inv5 H H' B (O.seq b ws) fs ∧ m = topM fs) (topM [⟨v, b, ws, t, d, [], 0⟩]) ⟨[⟨v, b, ws, t, d, [], 0⟩], none, none, rfl, ?_, rfl⟩ ?_
    · refine ⟨Ex.mut e12 (fresh_back e12 hB), fresh_back e12 hB, upd_same, fun f hf => ?_, ?_, rfl, ?_⟩
      · obtain rfl : f = ⟨v, b, ws, t, d, [], 0⟩ := by simpa using hf
        exact ⟨hw, by rw [upd_ne hBt.symm]; exact ht, by rw [upd_ne hBd.symm]; exact hd, fresh_back e1 nd, .nil, Nat.zero_le _, hnods, by show O.szs ws ≤ 9000; omega⟩
      · simp [hBd]
      · show 1 + (3 * O.szs (ws.drop 0) + 1 + 0) ≤ 90000
        rw [List.drop_zero]
        omega
    rintro m σ' H' ⟨fs, o1, o2, rfl, I, rfl⟩
    match fs, I with
    | [], I => exact I.ch.elim
    | f :: r, I =>
    refine ⟨true, et_B ev_c, fun _ H3 e3 => ⟨fun σ2 H2 => ∃ m', m' < topM (f :: r) ∧ ∃ (fs : List Fr) (o1 o2 : Option V), σ2 = [some v, some (.ref B), o1, o2] ∧ Inv5 H H2 B (O.seq b ws) fs ∧ m' = topM fs, fun _ _ z => z, ?_⟩, fun z => nomatch z⟩
    have I3 := I.ext e3
    have F3 := I3.ok f (List.mem_cons_self ..)
    refine q_unp (ev_top (xs := refs r) (y := .ref f.t) rfl (by rw [I3.hB, refs_cons])) F3.tp fun H4 e4 => ?_
    have I4 := I3.ext e4
    have F := I4.ok f (List.mem_cons_self ..)
    obtain ⟨wa, wvs, ewv, hwa, hov⟩ := F.wh.seq
    have hwl : wvs.length = f.ws.length := hov.length
    have hwa4 : SqB H4 f.b wa wvs := I4.ex _ _ hwa
    have hdl := F.len
    have hlen := I4.len
    rw [ewv]
    refine s_if (b := decide (f.n = f.ws.length)) (et_is (et_test (ev_op (ev_lenL (ev_var rfl) (sq_of F.dn)) (ev_lenQ (ev_var rfl) hwa4) (rv_eq rfl))) ?_) (fun hb H5 e5 => ?_) fun hb H5 e5 => ?_
    · rw [hdl, hwl]
      by_cases q : f.n = f.ws.length
      · rw [decide_eq_true q, decide_eq_true (by rw [q])]
      · rw [decide_eq_false q, decide_eq_false (fun z => q (by have := V.int.inj z; omega))]
    · have hn : f.n = f.ws.length := of_decide_eq_true hb
      have I5 := I4.ext e5
      have F5 := I5.ok f (List.mem_cons_self ..)
      refine q_popD (xs := refs r) (y := .ref f.t) (by rw [I5.hB, refs_cons]) (ev_var rfl) fun H6 e6 => ?_
      have I6 := I5.ext e6
      have F6 := I6.ok f (List.mem_cons_self ..)
      have hBs : (upd H6 B (.lst (refs r))) B = some (.lst (refs r)) := upd_same
      have hfd : (upd H6 B (.lst (refs r))) f.d = some (.lst f.dv) := by rw [upd_ne (I6.dB (List.mem_cons_self ..))]; exact F6.dn
      refine q_when (b := !!(refs r).isEmpty) (et_not (et_truL (ev_var rfl) (sq_of hBs))) (fun he H7 e7 => ?_) fun he H7 e7 => ?_
      · match r, I6, e7, he, hfd with
        | [], I6, e7, he, hfd =>
          refine s_retU (eu_tupL (ev_var rfl) (sq_of (e7 _ _ hfd))) fun u G hu e8 h8 => k (.ref u) G (((Ex.mut I6.ex I6.nB).trans e7).trans e8) ?_
          rw [show O.seq b ws = O.seq f.b f.ws from I6.ch, seq_strip]
          refine ⟨u, f.dv, rfl, h8, ?_⟩
          have q := F6.ov
          rw [hn, List.take_of_length_le (Nat.le_refl _)] at q
          exact q.tx (((Tx.lst I6.hB).trans (Tx.of e7)).trans (Tx.of e8)) (strips_noL _) (by rw [strips_nod]; exact F6.nod)
        | g :: r, I6, e7, he, hfd =>
          rw [refs_cons] at he
          simp at he
      · match r, I6, e7, he, hfd, hBs with
        | [], I6, e7, he, hfd, hBs =>
          exact absurd he (by simp [refs])
        | g :: r, I6, e7, he, hfd, hBs =>
          have Gg := I6.ok g (by simp)
          have hgd : (upd H6 B (.lst (refs (g :: r)))) g.d = some (.lst g.dv) := by rw [upd_ne (I6.dB (by simp))]; exact Gg.dn
          have hgt : (upd H6 B (.lst (refs (g :: r)))) g.t = some (.tup [g.wv, .ref g.d]) := Tx.lst I6.hB _ _ Gg.tp
          refine s_appU (e7 _ _ hgd) (ev_op (ev_top (xs := refs r) (y := .ref g.t) rfl (by rw [e7 _ _ hBs, refs_cons])) ev_c (rv_ixT (st_of (e7 _ _ hgt)) (atI_nat (j := 1) rfl))) (eu_tupL (ev_var rfl) (sq_of (e7 _ _ hfd))) ?_ fun u G hu e8 h8 => ?_
          · have := Gg.len
            have := Gg.le
            have := O.len_szs g.ws
            have := Gg.sz
            omega
          · obtain ⟨J, lt⟩ := I6.pop hn (e7.trans e8) h8
            exact ⟨_, lt, _, _, _, rfl, J, rfl⟩
    · have hn : f.n ≠ f.ws.length := of_decide_eq_false hb
      have hlt : f.n < f.ws.length := Nat.lt_of_le_of_ne F.le hn
      obtain ⟨x, hx⟩ : ∃ x, f.ws[f.n]? = some x := ⟨f.ws[f.n], by simp [hlt]⟩
      obtain ⟨y, hy, hyo⟩ := hov.geto hx
      have I5 := I4.ext e5
      have F5 := I5.ok f (List.mem_cons_self ..)
      have hwa5 : SqB H5 f.b wa wvs := I5.ex _ _ hwa
      have hxz : x.sz ≤ 9000 := by
        have q : O.szs f.ws = O.szs (f.ws.take f.n) + O.szs (f.ws.drop f.n) := by rw [← O.szs_app, List.take_append_drop]
        have := szs_drop hx
        have := F.sz
        omega
      have ix : ∀ {G : Hp}, Ex H5 G → Ev (tOp (rIxQ K) (tVar 2) (tLen K (tVar 3))) [some v, some (.ref B), some (.ref wa), some (.ref f.d)] G y := fun e => ev_op (ev_var rfl) (ev_lenL (ev_var rfl) (sq_of (e _ _ F5.dn))) (rv_ixQ (hwa5.ext e) (by rw [F5.len]; exact atI_nat hy))
      refine s_if (b := x.hasL) (et_B (ev_call (ea_cons (ix (Ex.refl _)) ea_nil) (spv_hl (hyo.ext I5.ex) hxz))) (fun hL H6 e6 => ?_) fun hL H6 e6 => ?_
      · obtain ⟨b2, ws2, rfl⟩ := hasL_seq hL
        have I6 := I5.ext e6
        refine s_appPN I6.hB (ev_var rfl) (epn (ix e6)) ?_ fun t d G nt nd td e7 ht hd => ?_
        · unfold refs
          rw [List.length_map, List.length_reverse]
          omega
        · obtain ⟨J, lt⟩ := I6.push hx hyo ht hd nd e7
          exact ⟨_, lt, _, _, _, rfl, J, rfl⟩
      · have I6 := I5.ext e6
        have F6 := I6.ok f (List.mem_cons_self ..)
        refine s_app F6.dn (ev_var rfl) (ix e6) ?_ fun G e7 => ?_
        · have := O.len_szs f.ws
          have := F.sz
          omega
        · have I7 := I6.ext e7
          obtain ⟨J, lt⟩ := I7.done (y := y) hx (by rw [strip_id hL]; exact hyo.ext I7.ex)
          exact ⟨_, lt, _, _, _, rfl, J, rfl⟩
end
end K17

set_option Elab.async false
set_option linter.all false
set_option maxRecDepth 100000
set_option maxHeartbeats 4000000
/-! Right words as trees; places in them. -/
namespace K17
open PySem PySem.Spec PyProof.Rows L2 Evl
inductive W where
  | v (s : Str) | n (s : Str) (as : List W)
mutual
def W.o : W → O
  | .v s => .str s
  | .n s as => .tup (.str s :: W.os as)
def W.os : List W → List O
  | [] => []
  | x :: xs => x.o :: W.os xs
end
mutual
def W.dp : W → Nat
  | .v _ => 0
  | .n _ as => W.dps as + 1
def W.dps : List W → Nat
  | [] => 0
  | x :: xs => max x.dp (W.dps xs)
end
mutual
def W.sz : W → Nat
  | .v _ => 1
  | .n _ as => W.szs as + 2
def W.szs : List W → Nat
  | [] => 0
  | x :: xs => x.sz + W.szs xs
end
def WV (H : Hp) (u : V) (w : W) : Prop := OV H u w.o
def WVs (H : Hp) (us : List V) (ws : List W) : Prop := OVs H us (W.os ws)
mutual
theorem W.noL : ∀ w : W, w.o.hasL = false
  | .v _ => rfl
  | .n _ as => by show (false || O.hasLs (W.os as)) = false; rw [W.noLs as]; rfl
theorem W.noLs : ∀ ws : List W, O.hasLs (W.os ws) = false
  | [] => rfl
  | x :: xs => by show (x.o.hasL || O.hasLs (W.os xs)) = false; rw [W.noL x, W.noLs xs]; rfl
end
mutual
theorem W.nod : ∀ w : W, w.o.nod = true
  | .v _ => rfl
  | .n _ as => by show (true && O.nods (W.os as)) = true; rw [W.nods as]; rfl
theorem W.nods : ∀ ws : List W, O.nods (W.os ws) = true
  | [] => rfl
  | x :: xs => by show (x.o.nod && O.nods (W.os xs)) = true; rw [W.nod x, W.nods xs]; rfl
end
mutual
theorem W.osz : ∀ w : W, w.o.sz = w.sz
  | .v _ => rfl
  | .n _ as => by show (1 + O.szs (W.os as)) + 1 = W.szs as + 2; rw [W.oszs as]; omega
theorem W.oszs : ∀ ws : List W, O.szs (W.os ws) = W.szs ws
  | [] => rfl
  | x :: xs => by show x.o.sz + O.szs (W.os xs) = x.sz + W.szs xs; rw [W.osz x, W.oszs xs]
end
theorem W.os_map : ∀ ws : List W, W.os ws = ws.map W.o
  | [] => rfl
  | x :: xs => congrArg (x.o :: ·) (W.os_map xs)
section
variable {H G : Hp} {u : V} {w : W}
theorem WV.tx (e : Tx H G) (h : WV H u w) : WV G u w := OV.tx e w.noL w.nod h
theorem WV.ext (e : Ex H G) (h : WV H u w) : WV G u w := OV.ext e h
theorem WVs.tx {us : List V} {ws : List W} (e : Tx H G) (h : WVs H us ws) : WVs G us ws := OVs.tx e (W.noLs ws) (W.nods ws) h
theorem WVs.ext {us : List V} {ws : List W} (e : Ex H G) (h : WVs H us ws) : WVs G us ws := OVs.ext e h
theorem WVs.length {us : List V} {ws : List W} (h : WVs H us ws) : us.length = ws.length := by
  rw [OVs.length h, W.os_map, List.length_map]
theorem WVs.get {us : List V} {ws : List W} {i : Nat} {x : W} (h : WVs H us ws) (e : ws[i]? = some x) : ∃ v, us[i]? = some v ∧ WV H v x :=
  OVs.geto h (by rw [W.os_map, List.getElem?_map, e]; rfl)
theorem WVs.getv {us : List V} {ws : List W} {i : Nat} {v : V} (h : WVs H us ws) (e : us[i]? = some v) : ∃ x, ws[i]? = some x ∧ WV H v x := by
  obtain ⟨o, a, b⟩ := OVs.get h e
  rw [W.os_map, List.getElem?_map] at a
  obtain ⟨x, hx, rfl⟩ := Option.map_eq_some_iff.mp a
  exact ⟨x, hx, b⟩
/-- what is no variable is a tuple: its name, its parts -/
theorem WV.tup {s : Str} {as : List W} (h : WV H u (.n s as)) : ∃ r us, u = .ref r ∧ H r = some (.tup (.str s :: us)) ∧ WVs H us as := by
  obtain ⟨r, vs, e, h1, v0, us, e2, h0, h2⟩ := h
  subst e2
  obtain rfl : v0 = .str s := h0
  exact ⟨r, us, e, h1, h2⟩
theorem WV.of {s : Str} {as : List W} {r : Addr} {us : List V} (h : H r = some (.tup (.str s :: us))) (k : WVs H us as) : WV H (.ref r) (.n s as) := ⟨r, _, rfl, h, _, _, rfl, rfl, k⟩
theorem WV.str {s : Str} (h : WV H u (.v s)) : u = .str s := h
end
theorem W.lt_dp : ∀ {as : List W} {i : Nat} {x : W}, as[i]? = some x → x.dp ≤ W.dps as
  | [], _, _, e => by simp at e
  | a :: as, 0, x, e => by
    obtain rfl : a = x := by simpa using e
    exact Nat.le_max_left _ _
  | a :: as, i + 1, x, e => Nat.le_trans (W.lt_dp (as := as) (i := i) (by simpa using e)) (Nat.le_max_right _ _)
theorem W.lt_sz : ∀ {as : List W} {i : Nat} {x : W}, as[i]? = some x → x.sz ≤ W.szs as
  | [], _, _, e => by simp at e
  | a :: as, 0, x, e => by
    obtain rfl : a = x := by simpa using e
    exact Nat.le_add_right _ _
  | a :: as, i + 1, x, e => Nat.le_trans (W.lt_sz (as := as) (i := i) (by simpa using e)) (Nat.le_add_left _ _)
/-- the part at a place -/
def W.at : W → List Nat → Option W
  | w, [] => some w
  | .v _, _ :: _ => none
  | .n _ as, i :: p => match as[i]? with
    | some x => x.at p
    | none => none
section
variable {K : PySem.W.Frag} {σ : L2.St} {H G : Hp} {te ta tb tl : TE} {v : V} {D : Ends} {tz tu : TS} {tt : TT}
/-- over a list or a tuple -/
abbrev iQ (K : PySem.W.Frag) (tl : TE) : TI := fun σ H R => iList K tl σ H R ∨ iTup K tl σ H R
theorem pi_or {X : Cx} {tg e : Expr} {i1 i2 : TI} (h1 : PI X tg e i1) (h2 : PI X tg e i2) : PI X tg e (fun σ H R => i1 σ H R ∨ i2 σ H R) :=
  ⟨fun pins s σ H R I h => h.elim (h1.run pins s σ H R I) (h2.run pins s σ H R I)⟩
theorem pi_seq {X : Cx} {tg l : Expr} (hl : PE X l tl) : PI X tg l (iQ X.K tl) := pi_or (pi_list hl) (pi_tup hl)
theorem q_forQ {b : Bool} {a : Addr} {xs : List V} {j : Nat} (h : Ev tl σ H (.ref a)) (hx : SqB H b a xs) (Pv : Nat → L2.St → Hp → Prop) (h0 : ∀ H1, Ex H H1 → Pv 0 σ H1) (hl : ∀ i σ' H', i ≤ xs.length → Pv i σ' H' → SqB H' b a xs)
    (hs : ∀ i x σ' H', xs[i]? = some x → Pv i σ' H' → tu { D with nx := Pv (i + 1), ct := Pv (i + 1), bk := tz D } (σ'.set j (some x)) H') (hd : ∀ σ' H', Pv xs.length σ' H' → tz D σ' H') : tSeq (tFor (iQ K tl) (gName j) tu) tz D σ H := by
  cases b with
  | true => exact .inl (q_forLn h (sq_of hx) Pv h0 (fun i σ' H' hi p => sq_of (hl i σ' H' hi p)) hs hd)
  | false => exact .inr (q_forT h (st_of hx) Pv h0 (fun i σ' H' hi p => st_of (hl i σ' H' hi p)) hs hd)
theorem el_lcQ {b : Bool} {a : Addr} {xs : List V} {j : Nat} {vs : List Nat} (f : Nat → Bool) (g : Nat → V) (h : Ev tl σ H (.ref a)) (hx : SqB H b a xs) (hz : xs.length ≤ 40000) (hw : ∀ x, wipe ((wipe σ vs).set j (some x)) vs = wipe σ vs)
    (ht : ∀ (i : Nat) (x : V) H1, Ex H H1 → xs[i]? = some x → EvT tt ((wipe σ vs).set j (some x)) H1 (f i)) (he : ∀ (i : Nat) (x : V) H1, Ex H H1 → xs[i]? = some x → f i = true → Ev te ((wipe σ vs).set j (some x)) H1 (g i)) :
    EvL (tLc (iQ K tl) (gName j) tt te vs) σ H (given xs.length f g) := by
  cases b with
  | true => exact fun H1 e Q q => .inl (el_lcL f g h (sq_of hx) hz hw ht he H1 e Q q)
  | false =>
    exact fun H0 e Q q => .inr (h H0 e _ fun H1 e1 => ⟨a, rfl, ⟨xs, ex_t (e.trans e1) (st_of hx)⟩, fun Dl hD =>
      lc_tup (xs := xs) (Cw H1 f g Dl) ⟨hD, Ex.new hD, upd_same⟩ (fun i H' _ p => ex_t ((e.trans e1).trans p.2.1) (st_of hx)) (fun i x H' hi p => ⟨hw x, cw_turn p (by have := (List.getElem?_eq_some_iff.mp hi).1; omega) (ht i x H1 (e.trans e1) hi) (fun hf => he i x H1 (e.trans e1) hi hf)⟩)
        (fun H' p => q Dl H' (fresh_back e1 p.1) (e1.trans p.2.1) p.2.2)⟩)
end
/-- numbers as they stand in a row -/
def nums (p : List Nat) : List V := p.map fun i : Nat => V.int (i : Nat)
theorem nums_len (p : List Nat) : (nums p).length = p.length := by simp [nums]
theorem nums_get {p : List Nat} {i : Nat} {x : V} (h : (nums p)[i]? = some x) : ∃ k, p[i]? = some k ∧ x = .int (k : Int) := by
  unfold nums at h
  rw [List.getElem?_map] at h
  obtain ⟨k, a, b⟩ := Option.map_eq_some_iff.mp h
  exact ⟨k, a, b.symm⟩
section
variable {P : Program} {w : World} {K : PySem.W.Frag} {mg : Str → Option Value} {base : Heap}
def optV (H : Hp) (u : V) : Option W → Prop
  | none => u = .non
  | some x => WV H u x
def spPa : Sp := fun vs H Q _ => ∃ (u : V) (a : Addr) (b : Bool) (z : W) (p : List Nat), vs = [u, .ref a] ∧ WV H u z ∧ SqB H b a (nums p) ∧ ∀ (r : V) (G : Hp), Ex H G → optV G r (z.at p) → Q r G
theorem at_snoc : ∀ {p : List Nat} {z : W} {k : Nat}, z.at (p ++ [k]) = (z.at p).bind fun x => x.at [k]
  | [], z, k => by cases z <;> rfl
  | i :: p, .v s, k => rfl
  | i :: p, .n s as, k => by
    show (match as[i]? with | some x => x.at (p ++ [k]) | none => none) = (match as[i]? with | some x => x.at p | none => none).bind fun x => x.at [k]
    cases as[i]? with
    | none => rfl
    | some x => exact at_snoc (p := p) (z := x)
theorem at_none {z : W} {p r : List Nat} (h : z.at p = none) : z.at (p ++ r) = none := by
  induction r generalizing p with
  | nil => rw [List.append_nil]; exact h
  | cons k r ih =>
    have e : p ++ k :: r = (p ++ [k]) ++ r := by simp
    rw [e]
    refine ih ?_
    rw [at_snoc, h]
    rfl
end
end K17

set_option Elab.async false
set_option linter.all false
set_option maxRecDepth 100000
set_option maxHeartbeats 4000000
/-! All places of a word. -/
namespace K17
open PySem PySem.Spec PyProof.Rows L2 Evl
section
variable {K : PySem.W.Frag} {σ : L2.St} {H G : Hp} {te ta tb tl tk tx : TE} {tt : TT} {v : V} {D : Ends} {tu tz : TS}
theorem s_extLP {l : Addr} {xs : List V} {P : List V → Hp → Prop} (hl : H l = some (.lst xs)) (ha : Ev ta σ H (.ref l)) (hb : EvLP te σ H P) (hs : ∀ zs G, P zs G → xs.length + zs.length ≤ 100000) (k : ∀ zs H1, Ex H H1 → P zs H1 → D.nx σ (upd H1 l (.lst (xs ++ zs)))) :
    tDrop (tBM K "list" rExtend ta (tCons te tNil)) D σ H := ha H (Ex.refl H) _ fun H1 e1 => ⟨.inl ⟨rfl, _, sq_of (e1 l _ hl)⟩, hb H1 e1 _ fun p zs H2 _ e2 hp pz =>
  ⟨l, p, xs, zs, rfl, rfl, e2 l _ (e1 l _ hl), hp, sz_of (hs zs H2 pz), k zs H2 (e1.trans e2) pz⟩⟩
theorem et_yes : EvT tYes σ H true := fun H1 e Q q => q H1 (Ex.refl _)
theorem s_forEnumNT {xs : List V} {j1 j2 : Nat} (h : EvU tl σ H xs) (Pv : Nat → L2.St → Hp → Prop) (h0 : ∀ H1, Ex H H1 → Pv 0 σ H1)
    (hs : ∀ (i : Nat) x σ' H' H2, xs[i]? = some x → Pv i σ' H' → Ex H' H2 → ∀ N : L2.St → Hp → Prop, (∀ σ3 H3, Pv (i + 1) σ3 H3 → Tx H2 H3 → N σ3 H3) → tu { D with nx := N, ct := N, bk := D.nx } ((σ'.set j1 (some (.int i))).set j2 (some x)) H2) (hd : ∀ σ' H', Pv xs.length σ' H' → D.nx σ' H') : tFor (iEnumT K (tCons tl tNil)) (gPair K j1 j2) tu D σ H :=
  q_forEnumNT (D := D) (tz := fun D => D.nx) h Pv h0 hs hd
end
theorem filter_true (l : List Nat) : (l.filter fun _ => true) = l := List.filter_eq_self.mpr fun _ _ => rfl
theorem A2.of_get {α β : Type} {R : α → β → Prop} : ∀ {as : List α} {bs : List β}, as.length = bs.length → (∀ (i : Nat) a b, as[i]? = some a → bs[i]? = some b → R a b) → A2 R as bs
  | [], [], _, _ => trivial
  | a :: as, b :: bs, h, k => ⟨k 0 a b rfl rfl, A2.of_get (Nat.succ.inj h) fun i x y e1 e2 => k (i + 1) x y (by simpa using e1) (by simpa using e2)⟩
  | [], _ :: _, h, _ => nomatch h
  | _ :: _, [], h, _ => nomatch h
theorem a2_range {β : Type} {R : V → β → Prop} {L : List β} {n : Nat} {acc : List V} (hn : n = L.length) (h : A2 (fun j y => ∃ q, L[j]? = some q ∧ R y q) (List.range n) acc) : A2 R acc L := by
  have hl := h.length
  rw [List.length_range] at hl
  refine A2.of_get (by omega) fun i a b e1 e2 => ?_
  obtain ⟨j, hj, q, hq, hr⟩ := h.getb e1
  have hil : i < n := by have := (List.getElem?_eq_some_iff.mp e1).1; omega
  rw [List.getElem?_range hil] at hj
  obtain rfl : i = j := Option.some.inj hj
  rw [hq] at e2
  obtain rfl : q = b := Option.some.inj e2
  exact hr
mutual
def W.parts : W → List (List Nat × W)
  | .v s => [([], .v s)]
  | .n s as => ([], .n s as) :: W.partsL 0 as
def W.partsL : Nat → List W → List (List Nat × W)
  | _, [] => []
  | i, a :: as => (a.parts.map fun q => (i :: q.1, q.2)) ++ W.partsL (i + 1) as
end
theorem W.partsL_snoc : ∀ (xs : List W) (x : W) (j : Nat), W.partsL j (xs ++ [x]) = W.partsL j xs ++ x.parts.map fun q => ((j + xs.length) :: q.1, q.2)
  | [], x, j => by simp [W.partsL]
  | y :: ys, x, j => by
    show (y.parts.map fun q => (j :: q.1, q.2)) ++ W.partsL (j + 1) (ys ++ [x]) = ((y.parts.map fun q => (j :: q.1, q.2)) ++ W.partsL (j + 1) ys) ++ _
    rw [W.partsL_snoc ys x (j + 1), List.append_assoc]
    have e : j + 1 + ys.length = j + (y :: ys).length := by simp; omega
    rw [e]
mutual
theorem W.parts_len : ∀ w : W, w.parts.length ≤ w.sz
  | .v _ => Nat.le_refl _
  | .n _ as => by
    have := W.partsL_len 0 as
    show (W.partsL 0 as).length + 1 ≤ W.szs as + 2
    omega
theorem W.partsL_len : ∀ (i : Nat) (ws : List W), (W.partsL i ws).length ≤ W.szs ws
  | _, [] => Nat.le_refl _
  | i, x :: xs => by
    have h1 := W.parts_len x
    have h2 := W.partsL_len (i + 1) xs
    show ((x.parts.map _) ++ W.partsL (i + 1) xs).length ≤ x.sz + W.szs xs
    rw [List.length_append, List.length_map]
    omega
end
mutual
theorem W.parts_deep : ∀ (w : W) (q : List Nat × W), q ∈ w.parts → q.1.length ≤ w.dp
  | .v _, q, h => by
    obtain rfl : q = _ := by simpa [W.parts] using h
    exact Nat.le_refl _
  | .n s as, q, h => by
    rcases List.mem_cons.mp h with rfl | h
    · exact Nat.zero_le _
    · exact W.partsL_deep 0 as q h
theorem W.partsL_deep : ∀ (i : Nat) (ws : List W) (q : List Nat × W), q ∈ W.partsL i ws → q.1.length ≤ W.dps ws + 1
  | _, [], q, h => nomatch h
  | i, x :: xs, q, h => by
    rcases List.mem_append.mp h with h | h
    · obtain ⟨r, hr, rfl⟩ := List.mem_map.mp h
      have h1 := W.parts_deep x r hr
      have h2 : x.dp ≤ W.dps (x :: xs) := Nat.le_max_left _ _
      show r.1.length + 1 ≤ _
      omega
    · have h1 := W.partsL_deep (i + 1) xs q h
      have h2 : W.dps xs ≤ W.dps (x :: xs) := Nat.le_max_right _ _
      omega
end
/-- what is told of a place: its list, B of it -/
def PlV (B : Addr → Prop) (H : Hp) (x : V) (p : List Nat) : Prop := ∃ l, x = .ref l ∧ B l ∧ H l = some (.lst (nums p))
theorem PlV.mut {B B' : Addr → Prop} {H G : Hp} {x : V} {p : List Nat} (h : PlV B H x p) (l : ∀ a o, B a → H a = some o → G a = some o) (b : ∀ a, B a → B' a) : PlV B' G x p := by
  obtain ⟨a, rfl, h1, h2⟩ := h
  exact ⟨a, rfl, b _ h1, l _ _ h1 h2⟩
section
variable {P : Program} {w : World} {K : PySem.W.Frag} {mg : Str → Option Value} {base : Heap}
def plc (z : W) : List (List Nat) := z.parts.map (·.1)
def plcL (i : Nat) (ws : List W) : List (List Nat) := (W.partsL i ws).map (·.1)
theorem plcL_snoc (xs : List W) (x : W) : plcL 0 (xs ++ [x]) = plcL 0 xs ++ (plc x).map fun p => xs.length :: p := by
  unfold plcL plc
  rw [W.partsL_snoc, List.map_append, List.map_map, List.map_map, Nat.zero_add]
  rfl
def spPi (m : Nat) : Sp := fun vs H Q _ => ∃ v z, vs = [v] ∧ WV H v z ∧ z.dp < m ∧ m ≤ 40 ∧ z.sz ≤ 9000 ∧
  ∀ p xs H', H p = none → Ex H H' → H' p = some (.lst xs) → A2 (PlV (fun l => H l = none ∧ l ≠ p) H') xs (plc z) → Q (.ref p) H'
abbrev nPi : List Str := ["word", "told", "index", "part", "place"]
end
end K17

set_option Elab.async false
set_option linter.all false
set_option maxRecDepth 100000
set_option maxHeartbeats 4000000
/-! A part put at a place; depths; variables. -/
namespace K17
open PySem PySem.Spec PyProof.Rows L2 Evl
def W.put : W → List Nat → W → W
  | _, [], y => y
  | .v s, _ :: _, _ => .v s
  | .n s as, i :: p, y => match as[i]? with
    | some x => .n s (as.set i (x.put p y))
    | none => .n s as
theorem WVs.set {H : Hp} : ∀ {us : List V} {ws : List W} {i : Nat} {r : V} {x : W}, WVs H us ws → WV H r x → WVs H (us.set i r) (ws.set i x)
  | us, [], i, r, x, h, _ => by
    have h : us = [] := h
    rw [h]
    exact rfl
  | us, w :: ws, 0, r, x, ⟨u, us', e, h1, h2⟩, k => by
    rw [e]
    exact ⟨r, us', rfl, k, h2⟩
  | us, w :: ws, i + 1, r, x, ⟨u, us', e, h1, h2⟩, k => by
    rw [e]
    exact ⟨u, _, rfl, h1, WVs.set h2 k⟩
theorem cut_to (xs : List V) (k : Nat) : cutV xs none (some (k : Int)) = xs.take k := by
  unfold cutV
  rw [HT.sIx_none, HT.sIx_nat, List.drop_zero, Nat.sub_zero]
  by_cases h : k ≤ xs.length
  · rw [Nat.min_eq_left h]
  · rw [Nat.min_eq_right (by omega), List.take_of_length_le (Nat.le_refl _), List.take_of_length_le (by omega)]
theorem cut_from (xs : List V) (k : Nat) : cutV xs (some (k : Int)) none = xs.drop k := by
  unfold cutV
  rw [HT.sIx_none, HT.sIx_nat]
  by_cases h : k ≤ xs.length
  · rw [Nat.min_eq_left h, List.take_of_length_le (by rw [List.length_drop]; omega)]
  · rw [Nat.min_eq_right (by omega), List.drop_eq_nil_of_le (Nat.le_refl _), List.drop_eq_nil_of_le (by omega)]
    simp
section
variable {K : PySem.W.Frag} {σ : L2.St} {H G : Hp} {te ta tb tl : TE} {v : V}
/-- t[:k], k within -/
theorem eu_to {a : Addr} {xs : List V} {k : Nat} (h : Ev te σ H (.ref a)) (hk : Ev tb σ H (.int (k : Nat))) (ha : SqT K H a xs) (hl : k < xs.length) : EvU (tSl (rSlT K) te tNoPart (tPart tb)) σ H (xs.take k) := fun H1 e Q q =>
  h H1 e _ fun H2 e2 => hk H2 (e.trans e2) _ fun H3 e3 => ⟨_, rfl, a, xs, rfl, ex_t ((e.trans e2).trans e3) ha, fun z => by
    have h2 := z.2
    rw [HT.sIx_nat] at h2
    omega, fun p hp => by
    rw [cut_to]
    exact q p _ (fresh_back (e2.trans e3) hp) ((e2.trans e3).trans (Ex.new hp)) upd_same⟩
/-- t[k:], k from 1 on -/
theorem eu_from {a : Addr} {xs : List V} {k : Nat} (h : Ev te σ H (.ref a)) (hk : Ev tb σ H (.int (k : Nat))) (ha : SqT K H a xs) (hl : 1 ≤ k) (hx : xs ≠ []) : EvU (tSl (rSlT K) te (tPart tb) tNoPart) σ H (xs.drop k) := fun H1 e Q q =>
  h H1 e _ fun H2 e2 => hk H2 (e.trans e2) _ fun H3 e3 => ⟨_, rfl, a, xs, rfl, ex_t ((e.trans e2).trans e3) ha, fun z => by
    have h2 := z.1
    rw [HT.sIx_nat] at h2
    have := List.length_pos_iff.mpr hx
    omega, fun p hp => by
    rw [cut_from]
    exact q p _ (fresh_back (e2.trans e3) hp) ((e2.trans e3).trans (Ex.new hp)) upd_same⟩
/-- a new tuple of which P holds -/
def EvUP (te : TE) (σ : L2.St) (H : Hp) (P : List V → Hp → Prop) : Prop := ∀ H1, Ex H H1 → ∀ Q : VK, (∀ p xs H2, H1 p = none → Ex H1 H2 → H2 p = some (.tup xs) → P xs H2 → Q (.ref p) H2) → te σ H1 Q
theorem EvUP.of {xs : List V} (h : EvU te σ H xs) : EvUP te σ H (fun ys _ => ys = xs) := fun H1 e Q q => h H1 e _ fun p H2 n e2 h2 => q p xs H2 n e2 h2 rfl
theorem eup_one {P : V → Hp → Prop} (h : EvP te σ H P) (up : ∀ r, Up (P r)) : EvUP (tTup (tCons te tNil)) σ H (fun ys G => ∃ r, ys = [r] ∧ P r G) := fun H1 e Q q =>
  h H1 e _ fun r H2 e2 pr => ⟨by show 1 ≤ sizeLine; decide, fun p hp => q p [r] _ (fresh_back e2 hp) (e2.trans (Ex.new hp)) upd_same ⟨r, rfl, up r _ _ (Ex.new hp) pr⟩⟩
theorem eup_cat {P1 P2 : List V → Hp → Prop} (ha : EvUP ta σ H P1) (hb : EvUP tb σ H P2) (u1 : ∀ xs, Up (P1 xs)) (u2 : ∀ xs, Up (P2 xs)) (ne : ∀ xs G, P1 xs G → xs ≠ []) (hl : ∀ xs ys G, P1 xs G → P2 ys G → xs.length + ys.length ≤ 100000) :
    EvUP (tOp (rCatT K) ta tb) σ H (fun zs G => ∃ xs ys, zs = xs ++ ys ∧ P1 xs G ∧ P2 ys G) := fun H1 e Q q =>
  ha H1 e _ fun p1 xs H2 n1 e2 h1 q1 => hb H2 (e.trans e2) _ fun p2 ys H3 n2 e3 h2 q2 => ⟨p1, p2, xs, ys, rfl, rfl, st_of (e3 _ _ h1), st_of h2, ne _ _ q1, sz_of (hl _ _ _ (u1 _ _ _ e3 q1) q2),
    fun z => by
      subst z
      exact q p1 xs H3 n1 (e2.trans e3) (e3 _ _ h1) ⟨xs, [], by simp, u1 _ _ _ e3 q1, q2⟩,
    fun _ p hp => q p (xs ++ ys) _ (fresh_back (e2.trans e3) hp) ((e2.trans e3).trans (Ex.new hp)) upd_same ⟨xs, ys, rfl, u1 _ _ _ (e3.trans (Ex.new hp)) q1, u2 _ _ _ (Ex.new hp) q2⟩⟩
theorem s_retUP {D : Ends} {P : List V → Hp → Prop} (h : EvUP te σ H P) (k : ∀ p xs H1, H p = none → Ex H H1 → H1 p = some (.tup xs) → P xs H1 → D.rt (.ref p) H1) : tRet te D σ H := h H (Ex.refl H) _ k
end
theorem W.len_szs : ∀ l : List W, l.length ≤ W.szs l
  | [] => Nat.le_refl _
  | c :: l => by
    have h1 : 1 ≤ c.sz := by cases c <;> simp [W.sz]
    have h2 := W.len_szs l
    show l.length + 1 ≤ c.sz + W.szs l
    omega
theorem at_cons {s : Str} {as : List W} {i : Nat} {p : List Nat} (h : ((W.n s as).at (i :: p)).isSome = true) : ∃ x, as[i]? = some x ∧ (x.at p).isSome = true := by
  have h : (match as[i]? with | some x => x.at p | none => none).isSome = true := h
  cases e : as[i]? with
  | none => rw [e] at h; cases h
  | some x => rw [e] at h; exact ⟨x, rfl, h⟩
section
variable {P : Program} {w : World} {K : PySem.W.Frag} {mg : Str → Option Value} {base : Heap}
def spWp (m : Nat) : Sp := fun vs H Q _ => ∃ (u q : V) (a : Addr) (b : Bool) (z y : W) (p : List Nat), vs = [u, .ref a, q] ∧ WV H u z ∧ SqB H b a (nums p) ∧ WV H q y ∧ p.length < m ∧ m ≤ 40 ∧ z.sz ≤ 9000 ∧ (z.at p).isSome = true ∧ ∀ (r : V) (G : Hp), Ex H G → WV G r (z.put p y) → Q r G
theorem ep_wp {σ : L2.St} {H : Hp} {m : Nat} {t1 t2 t3 : TE} {ux q : V} {x y : W} {p : List Nat} (h1 : Ev t1 σ H ux) (h2 : EvQ t2 σ H (nums p)) (h3 : Ev t3 σ H q) (hw : WV H ux x) (hy : WV H q y) (hp : p.length < m) (hm : m ≤ 40) (hs : x.sz ≤ 9000) (ha : (x.at p).isSome = true) :
    EvP (tCall (spWp m) [] E0 (tCons t1 (tCons t2 (tCons t3 tNil)))) σ H (fun r G => WV G r (x.put p y)) := fun H1 e Q k =>
  h1 H1 e _ fun H2 e2 => h2 H2 (e.trans e2) _ fun b a H3 _ e3 h3' => h3 H3 ((e.trans e2).trans e3) _ fun H4 e4 => ⟨ux, q, a, b, x, y, p, rfl, hw.ext (((e.trans e2).trans e3).trans e4), h3'.ext e4, hy.ext (((e.trans e2).trans e3).trans e4), hp, hm, hs, ha, fun r G e5 hr => k r G (((e2.trans e3).trans e4).trans e5) hr⟩
abbrev nWp : List Str := ["word", "place", "part", "at"]
end
end K17

set_option Elab.async false
set_option linter.all false
set_option maxRecDepth 100000
set_option maxHeartbeats 4000000
/-! Depths, variables. -/
namespace K17
open PySem PySem.Spec PyProof.Rows L2 Evl
section
variable {K : PySem.W.Frag} {σ : L2.St} {H : Hp} {te tl : TE} {tt : TT}
theorem el_lcNT {xs : List V} {j : Nat} {vs : List Nat} (f : Nat → Bool) (g : Nat → V) (h : EvU tl σ H xs) (hz : xs.length ≤ 40000) (hw : ∀ x, wipe ((wipe σ vs).set j (some x)) vs = wipe σ vs)
    (ht : ∀ (i : Nat) (x : V) H1, Ex H H1 → xs[i]? = some x → EvT tt ((wipe σ vs).set j (some x)) H1 (f i)) (he : ∀ (i : Nat) (x : V) H1, Ex H H1 → xs[i]? = some x → f i = true → Ev te ((wipe σ vs).set j (some x)) H1 (g i)) :
    EvL (tLc (iTup K tl) (gName j) tt te vs) σ H (given xs.length f g) := fun H0 e Q q => h H0 e _ fun a H1 ha e1 hx => ⟨a, rfl, ⟨xs, st_of hx⟩, fun Dl hD =>
  lc_tup (xs := xs) (Cw H1 f g Dl) ⟨hD, Ex.new hD, upd_same⟩ (fun i H' _ p => st_of (p.2.1 a _ hx)) (fun i x H' hi p => ⟨hw x, cw_turn p (by have := (List.getElem?_eq_some_iff.mp hi).1; omega) (ht i x H1 (e.trans e1) hi) (fun hf => he i x H1 (e.trans e1) hi hf)⟩)
    (fun H' p => q Dl H' (fresh_back e1 p.1) (e1.trans p.2.1) p.2.2)⟩
end
theorem ev_maxL {K : PySem.W.Frag} {σ : L2.St} {H : Hp} {te : TE} {ns : List Int} {m : Int} (h : EvL te σ H (ns.map V.int)) (hp : 0 < ns.length) (hm : ∀ m', m' ∈ ns → (∀ y, y ∈ ns → y ≤ m') → m' = m) : Ev (tCB (rMax K) (tCons te tNil)) σ H (.int m) := fun H1 e Q q =>
  h H1 e _ fun p H2 _ e2 h2 => ⟨p, ns, rfl, sq_of h2, hp, fun m' a b => by
    rw [hm m' a b]
    exact q H2 e2⟩
theorem given_map {α : Type} (xs : List α) (g : α → V) (n : Nat) (hn : n = xs.length) : given n (fun _ => true) (fun i => ((xs[i]?).map g).getD .non) = xs.map g := by
  subst hn
  unfold given
  rw [filter_true]
  refine List.ext_getElem? fun i => ?_
  rw [List.getElem?_map, List.getElem?_map]
  by_cases h : i < xs.length
  · rw [List.getElem?_range h]
    show some (((xs[i]?).map g).getD .non) = _
    rw [List.getElem?_eq_getElem h]
    rfl
  · rw [List.getElem?_eq_none_iff.mpr (by simp; omega), List.getElem?_eq_none_iff.mpr (by omega)]
    rfl
mutual
def W.de : W → Nat
  | .v _ => 0
  | .n _ as => W.dn as
def W.dn : List W → Nat
  | [] => 0
  | a :: r => max a.de (W.des r) + 1
def W.des : List W → Nat
  | [] => 0
  | a :: r => max a.de (W.des r)
end
theorem W.de_le : ∀ {as : List W} {x : W}, x ∈ as → x.de ≤ W.des as
  | a :: as, x, h => by
    rcases List.mem_cons.mp h with rfl | h
    · exact Nat.le_max_left _ _
    · exact Nat.le_trans (W.de_le h) (Nat.le_max_right _ _)
theorem W.de_max : ∀ {as : List W} {m : Nat}, (∃ x ∈ as, x.de = m) → (∀ x ∈ as, x.de ≤ m) → m = W.des as
  | as, m, ⟨x, hx, e⟩, h => by
    have h1 := W.de_le hx
    have h2 : ∀ as : List W, (∀ x ∈ as, x.de ≤ m) → W.des as ≤ m := by
      intro as
      induction as with
      | nil => intro _; exact Nat.zero_le _
      | cons a as ih =>
        intro h
        have q1 := h a (List.mem_cons_self ..)
        have q2 := ih fun x hx => h x (List.mem_cons_of_mem _ hx)
        show max a.de (W.des as) ≤ m
        omega
    have := h2 as h
    omega
theorem W.dn_des {as : List W} (h : as ≠ []) : W.dn as = W.des as + 1 := by
  cases as with
  | nil => exact absurd rfl h
  | cons a r => rfl
mutual
def W.vars : W → List Str
  | .v s => [s]
  | .n _ as => W.varsL [] as
def W.varsL : List Str → List W → List Str
  | acc, [] => acc
  | acc, a :: r => W.varsL (acc ++ a.vars.filter fun s => !acc.contains s) r
end
section
variable {P : Program} {w : World} {K : PySem.W.Frag} {mg : Str → Option Value} {base : Heap}
def spDe (m : Nat) : Sp := fun vs H Q _ => ∃ v z, vs = [v] ∧ WV H v z ∧ z.dp < m ∧ m ≤ 40 ∧ z.sz ≤ 9000 ∧ RetV (.int (z.de : Nat)) H Q
abbrev nDe : List Str := ["word", "part"]
theorem spv_de {m : Nat} {v : V} {z : W} {H : Hp} (h : WV H v z) (hd : z.dp < m) (hm : m ≤ 40) (hs : z.sz ≤ 9000) : SpV (spDe m) ([v] ++ []) H (.int (z.de : Nat)) := fun H1 e Q q E => ⟨v, z, rfl, h.ext e, hd, hm, hs, q⟩
def sVs (xs : List Str) : List V := xs.map V.str
theorem sVs_flat (xs : List Str) : (sVs xs).all flatV = true := by
  unfold sVs
  induction xs with
  | nil => rfl
  | cons r rs ih => exact ih
theorem eqV_beq (s r : Str) : eqV (.str s) (.str r) = (s == r) := by
  show decide (s = r) = (s == r)
  by_cases h : s = r
  · rw [decide_eq_true h, h]
    exact (beq_self_eq_true r).symm
  · rw [decide_eq_false h]
    exact (beq_eq_false_iff_ne.mpr h).symm
theorem sVs_in (s : Str) (xs : List Str) : inV (.str s) (sVs xs) = xs.contains s := by
  unfold inV sVs
  induction xs with
  | nil => rfl
  | cons r rs ih =>
    rw [List.map_cons, List.any_cons, ih, List.contains_cons, eqV_beq]
    first
      | rfl
      | rw [show (r == s) = (s == r) from by by_cases h : r = s; { rw [h] }; { rw [beq_eq_false_iff_ne.mpr h, beq_eq_false_iff_ne.mpr (Ne.symm h)] }]
def spVa (m : Nat) : Sp := fun vs H Q _ => ∃ v z, vs = [v] ∧ WV H v z ∧ z.dp < m ∧ m ≤ 40 ∧ z.sz ≤ 9000 ∧ ∀ p H', H p = none → Ex H H' → H' p = some (.lst (sVs z.vars)) → Q (.ref p) H'
abbrev nVa : List Str := ["word", "told", "part", "variable"]
mutual
theorem W.vars_len : ∀ w : W, w.vars.length ≤ w.sz
  | .v _ => Nat.le_refl _
  | .n _ as => by
    have := W.varsL_len [] as
    show (W.varsL [] as).length ≤ W.szs as + 2
    simp at this
    omega
theorem W.varsL_len : ∀ (acc : List Str) (as : List W), (W.varsL acc as).length ≤ acc.length + W.szs as
  | acc, [] => Nat.le_refl _
  | acc, a :: r => by
    have h1 := W.vars_len a
    have h2 := W.varsL_len (acc ++ a.vars.filter fun s => !acc.contains s) r
    have h3 := List.length_filter_le (fun s => !acc.contains s) a.vars
    rw [List.length_append] at h2
    show _ ≤ acc.length + (a.sz + W.szs r)
    show (W.varsL (acc ++ a.vars.filter fun s => !acc.contains s) r).length ≤ _
    omega
end
theorem W.varsL_snoc : ∀ (as : List W) (x : W) (acc : List Str), W.varsL acc (as ++ [x]) = W.varsL acc as ++ x.vars.filter fun s => !(W.varsL acc as).contains s
  | [], x, acc => rfl
  | a :: r, x, acc => W.varsL_snoc r x _
theorem given_sVs_to {xs : List Str} {f : Str → Bool} : ∀ n : Nat, n ≤ xs.length → given n (fun i => ((xs[i]?).map f).getD false) (fun i => ((xs[i]?).map V.str).getD .non) = sVs ((xs.take n).filter f)
  | 0, _ => by simp [given, sVs]
  | n + 1, h => by
    have ih := given_sVs_to (xs := xs) (f := f) n (by omega)
    obtain ⟨x, hx⟩ : ∃ x, xs[n]? = some x := ⟨xs[n], by simp⟩
    rw [take_snoc hx, List.filter_append]
    cases hf : f x with
    | true =>
      rw [given_yes (by rw [hx]; exact hf), ih, hx]
      show sVs _ ++ [V.str x] = _
      unfold sVs
      rw [List.filter_cons, if_pos hf, List.map_append]
      rfl
    | false =>
      rw [given_no (by rw [hx]; exact hf), ih, List.filter_cons, if_neg (by rw [hf]; decide)]
      simp
theorem given_sVs {xs : List Str} {f : Str → Bool} {n : Nat} (hn : n = xs.length) : given n (fun i => ((xs[i]?).map f).getD false) (fun i => ((xs[i]?).map V.str).getD .non) = sVs (xs.filter f) := by
  rw [given_sVs_to n (by omega), List.take_of_length_le (by omega)]
theorem szs_take (as : List W) (n : Nat) : W.szs (as.take n) ≤ W.szs as := by
  induction as generalizing n with
  | nil => simp [W.szs]
  | cons c l ih =>
    cases n with
    | zero => exact Nat.zero_le _
    | succ n =>
      have := ih n
      show c.sz + W.szs (l.take n) ≤ c.sz + W.szs l
      omega
end
end K17

set_option Elab.async false
set_option linter.all false
set_option maxRecDepth 100000
set_option maxHeartbeats 4000000
/-! The law's spring of draws. -/
namespace K17
open PySem PySem.Spec PyProof.Rows
open L2 Evl
/-- the spring at p: the cells left at q, what is left of a great one, how many were drawn, what all of them mix -/
structure Stm (H : Hp) (p q : Addr) (L : List Int) (a n t : Int) : Prop where
  hp : H p = some (.lst [.ref q, .int a, .int n, .int t])
  hq : H q = some (.lst (L.map V.int))
  ne : p ≠ q
  a0 : 0 ≤ a
  n0 : 0 ≤ n
  t0 : 0 ≤ t
  t1 : t < 2147483647
/-- all but two objects stay -/
def But (p q : Addr) (H G : Hp) : Prop := ∀ b o, b ≠ p → b ≠ q → H b = some o → G b = some o
def spDraw : Sp := fun vs H Q _ => ∃ (p q : Addr) (L : List Int) (a n t m : Int), vs = [.ref p, .int m] ∧ Stm H p q L a n t ∧ n < 100000 ∧ 1 ≤ m ∧ m ≤ 1000 ∧
  ∀ (r : Int) (G : Hp) (L' : List Int) (a' t' : Int), 0 ≤ r → r < m → Stm G p q L' a' (n + 1) t' → But p q H G → Q (.int r) G
theorem scD : FnScope ["_law_stream", "_law_many", "_law_cell", "_law_digit", "_law_mixed_here"] ["_law_stream", "_law_many"] (defScope s__law_draw) := ⟨rfl, rfl, rfl, by decide +kernel, rfl, by decide +kernel, by decide +kernel⟩
theorem dp_ints {K : PySem.W.Frag} {H : Hp} : ∀ L : List Int, DpAll K H (L.map V.int) (L.map PyData.int)
  | [] => .nil
  | i :: r => .cons (.int i) (dp_ints r)
theorem lay_ints : ∀ L : List Int, PyData.canLayAll0 (L.map PyData.int) = true
  | [] => rfl
  | _ :: r => by
    show (PyData.canLay0 (.int _) && PyData.canLayAll0 (r.map PyData.int)) = true
    rw [lay_ints r]
    rfl
theorem depth_ints : ∀ L : List Int, PyData.depthAll (L.map PyData.int) ≤ 1
  | [] => Nat.zero_le _
  | _ :: r => by
    show max (PyData.depth (.int _)) (PyData.depthAll (r.map PyData.int)) ≤ 1
    exact Nat.max_le.mpr ⟨Nat.zero_le _, depth_ints r⟩
theorem shaped_ints (L : List Int) : SeqAt.shaped (.list (L.map PyData.int)) = true := by
  unfold SeqAt.shaped
  rw [Bool.and_eq_true]
  refine ⟨lay_ints L, decide_eq_true ?_⟩
  have h := depth_ints L
  show PyData.depthAll (L.map PyData.int) + 1 ≤ 64
  omega
/-! ### reading and storing at places of a list -/
theorem ixr {K : PySem.W.Frag} {σ : L2.St} {H : Hp} {Q : VK} {i j : Nat} {z : Int} {p : Addr} {xs : List V} {v : V} (hs : σ[i]? = some (some (.ref p))) (hp : H p = some (.lst xs)) (hz : z = (j : Int)) (hj : xs[j]? = some v) (h : Q v H) :
    tOp (rIxL K) (tVar i) (tC (V.int z)) σ H Q := by
  subst hz
  exact ⟨_, hs, p, xs, _, v, rfl, rfl, SqL.of hp, atI_nat hj, h⟩
theorem ixn {m j : Nat} (hj : j < m) : ixN m (j : Int) = some j := by
  unfold ixN
  rw [if_pos (Int.natCast_nonneg j), if_pos (Int.ofNat_lt.mpr hj), Int.toNat_natCast]
theorem setr {σ : L2.St} {H : Hp} {Q : L2.St → Hp → Prop} {i j : Nat} {z : Int} {p : Addr} {xs : List V} {v : V} (hs : σ[i]? = some (some (.ref p))) (hp : H p = some (.lst xs)) (hz : z = (j : Int)) (hj : j < xs.length)
    (h : Q σ (upd H p (.lst (xs.set j v)))) : gSub (tVar i) (tC (V.int z)) rSetL v σ H Q := by
  subst hz
  exact ⟨_, hs, p, xs, _, j, rfl, rfl, hp, ixn hj, h⟩
theorem But.refl {p q : Addr} {H : Hp} : But p q H H := fun _ _ _ _ e => e
theorem But.trans {p q : Addr} {H G J : Hp} (a : But p q H G) (b : But p q G J) : But p q H J := fun c o n1 n2 e => b c o n1 n2 (a c o n1 n2 e)
theorem But.l {p q : Addr} {H : Hp} {o : HO} : But p q H (upd H p o) := fun b u n1 _ e => by rw [upd_ne n1]; exact e
theorem But.r {p q : Addr} {H : Hp} {o : HO} : But p q H (upd H q o) := fun b u _ n2 e => by rw [upd_ne n2]; exact e
theorem But.of {p q : Addr} {H G : Hp} (k : Ex H G) : But p q H G := fun b o _ _ e => k b o e
section
variable {H G : Hp} {p q : Addr} {L : List Int} {a n t : Int}
theorem Stm.ext (S : Stm H p q L a n t) (k : Ex H G) : Stm G p q L a n t := ⟨k _ _ S.hp, k _ _ S.hq, S.ne, S.a0, S.n0, S.t0, S.t1⟩
theorem Stm.put (S : Stm H p q L a n t) {a' n' t' : Int} (h1 : 0 ≤ a') (h2 : 0 ≤ n') (h3 : 0 ≤ t') (h4 : t' < 2147483647) : Stm (upd H p (.lst [.ref q, .int a', .int n', .int t'])) p q L a' n' t' :=
  ⟨upd_same, by rw [upd_ne S.ne.symm]; exact S.hq, S.ne, h1, h2, h3, h4⟩
theorem Stm.cut (S : Stm H p q L a n t) (L' : List Int) : Stm (upd H q (.lst (L'.map V.int))) p q L' a n t :=
  ⟨by rw [upd_ne S.ne]; exact S.hp, upd_same, S.ne, S.a0, S.n0, S.t0, S.t1⟩
end
/-! ### the readings -/
def dIx (K : PySem.W.Frag) (j : Int) : TE := tOp (rIxL K) (tVar 0) (tC (.int j))
def dNum (t : TE) : TE := tCB (fun xs H Q => (∃ i, xs = [V.int i] ∧ Q (.int i) H) ∨ ∃ k, xs = [V.bl k] ∧ Q (.int (if k = true then 1 else 0)) H) (tCons t tNil)
abbrev dAdd : TE → TE → TE := tOp (rI0 fun i j => .int (i + j))
abbrev dMul : TE → TE → TE := tOp (rI CMul fun i j => .int (i * j))
abbrev dMod : TE → TE → TE := tOp (rI (fun _ j => 0 < j) fun i j => .int (i % j))
abbrev dPow : TE → TE → TE := tOp (rI CPow fun i j => .int (i ^ j.toNat))
abbrev nC (i : Int) : TE := tC (.int i)
def dSet (j : Int) (te : TE) : TS := tAsg te (gSub (tVar 0) (nC j) rSetL)
def dTest (K : PySem.W.Frag) : TT := tAnd (tTest (tOp rEq (dIx K 1) (nC 0))) (tTest (tOp (rNeD K) (dIx K 0) (tLst tNil)))
def dTurn (K : PySem.W.Frag) : TS := tSeq (tAsg (tBM K "list" rPopAt (dIx K 0) (tCons (nC 0) tNil)) (gName 2))
  (tSeq (dSet 3 (dMod (dNum (dAdd (dAdd (dMul (dIx K 3) (nC 8191)) (tVar 2)) (nC 3))) (nC 2147483647)))
  (dSet 1 (tIf (tTest (tOp (rI0 fun i j => .bl (decide (j ≤ i))) (tVar 2) (dPow (nC 10) (nC 18)))) (tVar 2) (nC 0))))
def dEnd (K : PySem.W.Frag) : TS := tSeq (tIfS (tTest (tOp (rI0 fun i j => .bl (decide (j < i))) (dIx K 1) (nC 0)))
    (tSeq (tAsg (dMod (dNum (dIx K 1)) (tVar 1)) (gName 3)) (tSeq (dSet 1 (tOp (rI CDivN fun i j => .int (i.fdiv j)) (dIx K 1) (tVar 1))) (tRet (tVar 3)))) tNext)
  (tSeq (tAsg (dMod (dNum (dPow (dAdd (dAdd (dIx K 3) (dMul (nC 7919) (dIx K 2))) (nC 104729)) (nC 5))) (nC 2147483629)) (gName 4))
  (tRet (dMod (dMod (dNum (dPow (dAdd (dAdd (dMul (tVar 4) (nC 48271)) (dMul (nC 30011) (dIx K 2))) (nC 29)) (nC 3))) (nC 1000000007)) (tVar 1))))
def dAll (K : PySem.W.Frag) : TS := tSeq (dSet 2 (dAdd (dIx K 2) (nC 1))) (tSeq (tWhile (dTest K) (dTurn K)) (dEnd K))
section
variable {K : PySem.W.Frag}
theorem turn_ok {D : Ends} {σ : L2.St} {H : Hp} {p q : Addr} {c a n t : Int} {L : List Int} (S : Stm H p q (c :: L) a n t) (s0 : σ[0]? = some (some (.ref p))) (sl : σ.length = 5)
    (h : ∀ (G : Hp) (a' t' : Int), Stm G p q L a' n t' → But p q H G → D.nx (σ.set 2 (some (.int c))) G) : dTurn K D σ H := by
  have e0 : (σ.set 2 (some (V.int c)))[0]? = some (some (.ref p)) := by rw [List.getElem?_set_ne (by decide)]; exact s0
  have e2 : (σ.set 2 (some (V.int c)))[2]? = some (some (.int c)) := List.getElem?_set_self (by omega)
  refine ixr (j := 0) s0 S.hp rfl rfl ⟨.inl ⟨rfl, _, SqL.of S.hq⟩, q, _, 0, 0, .int c, rfl, rfl, S.hq, by decide, by decide, ?_, rfl, ?_⟩
  · unfold seqIndex?
    simp
  have S1 : Stm (upd H q (.lst (L.map V.int))) p q L a n t := S.cut L
  have t0 := S.t0
  have t1 := S.t1
  -- what all of them mix
  refine ixr (j := 3) e0 S1.hp rfl rfl ⟨_, _, rfl, rfl, .inl ⟨by omega, by omega⟩, _, e2, _, _, rfl, rfl, _, _, rfl, rfl, .inl ⟨_, rfl, _, _, rfl, rfl, (show (0 : Int) < 2147483647 by decide), ?_⟩⟩
  refine setr (j := 3) e0 S1.hp rfl (by show 3 < 4; omega) ?_
  have m0 := Int.emod_nonneg (t * 8191 + c + 3) (show (2147483647 : Int) ≠ 0 by decide)
  have m1 := Int.emod_lt_of_pos (t * 8191 + c + 3) (show (0 : Int) < 2147483647 by decide)
  have S2 := S1.put (a' := a) (n' := n) (t' := (t * 8191 + c + 3) % 2147483647) S.a0 S.n0 m0 m1
  have B2 : But p q H (upd (upd H q (.lst (L.map V.int))) p (.lst [.ref q, .int a, .int n, .int ((t * 8191 + c + 3) % 2147483647)])) := But.trans But.r But.l
  refine ⟨_, e2, _, _, rfl, rfl, ⟨by decide, by decide, by decide⟩, _, _, rfl, rfl, _, rfl, ?_⟩
  by_cases hc : (10 : Int) ^ (18 : Int).toNat ≤ c
  · rw [decide_eq_true hc]
    refine iteT ⟨_, e2, ?_⟩
    refine setr (j := 1) e0 S2.hp rfl (by show 1 < 4; omega) (h _ _ _ (S2.put (a' := c) ?_ S.n0 m0 m1) (B2.trans But.l))
    have z : (0 : Int) ≤ 10 ^ (18 : Int).toNat := by decide
    omega
  · rw [decide_eq_false hc]
    refine iteF ?_
    exact setr (j := 1) e0 S2.hp rfl (by show 1 < 4; omega) (h _ _ _ (S2.put (a' := 0) (by decide) S.n0 m0 m1) (B2.trans But.l))
theorem fin_ok {D : Ends} {σ : L2.St} {H : Hp} {p q : Addr} {a n t m k : Int} {L : List Int} (S : Stm H p q L a n t) (s0 : σ[0]? = some (some (.ref p))) (s1 : σ[1]? = some (some (.int m))) (sl : σ.length = 5)
    (hn : n ≤ 100000) (hm : 1 ≤ m) (hm2 : m ≤ 1000) (k0 : 0 ≤ k) (k1 : k < 2147483629)
    (h : ∀ (r : Int) (G : Hp) (L' : List Int) (a' t' : Int), 0 ≤ r → r < m → Stm G p q L' a' n t' → But p q H G → D.rt (.int r) G) :
    tRet (dMod (dMod (dNum (dPow (dAdd (dAdd (dMul (tVar 4) (nC 48271)) (dMul (nC 30011) (dIx K 2))) (nC 29)) (nC 3))) (nC 1000000007)) (tVar 1)) D (σ.set 4 (some (V.int k))) H := by
  have n0 := S.n0
  have e0 : (σ.set 4 (some (V.int k)))[0]? = some (some (.ref p)) := by rw [List.getElem?_set_ne (by decide)]; exact s0
  have e1 : (σ.set 4 (some (V.int k)))[1]? = some (some (.int m)) := by rw [List.getElem?_set_ne (by decide)]; exact s1
  have e4 : (σ.set 4 (some (V.int k)))[4]? = some (some (.int k)) := List.getElem?_set_self (by omega)
  refine ⟨_, e4, _, _, rfl, rfl, .inl ⟨by omega, by omega⟩, ?_⟩
  refine ixr (j := 2) e0 S.hp rfl rfl ⟨_, _, rfl, rfl, .inl ⟨by decide, by decide⟩, _, _, rfl, rfl, _, _, rfl, rfl, _, _, rfl, rfl, ⟨by decide, by decide, by omega⟩,
    .inl ⟨_, rfl, _, _, rfl, rfl, (show (0 : Int) < 1000000007 by decide), _, e1, _, _, rfl, rfl, by omega, ?_⟩⟩
  exact h _ _ _ _ _ (Int.emod_nonneg _ (by omega)) (Int.emod_lt_of_pos _ (by omega)) S But.refl
theorem end_ok {Q : VK} {nx : L2.St → Hp → Prop} {σ : L2.St} {H : Hp} {p q : Addr} {a n t m : Int} {L : List Int} (S : Stm H p q L a n t) (s0 : σ[0]? = some (some (.ref p))) (s1 : σ[1]? = some (some (.int m))) (sl : σ.length = 5)
    (hn : n ≤ 100000) (hm : 1 ≤ m) (hm2 : m ≤ 1000)
    (h : ∀ (r : Int) (G : Hp) (L' : List Int) (a' t' : Int), 0 ≤ r → r < m → Stm G p q L' a' n t' → But p q H G → Q (.int r) G) : dEnd K { nx := nx, rt := Q } σ H := by
  have n0 := S.n0
  have t0 := S.t0
  have t1 := S.t1
  have a0 := S.a0
  refine ixr (j := 1) s0 S.hp rfl rfl ⟨_, _, rfl, rfl, _, rfl, ?_⟩
  by_cases ha : 0 < a
  · rw [decide_eq_true ha]
    refine iteT ?_
    have e0 : (σ.set 3 (some (V.int (a % m))))[0]? = some (some (.ref p)) := by rw [List.getElem?_set_ne (by decide)]; exact s0
    have e1 : (σ.set 3 (some (V.int (a % m))))[1]? = some (some (.int m)) := by rw [List.getElem?_set_ne (by decide)]; exact s1
    have e3 : (σ.set 3 (some (V.int (a % m))))[3]? = some (some (.int (a % m))) := List.getElem?_set_self (by omega)
    refine ixr (j := 1) s0 S.hp rfl rfl (.inl ⟨_, rfl, _, s1, _, _, rfl, rfl, by omega, ?_⟩)
    refine ixr (j := 1) e0 S.hp rfl rfl ⟨_, e1, _, _, rfl, rfl, ⟨by omega, by omega⟩, ?_⟩
    refine setr (j := 1) e0 S.hp rfl (by show 1 < 4; omega) ⟨_, e3, ?_⟩
    exact h _ _ _ _ _ (Int.emod_nonneg a (by omega)) (Int.emod_lt_of_pos a (by omega)) (S.put (a' := a.fdiv m) (n' := n) (t' := t) (by rw [Int.fdiv_eq_ediv_of_nonneg _ (by omega)]; exact Int.ediv_nonneg a0 (by omega)) n0 t0 t1) But.l
  · rw [decide_eq_false ha]
    refine iteF ?_
    refine ixr (j := 3) s0 S.hp rfl rfl ?_
    refine ixr (j := 2) s0 S.hp rfl rfl ⟨_, _, rfl, rfl, .inl ⟨by decide, by decide⟩, _, _, rfl, rfl, _, _, rfl, rfl, _, _, rfl, rfl, ⟨by decide, by decide, by omega⟩, .inl ⟨_, rfl, _, _, rfl, rfl, (show (0 : Int) < 2147483629 by decide), ?_⟩⟩
    exact fin_ok S s0 s1 sl hn hm hm2 (Int.emod_nonneg _ (by decide)) (Int.emod_lt_of_pos _ (by decide)) h
theorem all_ok (vs : List V) (H : Hp) (Q : VK) (E : XK) (hs : spDraw vs H Q E) : dAll K { nx := fun _ H' => Q .non H', rt := Q } (L2.start ["_law_stream", "_law_many", "_law_cell", "_law_digit", "_law_mixed_here"] vs) H := by
  obtain ⟨p, q, L, a, n, t, m, rfl, S, hn, hm, hm2, k⟩ := hs
  -- one more was drawn
  refine ixr (j := 2) rfl S.hp rfl rfl ⟨_, _, rfl, rfl, ?_⟩
  refine setr (j := 2) rfl S.hp rfl (by show 2 < 4; omega) ?_
  have S1 := S.put (a' := a) (n' := n + 1) (t' := t) S.a0 (by have := S.n0; omega) S.t0 S.t1
  refine while_by (fun σ G => ∃ L' a' t', Stm G p q L' a' (n + 1) t' ∧ But p q H G ∧ σ[0]? = some (some (.ref p)) ∧ σ[1]? = some (some (.int m)) ∧ σ.length = 5)
    (fun _ G => match G q with | some (.lst xs) => xs.length | _ => 0) ⟨L, a, t, S1, But.l, rfl, rfl, rfl⟩ ?_ ?_
  · rintro σ G ⟨L', a', t', Z, B, s0, s1, sl⟩
    have fin : ∀ (G' : Hp) (L2 : List Int), Stm G' p q L2 a' (n + 1) t' → But p q H G' → dEnd K { nx := fun _ H' => Q .non H', rt := Q } σ G' := fun G' L2 Z' B' =>
      end_ok Z' s0 s1 sl (by omega) hm hm2 fun r G2 L3 a3 t3 r0 r1 z b => k r G2 L3 a3 t3 r0 r1 z (B'.trans b)
    refine ixr (j := 1) s0 Z.hp rfl rfl ⟨rfl, _, rfl, ?_⟩
    by_cases ha : a' = 0
    · subst ha
      rw [decide_eq_true (rfl : V.int 0 = V.int 0)]
      refine iteT ?_
      refine ixr (j := 0) s0 Z.hp rfl rfl ⟨Nat.zero_le _, fun l hl => ?_⟩
      have Zl := Z.ext (Ex.new (o := .lst []) hl)
      have Bl : But p q H (upd G l (.lst [])) := B.trans (But.of (Ex.new hl))
      refine ⟨.list (L'.map PyData.int), .list [], .lst (SqL.of Zl.hq) (dp_ints L'), .lst (SqL.of upd_same) .nil, shaped_ints L', by decide +kernel, _, rfl, ?_⟩
      cases L' with
      | nil =>
        refine iteF ?_
        exact fin _ [] Zl Bl
      | cons c L' =>
        refine iteT ?_
        refine turn_ok Zl s0 sl fun G2 a2 t2 z b => ⟨⟨L', a2, t2, z, Bl.trans b, by rw [List.getElem?_set_ne (by decide)]; exact s0, by rw [List.getElem?_set_ne (by decide)]; exact s1, by simpa using sl⟩, ?_⟩
        rw [z.hq, Z.hq]
        simp
    · rw [decide_eq_false (fun z => ha (V.int.inj z))]
      exact iteF (fin _ L' Z B)
  · rintro σ G Q1 Q2 hq h
    obtain ⟨v, e1, p1, xs, i, z, y1, y2, y3, y4, y5, kk, y6, h⟩ := h
    refine ⟨v, e1, p1, xs, i, z, y1, y2, y3, y4, y5, kk, y6, ?_⟩
    cases kk with
    | false =>
      rw [if_neg Bool.false_ne_true] at h ⊢
      exact hq _ _ h
    | true =>
      rw [if_pos rfl] at h ⊢
      obtain ⟨v, e1, p1, xs, i, z, y1, y2, y3, y4, y5, y6⟩ := h
      refine ⟨v, e1, p1, xs, i, z, y1, y2, y3, y4, y5, fun l n => ?_⟩
      obtain ⟨d, e, d1, d2, d3, d4, k2, y, z⟩ := y6 l n
      exact ⟨d, e, d1, d2, d3, d4, k2, y, hq _ _ z⟩
end
section
variable {P : Program} {w : World} {K : PySem.W.Frag} {mg : Str → Option Value} {base : Heap}
theorem ok_draw {f : Addr} {fd : FuncData} (F : FnP K "_law_draw" s__law_draw f fd) (mI : mg "int" = none) : FnOk P w K mg base CX0 1 f fd ["_law_stream", "_law_many"] spDraw := by
  refine F.ok scD (fun vs H Q E h => ?_) (fun cdv A outer s H vs Q E hr h => ⟨dAll K, PSs.nox ?_, all_ok vs H Q E h⟩)
  · obtain ⟨p, q, L, a, n, t, m, rfl, _⟩ := h
    rfl
  · exact pss_cons (ps_asg (pe_op op_add (pe_ix ix_list (pv 0) pe_int (fun _ _ => rfl)) pe_int) (pg_sub (pv 0) pe_int set_list))
      (pss_cons (ps_while PassesOwn.never (PW.pt (pw_and (pt_cmpR op_eq (pe_ix ix_list (pv 0) pe_int (fun _ _ => rfl)) pe_int (nomark _))
          (pw_and1 (pt_cmpR (op_neD hr.units) (pe_ix ix_list (pv 0) pe_int (fun _ _ => rfl)) (pe_lst pa_nil) (nomark _)))))
        (pss_cons (ps_set (i := 2) scD.nd rfl (.inl rfl) (pe_bm PySem.F.plainAttrs_list PySem.F.slot_list_pop PySem.F.type_list_pop mt_popAt (pe_ix ix_list (pv 0) pe_int (fun _ _ => rfl)) (pa_cons pe_int pa_nil)))
        (pss_cons (ps_asg (pe_op op_mod (pe_callTy call_int1 (by rfl) mI PySem.Pv.boot_int (pa_cons (pe_op op_add (pe_op op_add (pe_op op_mul (pe_ix ix_list (pv 0) pe_int (fun _ _ => rfl)) pe_int) (pv 2)) pe_int) pa_nil)) pe_int)
          (pg_sub (pv 0) pe_int set_list))
        (pss_one (ps_asg (pe_ifExp (pt_cmpR op_ge (pv 2) (pe_op op_pow pe_int pe_int) (nomark _)) (pv 2) pe_int) (pg_sub (pv 0) pe_int set_list))))))
      (pss_cons (ps_if (pt_cmpR op_gt (pe_ix ix_list (pv 0) pe_int (fun _ _ => rfl)) pe_int (nomark _))
        (pss_cons (ps_set (i := 3) scD.nd rfl (.inl rfl) (pe_op op_mod (pe_callTy call_int1 (by rfl) mI PySem.Pv.boot_int (pa_cons (pe_ix ix_list (pv 0) pe_int (fun _ _ => rfl)) pa_nil)) (pv 1)))
        (pss_cons (ps_asg (pe_op op_fdivN (pe_ix ix_list (pv 0) pe_int (fun _ _ => rfl)) (pv 1)) (pg_sub (pv 0) pe_int set_list))
        (pss_one (ps_ret (pv 3))))) pss_nil)
      (pss_cons (ps_set (i := 4) scD.nd rfl (.inl rfl) (pe_op op_mod (pe_callTy call_int1 (by rfl) mI PySem.Pv.boot_int (pa_cons (pe_op op_pow (pe_op op_add (pe_op op_add (pe_ix ix_list (pv 0) pe_int (fun _ _ => rfl))
          (pe_op op_mul pe_int (pe_ix ix_list (pv 0) pe_int (fun _ _ => rfl)))) pe_int) pe_int) pa_nil)) pe_int))
      (pss_one (ps_ret (pe_op op_mod (pe_op op_mod (pe_callTy call_int1 (by rfl) mI PySem.Pv.boot_int (pa_cons (pe_op op_pow (pe_op op_add (pe_op op_add (pe_op op_mul (pv 4) pe_int)
          (pe_op op_mul pe_int (pe_ix ix_list (pv 0) pe_int (fun _ _ => rfl)))) pe_int) pe_int) pa_nil)) pe_int) (pv 1)))))))
end
end K17

set_option Elab.async false
set_option linter.all false
set_option maxRecDepth 100000
set_option maxHeartbeats 4000000
/-! Draws: start, pick, mixed. -/
namespace K17
open PySem PySem.Spec PyProof.Rows L2 Evl
/-- the spring at p, its cells at q, n drawn -/
def Spr (H : Hp) (p q : Addr) (n : Int) : Prop := ∃ L a t, Stm H p q L a n t
theorem Spr.ext {H G : Hp} {p q : Addr} {n : Int} (e : Ex H G) (h : Spr H p q n) : Spr G p q n := let ⟨L, a, t, s⟩ := h; ⟨L, a, t, s.ext e⟩
theorem Spr.keep {H G : Hp} {p q : Addr} {n : Int} (h : Spr H p q n) (e1 : ∀ o, H p = some o → G p = some o) (e2 : ∀ o, H q = some o → G q = some o) : Spr G p q n := let ⟨L, a, t, s⟩ := h; ⟨L, a, t, e1 _ s.hp, e2 _ s.hq, s.ne, s.a0, s.n0, s.t0, s.t1⟩
theorem Spr.lst {H : Hp} {p q : Addr} {n : Int} (h : Spr H p q n) : ∃ xs ys, H p = some (.lst xs) ∧ H q = some (.lst ys) := let ⟨L, a, t, s⟩ := h; ⟨_, _, s.hp, s.hq⟩
section
variable {P : Program} {w : World} {K : PySem.W.Frag} {mg : Str → Option Value} {base : Heap} {C : Addr}
def spDr : Sp := fun vs H Q _ => ∃ (p q : Addr) (n m : Int), vs = [.ref p, .int m] ∧ Spr H p q n ∧ n < 100000 ∧ 1 ≤ m ∧ m ≤ 1000 ∧
  ∀ (r : Int) (G : Hp), 0 ≤ r → r < m → Spr G p q (n + 1) → But p q H G → Q (.int r) G
theorem ok_dr (T : T17 P w K mg base) : Ok P w K mg base CX0 "_law_draw" ["_law_stream", "_law_many"] 1 spDr := by
  obtain ⟨⟨fd, F⟩, m⟩ := T.df 10 "_law_draw" s__law_draw rfl
  have G := ok_draw (P := P) (w := w) (mg := mg) (base := base) F T.int
  refine ⟨_, fd, ?_, F.bindsN fun kV doc pm an cdv ct us hl => match us, hl with | [_, _], _ => rfl, F.kp, m⟩
  exact FnOk.imp G fun vs H Q E ⟨p, q, n, m, h1, ⟨L, a, t, S⟩, h2, h3, h4, k⟩ => ⟨p, q, L, a, n, t, m, h1, S, h2, h3, h4, fun r G L' a' t' r0 r1 S' B => k r G r0 r1 ⟨L', a', t', S'⟩ B⟩
def spStart (K : PySem.W.Frag) : Sp := fun vs H Q _ => ∃ (a : Addr) (ns : List Int), vs = [.ref a] ∧ SqL K H a (ns.map V.int) ∧ ∀ p q G, H p = none → H q = none → Ex H G → Spr G p q 0 → Q (.ref p) G
theorem sc_start : FnScope ["_law_script"] ["_law_script"] (defScope s__law_start) := ⟨rfl, rfl, rfl, by decide +kernel, rfl, by decide +kernel, by decide +kernel⟩
theorem ok_start (T : T17 P w K mg base) : Ok P w K mg base CX0 "_law_start" ["_law_script"] 1 (spStart K) := by
  refine T.ok 9 rfl sc_start (fun vs H Q E h => ?_) (fun kV doc pm an cdv ct us hl => match us, hl with | [_], _ => rfl) (fun f cdv A outer s H vs Q E hr h => ?_)
  · obtain ⟨a, ns, rfl, _⟩ := h
    rfl
  · obtain ⟨a, ns, rfl, hS, k⟩ := h
    refine ⟨_, pss_one (ps_ret (pe_lst (pa_cons (pe_callTy call_list_of (by rfl) T.list PyProof.Rows.boot_list (pa_cons (pv 0) pa_nil)) (pa_cons pe_int (pa_cons pe_int (pa_cons pe_int pa_nil)))))), ?_⟩
    refine ⟨_, rfl, a, _, rfl, .inl hS, fun l nl => ⟨by show 4 ≤ sizeLine; rw [sizeLine_eq]; omega, fun p np => ?_⟩⟩
    have ne : l ≠ p := fun z => by
      rw [z, upd_same] at np
      cases np
    exact k p l _ (fresh_back (Ex.new nl) np) nl ((Ex.new nl).trans (Ex.new np)) ⟨ns, 0, 11, upd_same, by rw [upd_ne ne, upd_same], ne.symm, Int.le_refl _, Int.le_refl _, by decide, by decide⟩
def spPick (K : PySem.W.Frag) : Sp := fun vs H Q _ => ∃ (p q c : Addr) (n : Int) (xs : List V), vs = [.ref p, .ref c] ∧ Spr H p q n ∧ n < 100000 ∧ H c = some (.lst xs) ∧ c ≠ p ∧ c ≠ q ∧ xs ≠ [] ∧ xs.length ≤ 1000 ∧
  ∀ (y : V) (G : Hp), y ∈ xs → Spr G p q (n + 1) → But p q H G → Q y G
theorem sc_pick : FnScope ["_law_stream", "_law_some"] ["_law_stream", "_law_some"] (defScope s__law_pick) := ⟨rfl, rfl, rfl, by decide +kernel, rfl, by decide +kernel, by decide +kernel⟩
theorem ok_pick (T : T17 P w K mg base) : Ok P w K mg base CX0 "_law_pick" ["_law_stream", "_law_some"] 2 (spPick K) := by
  obtain ⟨fD, dD, GD, bD, kD, mD⟩ := (ok_dr T).ex
  refine T.ok 11 rfl sc_pick (fun vs H Q E h => ?_) (fun kV doc pm an cdv ct us hl => match us, hl with | [_, _], _ => rfl) (fun f cdv A outer s H vs Q E hr h => ?_)
  · obtain ⟨p, q, c, n, xs, rfl, _⟩ := h
    rfl
  · obtain ⟨p, q, c, n, xs, rfl, S, hn, hc, n1, n2, hne, hl, k⟩ := h
    refine ⟨_, pss_one (ps_ret (pe_ix ix_list (pv 1) (pe_call GD hr (by rfl) mD kD bD .nil pass0 (pa_cons (pv 0) (pa_cons (pe_callB call_len (by rfl) T.len PySem.boot_len (pa_cons (pv 1) pa_nil)) pa_nil))) (fun _ _ => rfl))), ?_⟩
    have hpos : 0 < xs.length := List.length_pos_iff.mpr hne
    refine ⟨_, rfl, _, rfl, _, rfl, _, xs.length, rfl, .inl ⟨xs, sq_of hc, rfl⟩, p, q, n, _, rfl, S, hn, by omega, by omega, fun r G r0 r1 S' B => ?_⟩
    obtain ⟨j, rfl⟩ : ∃ j : Nat, r = (j : Int) := ⟨r.toNat, by omega⟩
    have hj : j < xs.length := by omega
    exact ⟨c, xs, _, xs[j], rfl, rfl, sq_of (B _ _ n1 n2 hc), atI_nat (by simp [hj]), k _ G (List.getElem_mem _) S' B⟩
end
end K17

set_option Elab.async false
set_option linter.all false
set_option maxRecDepth 100000
set_option maxHeartbeats 4000000
/-! Drawn words: what holds of them. -/
namespace K17
open PySem PySem.Spec PyProof.Rows L2 Evl
mutual
def W.nd : W → Nat
  | .v _ => 1
  | .n _ as => W.nds as + 1
def W.nds : List W → Nat
  | [] => 0
  | x :: xs => x.nd + W.nds xs
end
mutual
theorem W.sz_nd : ∀ w : W, w.sz ≤ 2 * w.nd
  | .v _ => by show 1 ≤ 2 * 1; decide
  | .n _ as => by have := W.szs_nd as; show W.szs as + 2 ≤ 2 * (W.nds as + 1); omega
theorem W.szs_nd : ∀ ws : List W, W.szs ws ≤ 2 * W.nds ws
  | [] => Nat.le_refl _
  | x :: xs => by have h1 := W.sz_nd x; have h2 := W.szs_nd xs; show x.sz + W.szs xs ≤ 2 * (x.nd + W.nds xs); omega
end
theorem strips_len (xs : List O) : (O.strips xs).length = xs.length := by rw [strips_eq, List.length_map]
theorem os_len (as : List W) : (W.os as).length = as.length := by rw [W.os_map, List.length_map]
end K17

set_option Elab.async false
set_option linter.all false
set_option maxRecDepth 100000
set_option maxHeartbeats 4000000
/-! Words drawn. -/
namespace K17
open PySem PySem.Spec PyProof.Rows L2 Evl
theorem But.tx {p q : Addr} {H G : Hp} (B : But p q H G) (hp : ∃ xs, H p = some (.lst xs)) (hq : ∃ xs, H q = some (.lst xs)) : Tx H G := fun a xs h => B _ _ (fun z => by
  obtain ⟨ys, e⟩ := hp
  rw [z, e] at h
  cases h) (fun z => by
  obtain ⟨ys, e⟩ := hq
  rw [z, e] at h
  cases h) h
theorem Spr.tx {p q : Addr} {H G : Hp} {n : Int} (S : Spr H p q n) (B : But p q H G) : Tx H G := by
  obtain ⟨xs, ys, h1, h2⟩ := S.lst
  exact B.tx ⟨_, h1⟩ ⟨_, h2⟩
theorem Spr.nep {p q : Addr} {H : Hp} {n : Int} (S : Spr H p q n) {a : Addr} (h : H a = none) : a ≠ p ∧ a ≠ q := by
  obtain ⟨xs, ys, h1, h2⟩ := S.lst
  exact ⟨(ne_of_none h1 h).symm, (ne_of_none h2 h).symm⟩
section
variable {K : PySem.W.Frag} {σ : L2.St} {H : Hp} {te ta tb : TE}
def AllP (R : V → Hp → Prop) (m : Nat) (xs : List V) (G : Hp) : Prop := xs.length ≤ m ∧ ∀ y ∈ xs, R y G
theorem elp_cat {P1 P2 : List V → Hp → Prop} (ha : EvLP ta σ H P1) (hb : EvLP tb σ H P2) (u1 : ∀ xs, Up (P1 xs)) (u2 : ∀ xs, Up (P2 xs)) (hl : ∀ xs ys G, P1 xs G → P2 ys G → xs.length + ys.length ≤ 100000) :
    EvLP (tOp rCat ta tb) σ H (fun zs G => ∃ xs ys, zs = xs ++ ys ∧ P1 xs G ∧ P2 ys G) := fun H1 e Q q =>
  ha H1 e _ fun p1 xs H2 n1 e2 h1 q1 => hb H2 (e.trans e2) _ fun p2 ys H3 n2 e3 h2 q2 => ⟨p1, p2, xs, ys, rfl, rfl, e3 _ _ h1, h2, sz_of (hl _ _ _ (u1 _ _ _ e3 q1) q2),
    fun p hp => q p (xs ++ ys) _ (fresh_back (e2.trans e3) hp) ((e2.trans e3).trans (Ex.new hp)) upd_same ⟨xs, ys, rfl, u1 _ _ _ (e3.trans (Ex.new hp)) q1, u2 _ _ _ (Ex.new hp) q2⟩⟩
theorem EvLP.of {xs : List V} (h : EvL te σ H xs) : EvLP te σ H (fun ys _ => ys = xs) := fun H1 e Q q => h H1 e _ fun p H2 n e2 h2 => q p xs H2 n e2 h2 rfl
theorem EvLP.imp {P1 P2 : List V → Hp → Prop} (h : EvLP te σ H P1) (k : ∀ xs G, Ex H G → P1 xs G → P2 xs G) : EvLP te σ H P2 := fun H1 e Q q => h H1 e _ fun p xs H2 n e2 h2 h3 => q p xs H2 n e2 h2 (k xs H2 (e.trans e2) h3)
/-- a constant's word, in a list alone -/
theorem elp_c1 {s : Str} : EvLP (tLst (tCons (tTup (tCons (tC (.str s)) tNil)) tNil)) σ H (fun xs G => ∃ y, xs = [y] ∧ WV G y (.n s [])) := fun H1 e Q q =>
  ⟨by show 1 ≤ sizeLine; decide, fun t ht => ⟨by show 1 ≤ sizeLine; decide, fun p hp => q p _ _ (fresh_back (Ex.new ht) hp) ((Ex.new ht).trans (Ex.new hp)) upd_same ⟨_, rfl, WV.of (us := []) (Ex.new hp _ _ upd_same) rfl⟩⟩⟩
theorem elp_c2 {s1 s2 : Str} : EvLP (tLst (tCons (tTup (tCons (tC (.str s1)) tNil)) (tCons (tTup (tCons (tC (.str s2)) tNil)) tNil))) σ H (fun xs G => ∃ y1 y2, xs = [y1, y2] ∧ WV G y1 (.n s1 []) ∧ WV G y2 (.n s2 [])) := fun H1 e Q q =>
  ⟨by show 1 ≤ sizeLine; decide, fun t ht => ⟨by show 1 ≤ sizeLine; decide, fun t2 ht2 => ⟨by show 2 ≤ sizeLine; decide, fun p hp => q p _ _ (fresh_back ((Ex.new ht).trans (Ex.new ht2)) hp) (((Ex.new ht).trans (Ex.new ht2)).trans (Ex.new hp)) upd_same
    ⟨_, _, rfl, WV.of (us := []) (((Ex.new ht2).trans (Ex.new hp)) _ _ upd_same) rfl, WV.of (us := []) (Ex.new hp _ _ upd_same) rfl⟩⟩⟩⟩
theorem elp_rep {P : List V → Hp → Prop} {k : Int} (ha : EvLP ta σ H P) (u : ∀ xs, Up (P xs)) (hb : Ev tb σ H (.int k)) (hk : 0 ≤ k ∧ k ≤ 1) (hl : ∀ xs G, P xs G → xs.length ≤ 1000) : EvLP (tOp rRep ta tb) σ H (fun zs G => zs = [] ∨ P zs G) := fun H1 e Q q =>
  ha H1 e _ fun p1 xs H2 n1 e2 h1 q1 => hb H2 (e.trans e2) _ fun H3 e3 => by
    have q3 := u _ _ _ e3 q1
    have hz : xs.length * k.toNat ≤ 1000 := by
      have h2 := hl _ _ q3
      have h3 : k.toNat ≤ 1 := by omega
      calc xs.length * k.toNat ≤ xs.length * 1 := Nat.mul_le_mul_left _ h3
        _ ≤ 1000 := by omega
    refine ⟨p1, k, xs, rfl, rfl, e3 _ _ h1, by omega, by omega, sz_of (by omega), fun p hp => q p _ _ (fresh_back (e2.trans e3) hp) ((e2.trans e3).trans (Ex.new hp)) upd_same ?_⟩
    rcases (by omega : k = 0 ∨ k = 1) with rfl | rfl
    · exact .inl rfl
    · right
      show P (List.replicate 1 xs).flatten _
      simp
      exact u _ _ _ (Ex.new hp) q3
end
end K17

set_option Elab.async false
set_option linter.all false
set_option maxRecDepth 100000
set_option maxHeartbeats 4000000
/-! What is known beside some objects, and beside tables; words handed loosely. -/
namespace K17
open PySem PySem.Spec PyProof.Rows L2 Evl LamX
open Classical in
/-- the heap without the objects of B, without tables -/
noncomputable def Hx (B : Addr → Prop) (H : Hp) : Hp := fun b => if B b then none else match H b with
  | some (.tbl _) => none
  | o => o
theorem hx_of {B : Addr → Prop} {H : Hp} {b : Addr} {o : HO} (n : ¬ B b) (t : ∀ ps, o ≠ .tbl ps) (h : H b = some o) : Hx B H b = some o := by
  unfold Hx
  rw [if_neg n, h]
  split
  · rename_i ps e
    exact absurd (Option.some.inj e) (t ps)
  · rfl
theorem hx_to {B : Addr → Prop} {H : Hp} {b : Addr} {o : HO} (h : Hx B H b = some o) : ¬ B b ∧ (∀ ps, o ≠ .tbl ps) ∧ H b = some o := by
  unfold Hx at h
  by_cases n : B b
  · rw [if_pos n] at h
    cases h
  · rw [if_neg n] at h
    split at h
    · cases h
    · rename_i x hx
      exact ⟨n, fun ps e => hx ps (by rw [h, e]), h⟩
/-- all but the objects of B and the tables stay -/
def Go (B : Addr → Prop) (H G : Hp) : Prop := ∀ b o, ¬ B b → (∀ ps, o ≠ .tbl ps) → H b = some o → G b = some o
theorem Go.ex {B : Addr → Prop} {H G : Hp} (g : Go B H G) : Ex (Hx B H) (Hx B G) := fun b o h => by
  obtain ⟨h1, h2, h3⟩ := hx_to h
  exact hx_of h1 h2 (g b o h1 h2 h3)
theorem hx_ex {B : Addr → Prop} {H : Hp} : Ex (Hx B H) H := fun b o h => (hx_to h).2.2
theorem hx_mono {B B' : Addr → Prop} {H : Hp} (m : ∀ b, B b → B' b) : Ex (Hx B' H) (Hx B H) := fun b o h => by
  obtain ⟨h1, h2, h3⟩ := hx_to h
  exact hx_of (fun z => h1 (m b z)) h2 h3
theorem Go.of {B : Addr → Prop} {H G : Hp} (e : Ex H G) : Go B H G := fun b o _ _ h => e b o h
theorem Go.ofN {B : Addr → Prop} {H G : Hp} (e : ExtN H G) : Go B H G := fun b o _ t h => e b o h t
theorem Go.but {B : Addr → Prop} {p q : Addr} {H G : Hp} (e : But p q H G) (bp : B p) (bq : B q) : Go B H G := fun b o n _ h => e b o (fun z => n (by rw [z]; exact bp)) (fun z => n (by rw [z]; exact bq)) h
theorem Go.trans {B : Addr → Prop} {H G J : Hp} (a : Go B H G) (b : Go B G J) : Go B H J := fun c o n t h => b c o n t (a c o n t h)
theorem Go.upd {B : Addr → Prop} {H : Hp} {p : Addr} {o : HO} (b : B p) : Go B H (upd H p o) := fun c u n _ h => by
  rw [upd_ne (fun z => n (by rw [z]; exact b))]
  exact h
theorem Go.refl {B : Addr → Prop} {H : Hp} : Go B H H := fun _ _ _ _ h => h
theorem Go.new {B : Addr → Prop} {H : Hp} {p : Addr} {o : HO} (n : H p = none) : Go B H (L2.upd H p o) := Go.of (Ex.new n)
def Old (H : Hp) (b : Addr) : Prop := ∃ xs, H b = some (.lst xs)
theorem Old.ex {H G : Hp} (e : Ex H G) {b : Addr} (h : Old H b) : Old G b := by
  obtain ⟨xs, h⟩ := h
  exact ⟨xs, e _ _ h⟩
theorem Old.but {p q : Addr} {H G : Hp} {n : Int} (B : But p q H G) (S : Spr G p q n) {b : Addr} (h : Old H b) : Old G b := by
  obtain ⟨xs, ys, h1, h2⟩ := S.lst
  by_cases e1 : b = p
  · exact ⟨xs, by rw [e1]; exact h1⟩
  · by_cases e2 : b = q
    · exact ⟨ys, by rw [e2]; exact h2⟩
    · obtain ⟨zs, h⟩ := h
      exact ⟨zs, B _ _ e1 e2 h⟩
theorem Spr.old {p q : Addr} {H : Hp} {n : Int} (S : Spr H p q n) : Old H p ∧ Old H q := by
  obtain ⟨xs, ys, h1, h2⟩ := S.lst
  exact ⟨⟨_, h1⟩, ⟨_, h2⟩⟩
theorem not_old {H : Hp} {b : Addr} (h : H b = none) : ¬ Old H b := fun ⟨xs, e⟩ => by
  rw [h] at e
  cases e
theorem But.back {p q : Addr} {H G : Hp} {n : Int} (B : But p q H G) (S : Spr G p q n) {a : Addr} (h : G a = none) : H a = none := by
  obtain ⟨a1, a2⟩ := S.nep h
  cases e : H a with
  | none => rfl
  | some o =>
    have := B a o a1 a2 e
    rw [h] at this
    cases this
theorem asg_opL {σ : L2.St} {H : Hp} {D : Ends} {tz : TS} {r : R2} {ta tb : TE} {xs : List V} {g : TG} (h : EvL ta σ H xs) (k : ∀ p H1, H p = none → Ex H H1 → H1 p = some (.lst xs) → tb σ H1 (fun y H2 => r (.ref p) y H2 (fun x H3 => g x σ H3 (tz D)))) : tSeq (tAsg (tOp r ta tb) g) tz D σ H := h H (Ex.refl H) _ k
theorem lst_tbl {xs : List V} : ∀ ps, HO.lst xs ≠ .tbl ps := fun _ z => nomatch z
theorem tup_tbl {xs : List V} : ∀ ps, HO.tup xs ≠ .tbl ps := fun _ z => nomatch z
end K17

set_option Elab.async false
set_option linter.all false
set_option maxRecDepth 100000
set_option maxHeartbeats 4000000
/-! Data the same. -/
namespace K17
open PySem PySem.Spec PyProof.Rows L2 Evl
mutual
def O.dq : O → Nat
  | .non => 0 | .bl _ => 0 | .int _ => 0 | .str _ => 0 | .dct => 2 | .lst xs => O.dqs xs + 1 | .tup xs => O.dqs xs + 1
def O.dqs : List O → Nat
  | [] => 0
  | x :: xs => max x.dq (O.dqs xs)
end
theorem dqs_le : ∀ {xs : List O} {i : Nat} {x : O}, xs[i]? = some x → x.dq ≤ O.dqs xs
  | [], _, _, e => by simp at e
  | a :: as, 0, x, e => by
    obtain rfl : a = x := by simpa using e
    exact Nat.le_max_left _ _
  | a :: as, i + 1, x, e => Nat.le_trans (dqs_le (xs := as) (i := i) (by simpa using e)) (Nat.le_max_right _ _)
theorem szs_le : ∀ {xs : List O} {i : Nat} {x : O}, xs[i]? = some x → x.sz ≤ O.szs xs
  | [], _, _, e => by simp at e
  | a :: as, 0, x, e => by
    obtain rfl : a = x := by simpa using e
    exact Nat.le_add_right _ _
  | a :: as, i + 1, x, e => Nat.le_trans (szs_le (xs := as) (i := i) (by simpa using e)) (Nat.le_add_left _ _)
section
variable {P : Program} {w : World} {K : PySem.W.Frag} {mg : Str → Option Value} {base : Heap}
theorem all_true (n : Nat) : (List.replicate n true).all id = true := by
  induction n with
  | zero => rfl
  | succ n ih => rw [List.replicate_succ, List.all_cons, ih]; rfl
def spSa (m : Nat) : Sp := fun vs H Q _ => ∃ u v o, vs = [u, v] ∧ OV H u o ∧ OV H v o ∧ o.dq < m ∧ m ≤ 40 ∧ o.sz ≤ 40000 ∧ RetV (.bl true) H Q
theorem spv_sa {m : Nat} {u v : V} {o : O} {H : Hp} (h1 : OV H u o) (h2 : OV H v o) (hd : o.dq < m) (hm : m ≤ 40) (hs : o.sz ≤ 40000) : SpV (spSa m) ([u, v] ++ []) H (.bl true) := fun H1 e Q q E => ⟨u, v, o, rfl, h1.ext e, h2.ext e, hd, hm, hs, q⟩
abbrev nSa : List Str := ["_law_found", "_law_due", "_law_x", "_law_y"]
theorem sc_sa : FnScope nSa ["_law_found", "_law_due"] (defScope s__law_same) := ⟨rfl, rfl, rfl, by decide +kernel, rfl, by decide +kernel, by decide +kernel⟩
theorem boot_dict23 : bootBuiltins "dict" = some (.type "dict") := by decide +kernel
theorem kit_four (o : O) : PySem.W.kitAny K (.type o.ty) (["int", "list", "tuple", "dict"].map Value.type) = some (o.isInt || (o.isLst || (o.isTup || o.isDct))) := by
  refine kitAny_cons (b := o.isInt) (kit_ty (kit_int o)) (fun h1 => ?_) fun h1 => by rw [h1]; rfl
  rw [h1, Bool.false_or]
  refine kitAny_cons (b := o.isLst) (kit_ty (kit_lst o)) (fun h2 => ?_) fun h2 => by rw [h2]; rfl
  rw [h2, Bool.false_or]
  refine kitAny_cons (b := o.isTup) (kit_ty (kit_tup o)) (fun h3 => ?_) fun h3 => by rw [h3]; rfl
  rw [h3, Bool.false_or]
  refine kitAny_cons (b := o.isDct) (kit_ty (kit_dct o)) (fun h4 => ?_) fun h4 => by rw [h4]
  rw [h4]
  exact kitAny_nil
theorem ok_same (T : T17 P w K mg base) : ∀ m, Ok P w K mg base CX0 "_law_same" ["_law_found", "_law_due"] (m + 1) (spSa m)
  | 0 => T.ok 13 rfl sc_sa (fun vs H Q E h => by obtain ⟨u, v, o, rfl, _⟩ := h; rfl) (fun kV doc pm an cdv ct us hl => match us, hl with | [_, _], _ => rfl) (fun f cdv A outer s H vs Q E hr h => by obtain ⟨u, v, o, _, _, _, h0, _⟩ := h; exact absurd h0 (Nat.not_lt_zero _))
  | m + 1 => by
    obtain ⟨fR, dR, GR, bR, kR, mR⟩ := (ok_same T m).ex
    refine T.ok 13 rfl sc_sa (fun vs H Q E h => ?_) (fun kV doc pm an cdv ct us hl => match us, hl with | [_, _], _ => rfl) (fun f cdv A outer s H vs Q E hr h => ?_)
    · obtain ⟨u, v, o, rfl, _⟩ := h
      rfl
    · obtain ⟨u, v, o, rfl, hu, hv, hd, hm, hs, k⟩ := h
      refine ⟨_, pss_cons (ps_if (pt_val (pe_isiLT T.isi T.list T.tuple (pv 1)))
          (pss_cons (ps_if (PW.pt (pw_or (pt_cmpR op_ne (pe_isiB T.isi T.list PyProof.Rows.boot_list (pv 0)) (pe_isiB T.isi T.list PyProof.Rows.boot_list (pv 1)) (nomark _)) (pw_or1 (pt_cmpR op_ne (pe_isiB T.isi T.tuple PyProof.Rows.boot_tuple (pv 0)) (pe_isiB T.isi T.tuple PyProof.Rows.boot_tuple (pv 1)) (nomark _))))) (pss_one ps_never) pss_nil)
          (pss_one (ps_ret (pe_and (pe_cmpR op_eq (pe_callB call_len (by rfl) T.len PySem.boot_len (pa_cons (pv 0) pa_nil)) (pe_callB call_len (by rfl) T.len PySem.boot_len (pa_cons (pv 1) pa_nil)) (nomark _))
            (pe_one (pe_callB (cr_all rfl) (by rfl) T.all (by decide +kernel) (pa_cons (pe_lc (own := [("_law_x", 2), ("_law_y", 3)]) (g := gPair K 2 3) (tt := tYes) (te := tCall (spSa m) [] E0 (tCons (tVar 2) (tCons (tVar 3) tNil))) rfl sc_sa.nd (RZ.pi_zipA (by rfl) T.zip (pa_cons (pv 0) (pa_cons (pv 1) pa_nil))) (blkOk_by (N := nSa) (sc := defScope s__law_same) (by decide +kernel))
              (fun _ _ _ _ _ => pg_tup rfl (pgs_cons (pg_name (i := 2) sc_sa.nd rfl (Or.inl rfl)) (pgs_cons (pg_name (i := 3) sc_sa.nd rfl (Or.inl rfl)) pgs_nil))) (fun _ _ _ _ _ => pts_nil) (fun _ _ _ _ _ => pe_call GR hr (by rfl) mR kR bR .nil pass0 (pa_cons (pv 2) (pa_cons (pv 3) pa_nil)))) pa_nil)))))))
          pss_nil)
        (pss_cons (ps_if (pt_val (pe_isiB T.isi T.dict boot_dict23 (pv 1))) (pss_one (ps_ret (pe_and (pe_isiB T.isi T.dict boot_dict23 (pv 0))
            (pe_one (pe_call GR hr (by rfl) mR kR bR .nil pass0 (pa_cons (LiI.pe_listItems rfl (pv 0) (by rfl) T.list PyProof.Rows.boot_list) (pa_cons (LiI.pe_listItems rfl (pv 1) (by rfl) T.list PyProof.Rows.boot_list) pa_nil))))))) pss_nil)
        (pss_cons (ps_if (pt_val (pe_isiB T.isi T.int PyProof.Rows.boot_int (pv 1))) (pss_one (ps_ret (pe_and (pe_isiB T.isi T.int PyProof.Rows.boot_int (pv 0)) (pe_and (pe_cmpR op_eq (pe_isiB T.isi T.bool PyProof.Rows.boot_bool (pv 0)) (pe_isiB T.isi T.bool PyProof.Rows.boot_bool (pv 1)) (nomark _))
            (pe_one (pe_cmpR op_eq (pv 0) (pv 1) (nomark _))))))) pss_nil)
        (pss_one (ps_ret (pe_and (pe_not (pe_callB call_isiT (by rfl) T.isi PyProof.Rows.boot_isinstance (pa_cons (pv 0) (pa_cons (pe_tup (pa_cons (pe_bltn (v := .ty "int") (by rfl) T.int PyProof.Rows.boot_int rfl) (pa_cons (pe_bltn (v := .ty "list") (by rfl) T.list PyProof.Rows.boot_list rfl) (pa_cons (pe_bltn (v := .ty "tuple") (by rfl) T.tuple PyProof.Rows.boot_tuple rfl) (pa_cons (pe_bltn (v := .ty "dict") (by rfl) T.dict (by decide +kernel) rfl) pa_nil))))) pa_nil))))
          (pe_one (pe_cmpR op_eq (pv 0) (pv 1) (nomark _)))))))), ?_⟩
      have huo := hu
      have hvo := hv
      cases hq : o.isLst || o.isTup with
      | true =>
        obtain ⟨b, xs, rfl⟩ := O.seq_of hq
        obtain ⟨a1, us, rfl, ha1, hus⟩ := hu.seq
        obtain ⟨a2, ws, rfl, ha2, hws⟩ := hv.seq
        have sq1 : SqB H b a1 us := ha1
        have sq2 : SqB H b a2 ws := ha2
        have hul := hus.length
        have hwl := hws.length
        rw [O.seq_sz] at hs
        have hxl := O.len_szs xs
        have hdq : O.dqs xs < m := by
          have : (O.seq b xs).dq = O.dqs xs + 1 := by cases b <;> rfl
          omega
        refine q_if (b := true) (et_is (et_B (ev_isSeq (ev_var rfl) hvo)) hq) (fun _ H1 e1 => ?_) (fun z => nomatch z)
        refine q_when (b := false) (et_is (et_or (a := false) (b := false) (et_is (et_test (ev_op (ev_isLst (ev_var rfl) (huo.ext e1)) (ev_isLst (ev_var rfl) (hvo.ext e1)) rv_neB)) (by simp)) fun _ => et_is (et_test (ev_op (ev_isTup (ev_var rfl) (huo.ext e1)) (ev_isTup (ev_var rfl) (hvo.ext e1)) rv_neB)) (by simp)) rfl) (fun z => nomatch z) fun _ H2 e2 => ?_
        have e02 := e1.trans e2
        have sq12 := sq1.ext e02
        have sq22 := sq2.ext e02
        refine s_ret (ev_andV (a := true) (b := true) (ev_is (ev_op (ev_lenQ (ev_var rfl) sq12) (ev_lenQ (ev_var rfl) sq22) (rv_eq rfl)) (congrArg V.bl (decide_eq_true (by rw [hul, hwl])))) fun _ G1 g1 Q1 q1 => ?_) fun H3 e3 => k H3 (e02.trans e3)
        have turn : ∀ (Dl : Addr) (i : Nat) (x : V) (G G' : Hp), G1 Dl = none → i < us.length → (Ex G1 G ∧ G Dl = some (.lst ((List.replicate i true).map V.bl))) → YPair (fun i => us[i]?) (fun i => ws[i]?) i G x G' → gPair K 2 3 x (wipe [some (.ref a1), some (.ref a2), none, none] [2, 3]) G' fun σ2 H2 => wipe σ2 [2, 3] = wipe [some (.ref a1), some (.ref a2), none, none] [2, 3] ∧ tYes σ2 H2 fun b H3 =>
            if b = true then tCall (spSa m) [] E0 (tCons (tVar 2) (tCons (tVar 3) tNil)) σ2 H3 fun y H4 => ∃ acc, H4 Dl = some (.lst acc) ∧ acc.length < sizeLine ∧ (Ex G1 (upd H4 Dl (.lst (acc ++ [y]))) ∧ (upd H4 Dl (.lst (acc ++ [y]))) Dl = some (.lst ((List.replicate (i + 1) true).map V.bl))) else Ex G1 H3 ∧ H3 Dl = some (.lst ((List.replicate (i + 1) true).map V.bl)) := by
          rintro Dl i x G G' hD hi ⟨c1, c2⟩ ⟨t, x1, x2, rfl, ht, rfl, hx1, hx2⟩
          obtain ⟨y1, hy1, ho1⟩ := hus.get hx1
          obtain ⟨y2, hy2, ho2⟩ := hws.get hx2
          rw [hy1] at hy2
          obtain rfl : y1 = y2 := Option.some.inj hy2
          have eT : Ex G (upd G t (.tup [x1, x2])) := Ex.new ht
          have h3 := dqs_le hy1
          have h4 := szs_le hy1
          refine ⟨t, _, rfl, st_of upd_same, rfl, _, _, rfl, _, _, rfl, rfl, rfl, ?_⟩
          unfold tYes
          dsimp only
          rw [if_pos rfl]
          have eall := ((e02.trans g1).trans c1).trans eT
          refine ⟨_, rfl, _, rfl, x1, x2, y1, rfl, ho1.ext eall, ho2.ext eall, by omega, by omega, by omega, fun G3 g3 => ⟨_, g3 _ _ (eT _ _ c2), sz_lt (by simp; omega), Ex.mut ((c1.trans eT).trans g3) hD, ?_⟩⟩
          rw [upd_same, List.replicate_succ']
          simp
        have fin : ∀ (Dl : Addr) (G : Hp), (Ex G1 G ∧ G Dl = some (.lst ((List.replicate (min us.length ws.length) true).map V.bl))) → ∃ (p : Addr) (bs : List Bool), [V.ref Dl] = [V.ref p] ∧ SqL K G p (bs.map V.bl) ∧ Q1 (.bl (bs.all id)) G := by
          rintro Dl G ⟨c1, c2⟩
          exact ⟨Dl, _, rfl, sq_of c2, by rw [all_true]; exact q1 G c1⟩
        have h1 := sq12.ext g1
        have h2 := sq22.ext g1
        refine ⟨_, rfl, _, rfl, a1, a2, us, ws, rfl, ?_⟩
        cases b with
        | true => exact .inl ⟨sq_of h1, sq_of h2, fun Dl hD => lc_it (walk_zip (K := K) (a := a1) (b := a2) (xs := us) (ys := ws) rfl) (fun i G => Ex G1 G ∧ G Dl = some (.lst ((List.replicate i true).map V.bl))) ⟨Ex.new hD, upd_same⟩ (fun i G _ c => ⟨sq_of (c.1 _ _ h1), sq_of (c.1 _ _ h2)⟩) (fun i x G G' hi c y => turn Dl i x G G' hD (by omega) c y) (fun G c => fin Dl G c)⟩
        | false => exact .inr ⟨st_of h1, st_of h2, fun Dl hD => lc_it (walk_zipT (K := K) (a := a1) (b := a2) (xs := us) (ys := ws) rfl) (fun i G => Ex G1 G ∧ G Dl = some (.lst ((List.replicate i true).map V.bl))) ⟨Ex.new hD, upd_same⟩ (fun i G _ c => ⟨st_of (c.1 _ _ h1), st_of (c.1 _ _ h2)⟩) (fun i x G G' hi c y => turn Dl i x G G' hD (by omega) c y) (fun G c => fin Dl G c)⟩
      | false =>
        have hd1 : o.isLst = false := (Bool.or_eq_false_iff.mp hq).1
        have hd2 : o.isTup = false := (Bool.or_eq_false_iff.mp hq).2
        refine q_when (b := false) (et_is (et_B (ev_isSeq (ev_var rfl) hvo)) hq) (fun z => nomatch z) fun _ H1 e1 => ?_
        cases hdd : o.isDct with
        | true =>
          cases o with
          | dct =>
            obtain ⟨a1, rfl, ha1⟩ := huo
            obtain ⟨a2, rfl, ha2⟩ := hvo
            have hm2 : 2 < m + 1 := hd
            refine q_when (b := true) (et_B (ev_isDct (o := .dct) (ev_var rfl) ⟨a2, rfl, e1 _ _ ha2⟩)) (fun _ H2 e2 => ?_) fun z => nomatch z
            have e02 := e1.trans e2
            refine s_ret (ev_andV (a := true) (b := true) (ev_isDct (o := .dct) (ev_var rfl) ⟨a1, rfl, e02 _ _ ha1⟩) fun _ G1 g1 Q1 q1 => ?_) fun H3 e3 => k H3 (e02.trans e3)
            refine ⟨.ref a1, rfl, a1, [], rfl, g1 _ _ (e02 _ _ ha1), fun G2 p1 ts1 x1 n1 _ _ h1 pr1 => ⟨.ref a2, rfl, a2, [], rfl, x1 _ _ (g1 _ _ (e02 _ _ ha2)), fun G3 p2 ts2 x2 n2 _ _ h2 pr2 => ?_⟩⟩
            cases pr1
            cases pr2
            have x2' : Ex G2 G3 := x2
            have x1' : Ex G1 G2 := x1
            exact ⟨.ref p1, .ref p2, .lst [], rfl, ⟨p1, [], rfl, x2' _ _ h1, rfl⟩, ⟨p2, [], rfl, h2, rfl⟩, by show 1 < m; omega, by omega, by decide, fun G4 g4 => q1 G4 ((x1'.trans x2').trans g4)⟩
          | _ => cases hdd
        | false =>
          refine q_when (b := false) (et_is (et_B (ev_isDct (ev_var rfl) (hvo.ext e1))) hdd) (fun z => nomatch z) fun _ H2 e2 => ?_
          have e02 := e1.trans e2
          cases hii : o.isInt with
          | true =>
            refine q_when (b := true) (et_is (et_B (ev_isInt (ev_var rfl) (hvo.ext e02))) hii) (fun _ H3 e3 => ?_) fun z => nomatch z
            have e03 := e02.trans e3
            refine s_ret (ev_andV (a := true) (b := true) (ev_is (ev_isInt (ev_var rfl) (huo.ext e03)) (by rw [hii])) fun _ => ev_andV (a := true) (b := true) (ev_is (ev_op (ev_isBool (ev_var rfl) (huo.ext e03)) (ev_isBool (ev_var rfl) (hvo.ext e03)) (rv_eq rfl)) (congrArg V.bl (decide_eq_true rfl))) fun _ => ?_) fun H4 e4 => k H4 (e03.trans e4)
            cases o with
            | bl c =>
              obtain rfl : u = .bl c := huo
              obtain rfl : v = .bl c := hvo
              exact ev_is (ev_op (ev_var rfl) (ev_var rfl) (rv_eq rfl)) (congrArg V.bl (decide_eq_true rfl))
            | int c =>
              obtain rfl : u = .int c := huo
              obtain rfl : v = .int c := hvo
              exact ev_is (ev_op (ev_var rfl) (ev_var rfl) (rv_eq rfl)) (congrArg V.bl (decide_eq_true rfl))
            | _ => cases hii
          | false =>
            refine q_when (b := false) (et_is (et_B (ev_isInt (ev_var rfl) (hvo.ext e02))) hii) (fun z => nomatch z) fun _ H3 e3 => ?_
            have e03 := e02.trans e3
            have hu3 := huo.ext e03
            have h4 : PySem.W.kitAny K (.type o.ty) (["int", "list", "tuple", "dict"].map Value.type) = some false := by
              rw [kit_four, hii, hd1, hd2, hdd]
              rfl
            refine s_ret (ev_andV (a := true) (b := true) (ev_notV (a := false) (ev_isiN (m := o.ty) (cs := ["int", "list", "tuple", "dict"]) (ev_var rfl) hu3.tyx h4 (eu_tup (ea_cons ev_c (ea_cons ev_c (ea_cons ev_c (ea_cons ev_c ea_nil)))) (by show 4 ≤ 100000; decide)))) fun _ => ?_) fun H4 e4 => k H4 (e03.trans e4)
            cases o with
            | non =>
              obtain rfl : u = .non := huo
              obtain rfl : v = .non := hvo
              exact ev_is (ev_op (ev_var rfl) (ev_var rfl) (rv_eq rfl)) (congrArg V.bl (decide_eq_true rfl))
            | str c =>
              obtain rfl : u = .str c := huo
              obtain rfl : v = .str c := hvo
              exact ev_is (ev_op (ev_var rfl) (ev_var rfl) (rv_eq rfl)) (congrArg V.bl (decide_eq_true rfl))
            | bl c => cases hii
            | int c => cases hii
            | dct => cases hdd
            | lst c => cases hd1
            | tup c => cases hd2
end
end K17

set_option Elab.async false
set_option linter.all false
set_option maxRecDepth 100000
set_option maxHeartbeats 4000000
/-! Things each once; the variables of words. -/
namespace K17
open PySem PySem.Spec PyProof.Rows L2 Evl
def eo : List Str → List Str → List Str
  | acc, [] => acc
  | acc, x :: xs => eo (if acc.contains x then acc else acc ++ [x]) xs
theorem eo_snoc : ∀ (xs : List Str) (x : Str) (acc : List Str), eo acc (xs ++ [x]) = if (eo acc xs).contains x then eo acc xs else eo acc xs ++ [x]
  | [], x, acc => rfl
  | y :: ys, x, acc => eo_snoc ys x _
theorem eo_app : ∀ (xs ys acc : List Str), eo acc (xs ++ ys) = eo (eo acc xs) ys
  | [], ys, acc => rfl
  | y :: ys, zs, acc => eo_app ys zs _
theorem eo_len : ∀ (xs acc : List Str), (eo acc xs).length ≤ acc.length + xs.length
  | [], acc => Nat.le_refl _
  | x :: xs, acc => by
    have := eo_len xs (if acc.contains x then acc else acc ++ [x])
    show (eo (if acc.contains x then acc else acc ++ [x]) xs).length ≤ _
    by_cases h : acc.contains x = true
    · rw [if_pos h] at this ⊢
      simp at this ⊢
      omega
    · rw [if_neg h] at this ⊢
      simp at this ⊢
      omega
theorem contains_app (a b : List Str) (x : Str) : (a ++ b).contains x = (a.contains x || b.contains x) := by
  induction a with
  | nil => simp
  | cons y ys ih => simp [ih, Bool.or_assoc]
theorem contains_filter (b : List Str) (x : Str) (p : Str → Bool) : (b.filter p).contains x = (b.contains x && p x) := by
  induction b with
  | nil => rfl
  | cons y ys ih =>
    rw [List.filter_cons]
    cases hp : p y with
    | true =>
      rw [if_pos rfl, List.contains_cons, List.contains_cons, ih]
      by_cases h : x = y
      · subst h
        simp [hp]
      · rw [beq_eq_false_iff_ne.mpr h]
        simp
    | false =>
      rw [if_neg (by decide), ih, List.contains_cons]
      by_cases h : x = y
      · subst h
        simp [hp]
      · rw [beq_eq_false_iff_ne.mpr h]
        simp
theorem eo_rel (acc : List Str) : ∀ xs : List Str, eo acc xs = acc ++ (eo [] xs).filter fun s => !acc.contains s := by
  have key : ∀ (n : Nat) (xs : List Str), xs.length = n → eo acc xs = acc ++ (eo [] xs).filter fun s => !acc.contains s := by
    intro n
    induction n with
    | zero =>
      intro xs h
      obtain rfl := List.length_eq_zero_iff.mp h
      simp [eo]
    | succ n ih =>
      intro xs h
      have hne : xs ≠ [] := fun z => by rw [z] at h; cases h
      obtain ⟨ys, y, rfl⟩ : ∃ ys y, xs = ys ++ [y] := ⟨xs.dropLast, xs.getLast hne, (List.dropLast_concat_getLast hne).symm⟩
      have ih := ih ys (by simp at h; omega)
      rw [eo_snoc, eo_snoc, ih, contains_app, contains_filter]
      have e1 : ([y].filter fun s => !acc.contains s) = if acc.contains y = true then [] else [y] := by
        rw [List.filter_cons]
        cases h1 : acc.contains y <;> rfl
      cases h1 : acc.contains y with
      | true =>
        rw [Bool.true_or, if_pos rfl]
        cases h2 : (eo [] ys).contains y with
        | true => rw [if_pos rfl]
        | false => rw [if_neg (by decide), List.filter_append, e1, if_pos h1, List.append_nil]
      | false =>
        rw [Bool.false_or]
        cases h2 : (eo [] ys).contains y with
        | true => rw [if_pos rfl, if_pos (by rfl)]
        | false => rw [if_neg (by decide), if_neg (by decide), List.filter_append, e1, if_neg (by rw [h1]; decide), List.append_assoc]
  exact fun xs => key _ xs rfl
mutual
def W.allv : W → List Str
  | .v s => [s]
  | .n _ as => W.allvs as
def W.allvs : List W → List Str
  | [] => []
  | a :: r => a.allv ++ W.allvs r
end
mutual
theorem W.vars_eo : ∀ w : W, w.vars = eo [] w.allv
  | .v s => rfl
  | .n _ as => W.varsL_eo [] as
theorem W.varsL_eo : ∀ (acc : List Str) (as : List W), W.varsL acc as = eo acc (W.allvs as)
  | acc, [] => rfl
  | acc, a :: r => by
    show W.varsL (acc ++ a.vars.filter fun s => !acc.contains s) r = eo acc (a.allv ++ W.allvs r)
    rw [eo_app, W.varsL_eo, W.vars_eo a, ← eo_rel]
end
def vOf : W → Option Str
  | .v s => some s
  | .n _ _ => none
mutual
theorem W.parts_allv : ∀ w : W, w.parts.filterMap (fun q => vOf q.2) = w.allv
  | .v s => rfl
  | .n s as => by
    show (([], W.n s as) :: W.partsL 0 as).filterMap (fun q => vOf q.2) = _
    rw [List.filterMap_cons]
    exact W.partsL_allv 0 as
theorem W.partsL_allv : ∀ (i : Nat) (as : List W), (W.partsL i as).filterMap (fun q => vOf q.2) = W.allvs as
  | _, [] => rfl
  | i, a :: r => by
    show ((a.parts.map fun q => (i :: q.1, q.2)) ++ W.partsL (i + 1) r).filterMap (fun q => vOf q.2) = a.allv ++ W.allvs r
    rw [List.filterMap_append, W.partsL_allv (i + 1) r, List.filterMap_map, ← W.parts_allv a]
    rfl
end
section
variable {P : Program} {w : World} {K : PySem.W.Frag} {mg : Str → Option Value} {base : Heap}
def spEo : Sp := fun vs H Q _ => ∃ a xs, vs = [.ref a] ∧ H a = some (.lst (sVs xs)) ∧ xs.length ≤ 40000 ∧ ∀ p H', H p = none → Ex H H' → H' p = some (.lst (sVs (eo [] xs))) → Q (.ref p) H'
abbrev nEo : List Str := ["_law_things", "_law_found", "_law_thing"]
theorem sc_eo : FnScope nEo ["_law_things"] (defScope s__law_each_once) := ⟨rfl, rfl, rfl, by decide +kernel, rfl, by decide +kernel, by decide +kernel⟩
theorem sVs_len (xs : List Str) : (sVs xs).length = xs.length := by unfold sVs; rw [List.length_map]
theorem sVs_get {xs : List Str} {i : Nat} {x : V} (h : (sVs xs)[i]? = some x) : ∃ s, xs[i]? = some s ∧ x = .str s := by
  unfold sVs at h
  rw [List.getElem?_map] at h
  obtain ⟨s, a, b⟩ := Option.map_eq_some_iff.mp h
  exact ⟨s, a, b.symm⟩
theorem ok_each (T : T17 P w K mg base) : Ok P w K mg base CX0 "_law_each_once" ["_law_things"] 1 spEo := by
  refine T.ok 14 rfl sc_eo (fun vs H Q E h => ?_) (fun kV doc pm an cdv ct us hl => match us, hl with | [_], _ => rfl) (fun f cdv A outer s H vs Q E hr h => ?_)
  · obtain ⟨a, xs, rfl, _⟩ := h
    rfl
  · obtain ⟨a, xs, rfl, ha, hl, k⟩ := h
    refine ⟨_, pss_cons (ps_set (i := 1) sc_eo.nd rfl (Or.inl rfl) (pe_lst pa_nil))
      (pss_cons (ps_for PassesOwn.never rfl (pi_list (pv 0)) (pg_name (i := 2) sc_eo.nd rfl (Or.inl rfl))
        (pss_one (ps_if (pt_cmpR op_notIn_seq (pv 2) (pv 1) (by rfl)) (pss_one (ps_expr (pe_bm PySem.F.plainAttrs_list PySem.F.slot_list_append PySem.F.type_list_append mt_append (pv 1) (pa_cons (pv 2) pa_nil)))) pss_nil)))
      (pss_one (ps_ret (pv 1)))), ?_⟩
    refine q_asgL (el_lst ea_nil (by show 0 ≤ 100000; decide)) fun p H1 hp e1 h1 => ?_
    refine q_forL (xs := sVs xs) (ev_var rfl) (sq_of (e1 _ _ ha)) (fun i σ' H' => Ex H H' ∧ (∃ b : Option V, σ' = [some (.ref a), some (.ref p), b]) ∧ H' p = some (.lst (sVs (eo [] (xs.take i))))) ?_ ?_ ?_ ?_
    · intro H2 e2
      exact ⟨e1.trans e2, ⟨none, rfl⟩, e2 _ _ h1⟩
    · rintro i σ' H' hi ⟨e, _⟩
      exact sq_of (e _ _ ha)
    · rintro i x σ' H' hx ⟨e, ⟨b, rfl⟩, h⟩
      obtain ⟨s, hs, rfl⟩ := sVs_get hx
      have hil := (List.getElem?_eq_some_iff.mp hs).1
      have ht := eo_len (xs.take i) []
      have ht2 := List.length_take_le i xs
      simp at ht
      have hev : EvT (tTest (tOp (rIn K true) (tVar 2) (tVar 1))) [some (V.ref a), some (V.ref p), some (V.str s)] H' (!(eo [] (xs.take i)).contains s) := by
        refine et_is (et_test (ev_op (ev_var rfl) (ev_var rfl) (rv_niL (sq_of h) rfl (sVs_flat _)))) ?_
        rw [sVs_in]
      refine s_when hev (fun hb H2 e2 => ?_) fun hb H2 e2 => ?_
      · refine s_app (xs := sVs (eo [] (xs.take i))) (e2 _ _ h) (ev_var rfl) (ev_var rfl) (by rw [sVs_len]; omega) fun H3 e3 => ?_
        refine ⟨Ex.mut ((e.trans e2).trans e3) hp, ⟨_, rfl⟩, ?_⟩
        rw [upd_same, take_snoc hs, eo_snoc, if_neg (by intro z; rw [z] at hb; cases hb)]
        unfold sVs
        rw [List.map_append]
        rfl
      · refine ⟨e.trans e2, ⟨_, rfl⟩, ?_⟩
        rw [take_snoc hs, eo_snoc, if_pos (by cases hc : (eo [] (xs.take i)).contains s with | true => rfl | false => rw [hc] at hb; cases hb)]
        exact e2 _ _ h
    · rintro σ' H' ⟨e, ⟨b, rfl⟩, h⟩
      rw [sVs_len, List.take_length] at h
      exact s_ret (ev_var rfl) fun H2 e2 => k p H2 hp (e.trans e2) (e2 _ _ h)
end
end K17

set_option Elab.async false
set_option linter.all false
set_option maxRecDepth 100000
set_option maxHeartbeats 4000000
/-! Things that are no words. -/
namespace K17
open PySem PySem.Spec PyProof.Rows L2 Evl
/-- a new thing, beside the lists of H0 -/
def EvOx (H0 : Hp) (te : TE) (σ : L2.St) (H : Hp) (o : O) : Prop := ∀ H1, Ex H H1 → ∀ Q : VK, (∀ v H2, Ex H1 H2 → OV (Hx (Old H0) H2) v o → Q v H2) → te σ H1 Q
def EvAx (H0 : Hp) (ta : TA) (σ : L2.St) (H : Hp) (os : List O) : Prop := ∀ H1, Ex H H1 → ∀ Q : List V → Hp → Prop, (∀ vs H2, Ex H1 H2 → OVs (Hx (Old H0) H2) vs os → Q vs H2) → ta σ H1 Q
def EvLx (H0 : Hp) (te : TE) (σ : L2.St) (H : Hp) (os : List O) : Prop := ∀ H1, Ex H H1 → ∀ Q : VK, (∀ p xs H2, H1 p = none → Ex H1 H2 → H2 p = some (.lst xs) → OVs (Hx (Old H0) H2) xs os → Q (.ref p) H2) → te σ H1 Q
section
variable {H0 H : Hp} {σ : L2.St} {te : TE} {ta : TA}
theorem eox_int {i : Int} : EvOx H0 (tC (.int i)) σ H (.int i) := fun H1 e Q q => q _ _ (Ex.refl _) rfl
theorem eox_str {i : Str} : EvOx H0 (tC (.str i)) σ H (.str i) := fun H1 e Q q => q _ _ (Ex.refl _) rfl
theorem eox_bl {i : Bool} : EvOx H0 (tC (.bl i)) σ H (.bl i) := fun H1 e Q q => q _ _ (Ex.refl _) rfl
theorem eox_non : EvOx H0 (tC .non) σ H .non := fun H1 e Q q => q _ _ (Ex.refl _) rfl
theorem eax_nil : EvAx H0 tNil σ H [] := fun H1 e Q q => q _ _ (Ex.refl _) rfl
theorem eax_cons {o : O} {os : List O} (h : EvOx H0 te σ H o) (k : EvAx H0 ta σ H os) : EvAx H0 (tCons te ta) σ H (o :: os) := fun H1 e Q q =>
  h H1 e _ fun v H2 e2 hv => k H2 (e.trans e2) _ fun vs H3 e3 hvs => q (v :: vs) H3 (e2.trans e3) (.cons (hv.ext (Go.of e3).ex) hvs)
theorem eox_tup {os : List O} (h0 : Ex H0 H) (h : EvAx H0 ta σ H os) (n : os.length ≤ 1000) : EvOx H0 (tTup ta) σ H (.tup os) := fun H1 e Q q =>
  h H1 e _ fun vs H2 e2 hvs => ⟨sz_of (by rw [hvs.length]; omega), fun p hp => q (.ref p) _ (e2.trans (Ex.new hp)) ⟨p, vs, rfl, hx_of (not_old (fresh_back (h0.trans (e.trans e2)) hp)) tup_tbl upd_same, hvs.ext (Go.of (Ex.new hp)).ex⟩⟩
theorem eox_lst {os : List O} (h0 : Ex H0 H) (h : EvAx H0 ta σ H os) (n : os.length ≤ 1000) : EvOx H0 (tLst ta) σ H (.lst os) := fun H1 e Q q =>
  h H1 e _ fun vs H2 e2 hvs => ⟨sz_of (by rw [hvs.length]; omega), fun p hp => q (.ref p) _ (e2.trans (Ex.new hp)) ⟨p, vs, rfl, hx_of (not_old (fresh_back (h0.trans (e.trans e2)) hp)) lst_tbl upd_same, hvs.ext (Go.of (Ex.new hp)).ex⟩⟩
theorem eox_dct (h0 : Ex H0 H) : EvOx H0 tDNewK σ H .dct := fun H1 e Q q => fun p hp => q (.ref p) _ (Ex.new hp) ⟨p, rfl, hx_of (not_old (fresh_back (h0.trans e) hp)) (fun _ z => nomatch z) upd_same⟩
theorem elx_lst {os : List O} (h : EvAx H0 ta σ H os) (n : os.length ≤ 1000) : EvLx H0 (tLst ta) σ H os := fun H1 e Q q =>
  h H1 e _ fun vs H2 e2 hvs => ⟨sz_of (by rw [hvs.length]; omega), fun p hp => q p vs _ (fresh_back e2 hp) (e2.trans (Ex.new hp)) upd_same (hvs.ext (Go.of (Ex.new hp)).ex)⟩
theorem s_retLx {D : Ends} {os : List O} (h : EvLx H0 te σ H os) (k : ∀ p xs H1, H p = none → Ex H H1 → H1 p = some (.lst xs) → OVs (Hx (Old H0) H1) xs os → D.rt (.ref p) H1) : tRet te D σ H := h H (Ex.refl H) _ k
end
end K17

set_option Elab.async false
set_option linter.all false
set_option maxRecDepth 100000
set_option maxHeartbeats 4000000
/-! repr of words; defs that run where no guard stands. -/
namespace K17
open PySem PySem.Spec PyProof.Rows L2 Evl
/-- a def's promise where no guard stands -/
structure FnG (P : Program) (w : World) (K : PySem.W.Frag) (mg : Str → Option Value) (base : Heap) (k : Nat) (f : Addr) (fd : FuncData) (ps : List Str) (sp : Sp) : Prop where
  len : ∀ vs H Q E, sp vs H Q E → vs.length = ps.length
  run : ∀ (A : Around) (outer : List Env) (s : Shared) (H : Hp) (args : Args) (us : List Value) (vs : List V) (Q : VK), A.guards = some [] → Room k A → Env0 P w K mg base A outer s H → BindsTo s fd args (ps.zip us) → Vals vs us → sp vs H Q E0 →
    codeAny (model P w) A (.call (.ref f) args) (CR CX0 outer P w H s Q E0) s
section
variable {P : Program} {w : World} {K : PySem.W.Frag} {mg : Str → Option Value} {base : Heap}
theorem FnG.of {x qual : Str} {params : Arguments} {body : List Stmt} {scope : Scope} {f : Addr} {fd : FuncData} {N ps : List Str} {k : Nat} {sp : Sp} (F : FunD K x qual params body scope [] [] f fd) (S : FnScope N ps scope) (len : ∀ vs H Q E, sp vs H Q E → vs.length = ps.length)
    (hb : ∀ (c : Addr), (∃ oc od osl, K.lookup f = some ⟨oc, od, .func fd, osl⟩ ∧ fd.code = .ref c) → ∀ (A : Around) (outer : List Env) (s : Shared) (H : Hp) (vs : List V) (Q : VK), A.guards = some [] → Room k (A.deeper (envOfC qual scope s.heap.objs.size f (.ref c))) → sp vs H Q E0 →
      ∃ t, PSs (cxOf CX0 P w K mg base N qual scope f (.ref c) A outer s H E0) body t ∧ t { nx := fun _ G => Q .non G, rt := Q } (L2.start N vs) H) : FnG P w K mg base (k + 1) f fd ps sp := by
  obtain ⟨oc, od, dV, kV, doc, pm, an, cd, ct, osl, rfl, lk, hcd, _, _⟩ := F.ex
  obtain ⟨c, hc⟩ := He.codeIn_ref hcd
  subst hc
  constructor
  · exact len
  intro A outer s H args us vs Q hg hr e0 hbi r hs
  have hK : K.In s.heap := e0.mod.kin.keeps fun b o e => (e0.bs b o e).1
  have hL : s.heap.NoLimit := e0.mod.nolimit.keeps fun b o e => (e0.bs b o e).1
  refine codeAny_call_function hr.depth (hK _ _ lk) rfl S.co S.gen rfl (PySem.W.codeRec_of hK hcd) (hbi _ _ _ _ ?_)
  refine wpAny_newFunctionEnv_cells S.kind (fun y hy => ?_) fun env he s1 x => ?_
  · rcases S.par y.1 (List.of_mem_zip (a := y.1) (b := y.2) hy).1 with q | q
    · exact Or.inl q
    · exact Or.inr ⟨q, PySem.W.cellsFrom_some _ _ _ (Or.inl q)⟩
  · subst he
    obtain ⟨t, ht, hq⟩ := hb c ⟨_, _, _, lk, rfl⟩ A outer s H vs Q hg (hr.deeper _) hs
    refine ⟨hL.keeps x.toInCall.keep, codeAny_func (wpAny_mono (ht.run [] s1 (L2.start N vs) H _ (inv_start S hr.hd e0 (len _ _ _ _ hs) r x) hq) (fun fl s' z => ?_) fun _ _ z => z)⟩
    match fl, z with
    | .ret u, ⟨v, σ', G, J, rv, q⟩ => exact ⟨v, G, J.os, J.bare, J.base, J.hok, rv, q⟩
    | .next, ⟨σ', G, J, q⟩ => exact ⟨V.non, G, J.os, J.bare, J.base, J.hok, rfl, q⟩
    | .brk, ⟨_, _, _, q⟩ => exact q.elim
    | .cont, ⟨_, _, _, q⟩ => exact q.elim
end
section
variable {X : Cx}
/-- a call of such a def -/
theorem pe_callG {k : Nat} {f : Addr} {fd : FuncData} {ps : List Str} {sp : Sp} {x : Str} {p pos : Pos} {e : Expr} {es : List Expr} {t : TA} (F : FnG X.prog X.w X.K X.mg X.base k f fd ps sp) (hg : X.A.guards = some []) (hr : Room k X.A) (hx : Gl X x) (hm : X.mg x = some (.ref f))
    (hk : PySem.W.keepIn X.K (.ref f) = true) (hb : Binds X.K fd ps []) (ha : PA X (e :: es) t) (hdb : (x == ("__debug__" : Str)) = false := by decide) (he : starEach (e :: es) X.env = (false, eval e X.env) :: starEach es X.env := by rfl)
    (hpl : (backTo pos (starEach es X.env)).any (·.1) = false := by rfl) : PE X (.Call (.Name x p) (e :: es) [] pos) (tCall sp [] E0 t) := by
  refine ⟨fun pins s σ H Q I h => wpAny_Call_Name_kw (ld_glob I hx hm (PySem.W.callWith_K (h₀ := X.base) I.ok.mod.kin hk (thn (ha.run pos pins s σ H _ I h) fun us s1 ⟨vs, H1, I1, r, q⟩ => ⟨I1.kIn, ?_⟩) he hpl) hdb)⟩
  have q : sp (vs ++ []) H1 Q E0 := q
  rw [List.append_nil] at q
  have hl : us.length = ps.length := by
    rw [← r.length]
    exact F.len _ _ _ _ q
  have b := hb s1 us I1.kIn (by simpa using hl)
  rw [List.append_nil] at b
  refine wpAny_call (codeAny_mono (F.run X.A X.stack s1 H1 ⟨us, []⟩ us vs Q hg hr I1.env0 b r q) fun r s' z => ?_)
  match r, z with
  | .ok (.ret u), z => exact I1.after z
  | .error _, z => exact (show False from z).elim
/-! ### repr -/
def rRepr (K : PySem.W.Frag) : List V → Hp → VK → Prop := fun xs H Q => ∃ (v : V) (d : PyData), xs = [v] ∧ Dp K H v d ∧ d.hasDict = false ∧ d.showable = true ∧ d.depth ≤ 30 ∧ d.shown.length ≤ sizeLine ∧ ((∃ a, v = .ref a) ∨ ∃ x, v = .str x) ∧ Q (.str d.shown) H
theorem call_repr (hg : X.A.guards = some []) (hu : X.A.units + 100 < cLine) : CallR X (.builtin "repr") (rRepr X.K) := by
  intro pins s σ H xs us Q I r h
  obtain ⟨v, d, rfl, hd, h1, h2, h3, h4, hv, q⟩ := h
  obtain ⟨u, rfl, r1⟩ := vals1 r
  rcases hv with ⟨a, rfl⟩ | ⟨x, rfl⟩
  · obtain rfl : u = .ref a := r1
    obtain ⟨as, rd⟩ := Dp.reads I d _ _ hd rfl
    exact PySem.repr_of_reads' rd h2 (fun z => by rw [h1] at z; cases z) hg (by omega) (fun _ _ e => e) (fun h' t tk hk => ⟨.str _, H, I.kept hk, ⟨_, rfl⟩, q⟩) h4
  · obtain ⟨t, rfl⟩ := r1
    cases hd
    exact P.repr_of_str ⟨.str _, H, I.tok _, ⟨_, rfl⟩, q⟩ h4
end
/-! ### words as data -/
mutual
def O.py : O → PyData
  | .non => .none | .bl b => .bool b | .int i => .int i | .str s => .str s | .dct => .dict [] | .lst xs => .list (O.pys xs) | .tup xs => .tuple (O.pys xs)
def O.pys : List O → List PyData
  | [] => []
  | x :: xs => x.py :: O.pys xs
end
mutual
/-- data that may be compared -/
def O.ed : O → Bool
  | .non => true | .bl _ => true | .int _ => true | .str s => SS.contains s | .dct => false | .lst xs => O.eds xs | .tup xs => O.eds xs
def O.eds : List O → Bool
  | [] => true
  | x :: xs => x.ed && O.eds xs
end
mutual
/-- data that may be shown -/
def O.wd : O → Bool
  | .bl _ => true | .str s => SS.contains s | .lst xs => O.wds xs | .tup xs => O.wds xs | _ => false
def O.wds : List O → Bool
  | [] => true
  | x :: xs => x.wd && O.wds xs
end
mutual
theorem wd_ed : ∀ o : O, o.wd = true → o.ed = true
  | .non, h => nomatch h | .bl _, _ => rfl | .int _, h => nomatch h | .str s, h => h | .dct, h => nomatch h
  | .lst xs, h => wds_eds xs h
  | .tup xs, h => wds_eds xs h
theorem wds_eds : ∀ xs : List O, O.wds xs = true → O.eds xs = true
  | [], _ => rfl
  | x :: xs, h => by
    have h : (x.wd && O.wds xs) = true := h
    rw [Bool.and_eq_true] at h
    show (x.ed && O.eds xs) = true
    rw [wd_ed x h.1, wds_eds xs h.2]
    rfl
end
mutual
theorem strip_wd : ∀ o : O, o.strip.wd = o.wd
  | .non => rfl | .bl _ => rfl | .int _ => rfl | .str _ => rfl | .dct => rfl
  | .lst xs => strips_wd xs
  | .tup xs => strips_wd xs
theorem strips_wd : ∀ xs : List O, O.wds (O.strips xs) = O.wds xs
  | [] => rfl
  | x :: xs => by show (x.strip.wd && O.wds (O.strips xs)) = (x.wd && O.wds xs); rw [strip_wd x, strips_wd xs]
end
mutual
theorem strip_dp : ∀ o : O, o.strip.dp = o.dp
  | .non => rfl | .bl _ => rfl | .int _ => rfl | .str _ => rfl | .dct => rfl
  | .lst xs => by show O.dps (O.strips xs) + 1 = O.dps xs + 1; rw [strips_dp xs]
  | .tup xs => by show O.dps (O.strips xs) + 1 = O.dps xs + 1; rw [strips_dp xs]
theorem strips_dp : ∀ xs : List O, O.dps (O.strips xs) = O.dps xs
  | [] => rfl
  | x :: xs => by show max x.strip.dp (O.dps (O.strips xs)) = max x.dp (O.dps xs); rw [strip_dp x, strips_dp xs]
end
mutual
theorem strip_szz : ∀ o : O, o.strip.sz = o.sz
  | .non => rfl | .bl _ => rfl | .int _ => rfl | .str _ => rfl | .dct => rfl
  | .lst xs => by show O.szs (O.strips xs) + 1 = O.szs xs + 1; rw [strips_szz xs]
  | .tup xs => by show O.szs (O.strips xs) + 1 = O.szs xs + 1; rw [strips_szz xs]
theorem strips_szz : ∀ xs : List O, O.szs (O.strips xs) = O.szs xs
  | [] => rfl
  | x :: xs => by show x.strip.sz + O.szs (O.strips xs) = x.sz + O.szs xs; rw [strip_szz x, strips_szz xs]
end
theorem ss_cps : SS.all (fun s => s.cps.toList.all fun c => decide (c < 16 ^ 8)) = true := by decide +kernel
theorem ss_size : SS.all (fun s => decide (s.cps.size ≤ 8)) = true := by decide +kernel
theorem ss_lay : SS.all PyData.strOk = true := by decide +kernel
theorem ss_of {p : Str → Bool} (h : SS.all p = true) {s : Str} (k : SS.contains s = true) : p s = true := List.all_eq_true.mp h s (List.contains_iff_mem.mp k)
section
variable {K : PySem.W.Frag} {H : Hp}
mutual
theorem OV.dpd : ∀ {o : O} {v : V}, OV H v o → o.ed = true → Dp K H v o.py
  | .str s, v, h, k => by obtain rfl : v = .str s := h; exact .str s
  | .lst xs, v, h, k => by obtain ⟨a, vs, rfl, h1, h2⟩ := h; exact .lst (sq_of h1) (OVs.dpd h2 k)
  | .tup xs, v, h, k => by obtain ⟨a, vs, rfl, h1, h2⟩ := h; exact .tup (st_of h1) (OVs.dpd h2 k)
  | .non, v, h, _ => by obtain rfl : v = .non := h; exact .non
  | .bl b, v, h, _ => by obtain rfl : v = .bl b := h; exact .bl b
  | .int i, v, h, _ => by obtain rfl : v = .int i := h; exact .int i
  | .dct, _, _, k => nomatch k
theorem OVs.dpd : ∀ {os : List O} {vs : List V}, OVs H vs os → O.eds os = true → DpAll K H vs (O.pys os)
  | [], vs, h, k => by obtain rfl : vs = [] := h; exact .nil
  | x :: xs, vs, h, k => by
    obtain ⟨v, us, rfl, h1, h2⟩ := h
    have k : (x.ed && O.eds xs) = true := k
    rw [Bool.and_eq_true] at k
    exact .cons (OV.dpd h1 k.1) (OVs.dpd h2 k.2)
end
mutual
theorem O.lay : ∀ {o : O}, o.ed = true → o.py.canLay0 = true
  | .non, _ => by simp only [O.py, PyData.canLay0]
  | .bl _, _ => by simp only [O.py, PyData.canLay0]
  | .int _, _ => by simp only [O.py, PyData.canLay0]
  | .str s, h => by simp only [O.py, PyData.canLay0]; exact ss_of ss_lay h
  | .dct, h => nomatch h
  | .lst xs, h => by simp only [O.py, PyData.canLay0]; exact O.lays h
  | .tup xs, h => by simp only [O.py, PyData.canLay0]; exact O.lays h
theorem O.lays : ∀ {xs : List O}, O.eds xs = true → PyData.canLayAll0 (O.pys xs) = true
  | [], _ => by simp only [O.pys, PyData.canLayAll0]
  | x :: xs, h => by
    have h : (x.ed && O.eds xs) = true := h
    rw [Bool.and_eq_true] at h
    simp only [O.pys, PyData.canLayAll0, Bool.and_eq_true]
    exact ⟨O.lay h.1, O.lays h.2⟩
end
mutual
theorem O.pdp : ∀ o : O, o.ed = true → o.py.depth ≤ o.dp
  | .non, _ => by simp [O.py, PyData.depth] | .bl _, _ => by simp [O.py, PyData.depth] | .int _, _ => by simp [O.py, PyData.depth] | .str _, _ => by simp [O.py, PyData.depth]
  | .dct, h => nomatch h
  | .lst xs, h => by have := O.pdps xs h; simp only [O.py, PyData.depth, O.dp]; omega
  | .tup xs, h => by have := O.pdps xs h; simp only [O.py, PyData.depth, O.dp]; omega
theorem O.pdps : ∀ xs : List O, O.eds xs = true → PyData.depthAll (O.pys xs) ≤ O.dps xs
  | [], _ => by simp [O.pys, PyData.depthAll]
  | x :: xs, h => by
    have h : (x.ed && O.eds xs) = true := h
    rw [Bool.and_eq_true] at h
    have h1 := O.pdp x h.1
    have h2 := O.pdps xs h.2
    simp only [O.pys, PyData.depthAll, O.dps]
    omega
end
theorem O.shaped {o : O} (h : o.ed = true) (d : o.dp ≤ 60) : SeqAt.shaped o.py = true := by
  unfold SeqAt.shaped
  rw [O.lay h, decide_eq_true (by have := O.pdp o h; omega)]
  rfl
mutual
theorem O.py_nd : ∀ {o : O}, o.wd = true → o.py.hasDict = false ∧ o.py.showable = true ∧ o.py.leavesShort 8 = true ∧ o.py.weight + 1 ≤ 9 * o.sz ∧ o.py.depth ≤ o.dp
  | .str s, k => ⟨rfl, rfl, ss_of ss_cps k, by
      have := of_decide_eq_true (ss_of ss_size k)
      show s.cps.size + 1 ≤ 9 * 1
      omega, Nat.le_refl _⟩
  | .bl b, k => ⟨rfl, rfl, rfl, by show PyData.weight (.bool b) + 1 ≤ 9 * 1; cases b <;> simp [PyData.weight], Nat.le_refl _⟩
  | .lst xs, k => by
    obtain ⟨a, b, c, d, e⟩ := O.pys_nd (xs := xs) k
    exact ⟨by simpa only [O.py, PyData.hasDict] using a, by simpa only [O.py, PyData.showable] using b, by simpa only [O.py, PyData.leavesShort] using c, by simp only [O.py, PyData.weight, O.sz]; omega, by simp only [O.py, PyData.depth, O.dp]; omega⟩
  | .tup xs, k => by
    obtain ⟨a, b, c, d, e⟩ := O.pys_nd (xs := xs) k
    exact ⟨by simpa only [O.py, PyData.hasDict] using a, by simpa only [O.py, PyData.showable] using b, by simpa only [O.py, PyData.leavesShort] using c, by simp only [O.py, PyData.weight, O.sz]; omega, by simp only [O.py, PyData.depth, O.dp]; omega⟩
  | .non, k => nomatch k
  | .int _, k => nomatch k
  | .dct, k => nomatch k
theorem O.pys_nd : ∀ {xs : List O}, O.wds xs = true → PyData.hasDictAll (O.pys xs) = false ∧ PyData.showableAll (O.pys xs) = true ∧ PyData.leavesShortAll 8 (O.pys xs) = true ∧ PyData.weightAll (O.pys xs) ≤ 9 * O.szs xs ∧ PyData.depthAll (O.pys xs) ≤ O.dps xs
  | [], _ => ⟨rfl, rfl, rfl, Nat.zero_le _, Nat.zero_le _⟩
  | x :: xs, k => by
    have k : (x.wd && O.wds xs) = true := k
    rw [Bool.and_eq_true] at k
    obtain ⟨a1, b1, c1, d1, e1⟩ := O.py_nd (o := x) k.1
    obtain ⟨a, b, c, d, e⟩ := O.pys_nd (xs := xs) k.2
    have hs := x.sz_pos
    refine ⟨?_, ?_, ?_, ?_, ?_⟩
    · simp only [O.pys, PyData.hasDictAll, a1, a, Bool.or_false]
    · simp only [O.pys, PyData.showableAll, b1, b, Bool.and_true]
    · simp only [O.pys, PyData.leavesShortAll, c1, c, Bool.and_true]
    · simp only [O.pys, PyData.weightAll, O.szs]; omega
    · simp only [O.pys, PyData.depthAll, O.dps]; omega
end
abbrev tRpr (K : PySem.W.Frag) (te : TE) : TE := tCB (rRepr K) (tCons te tNil)
theorem ev_repr {σ : L2.St} {te : TE} {v : V} {o : O} (h : Ev te σ H v) (ov : OV H v o) (hw : o.wd = true) (hd : o.dp ≤ 12) (hs : o.sz ≤ 800) (hr : (o.isLst || (o.isTup || o.isStr)) = true) : Ev (tRpr K te) σ H (.str o.py.shown) := fun H1 x Q q =>
  h H1 x _ fun H2 x2 => by
    obtain ⟨a, b, c, d, e2⟩ := O.py_nd hw
    refine ⟨v, o.py, rfl, OV.dpd (ov.ext (x.trans x2)) (wd_ed o hw), a, b, by omega, PyData.shown_fits (B := 8) (by decide) (by decide) c (by omega), ?_, q H2 x2⟩
    cases o with
    | str s => exact .inr ⟨s, ov⟩
    | lst xs => obtain ⟨p, _, h, _⟩ := ov; exact .inl ⟨p, h⟩
    | tup xs => obtain ⟨p, _, h, _⟩ := ov; exact .inl ⟨p, h⟩
    | _ => cases hr
/-- data compared -/
def O.eqv (a b : O) : Bool := PyData.eqv a.py b.py
theorem rv_eqO {u v : V} {a b : O} (h1 : OV H u a) (h2 : OV H v b) (e1 : a.ed = true) (e2 : b.ed = true) (d1 : a.dp ≤ 60) (d2 : b.dp ≤ 60) : RV (rEqD K) u v H (.bl (a.eqv b)) := fun H1 e Q q =>
  ⟨a.py, b.py, OV.dpd (h1.ext e) e1, OV.dpd (h2.ext e) e2, O.shaped e1 d1, O.shaped e2 d2, q H1 (Ex.refl _)⟩
theorem rv_neO {u v : V} {a b : O} (h1 : OV H u a) (h2 : OV H v b) (e1 : a.ed = true) (e2 : b.ed = true) (d1 : a.dp ≤ 60) (d2 : b.dp ≤ 60) : RV (rNeD K) u v H (.bl (!a.eqv b)) := fun H1 e Q q =>
  ⟨a.py, b.py, OV.dpd (h1.ext e) e1, OV.dpd (h2.ext e) e2, O.shaped e1 d1, O.shaped e2 d2, q H1 (Ex.refl _)⟩
theorem pys_map : ∀ xs : List O, O.pys xs = xs.map O.py
  | [] => rfl
  | x :: xs => by rw [O.pys, pys_map xs]; rfl
theorem rv_inO {u : V} {a : Addr} {vs : List V} {x : O} {os : List O} (h1 : OV H u x) (ha : H a = some (.lst vs)) (h2 : OVs H vs os) (e1 : x.ed = true) (e2 : O.eds os = true) (d1 : x.dp ≤ 60) (d2 : O.dps os ≤ 50) : RV (rInD K) u (.ref a) H (.bl (os.any fun o => o.eqv x)) := fun H1 e Q q =>
  ⟨x.py, O.pys os, OV.dpd (h1.ext e) e1, .lst (sq_of (e _ _ ha)) (OVs.dpd (h2.ext e) e2), O.shaped e1 d1, O.shaped (o := .lst os) e2 (by show O.dps os + 1 ≤ 60; omega), by
    rw [pys_map, List.any_map]
    exact q H1 (Ex.refl _)⟩
theorem rv_niO {u : V} {a : Addr} {vs : List V} {x : O} {os : List O} (h1 : OV H u x) (ha : H a = some (.lst vs)) (h2 : OVs H vs os) (e1 : x.ed = true) (e2 : O.eds os = true) (d1 : x.dp ≤ 60) (d2 : O.dps os ≤ 50) : RV (rNotInD K) u (.ref a) H (.bl (!os.any fun o => o.eqv x)) := fun H1 e Q q =>
  ⟨x.py, O.pys os, OV.dpd (h1.ext e) e1, .lst (sq_of (e _ _ ha)) (OVs.dpd (h2.ext e) e2), O.shaped e1 d1, O.shaped (o := .lst os) e2 (by show O.dps os + 1 ≤ 60; omega), by
    rw [pys_map, List.any_map]
    exact q H1 (Ex.refl _)⟩
end
end K17

set_option Elab.async false
set_option linter.all false
set_option maxRecDepth 100000
set_option maxHeartbeats 4000000
/-! Substitutions, whatever stands for them. -/
namespace K17
open PySem PySem.Spec PyProof.Rows L2 Evl
theorem pe_or2 {X : Cx} {e : Expr} {t1 t2 : TE} (h1 : PE X e t1) (h2 : PE X e t2) : PE X e (fun σ H Q => t1 σ H Q ∨ t2 σ H Q) := ⟨fun pins s σ H Q I h => by
  rcases h with h | h
  · exact h1.run pins s σ H Q I h
  · exact h2.run pins s σ H Q I h⟩
section
variable {P : Program} {w : World} {K : PySem.W.Frag} {mg : Str → Option Value} {base : Heap}
/-! ### what is no text is no variable -/
def spN : Sp := fun vs H Q _ => ∃ v o, vs = [v] ∧ OV H v o ∧ o.isStr = false ∧ RetV (.bl false) H Q
theorem spN_len {vs : List V} {H : Hp} {Q : VK} {E : XK} (h : spN vs H Q E) : vs.length = 1 := by
  obtain ⟨v, o, rfl, _⟩ := h
  rfl
theorem spv_N {v : V} {o : O} {H : Hp} (h : OV H v o) (hs : o.isStr = false) : SpV spN ([v] ++ []) H (.bl false) := fun H1 e Q q E => ⟨v, o, rfl, h.ext e, hs, q⟩
/-! ### dicts as data -/
def kO : Key → O
  | .inl i => .int i
  | .inr s => .str s
theorem kO_ov {H : Hp} (k : Key) : OV H (kV k) (kO k) := by cases k <;> rfl
/-- the dict at d: its keys, its values -/
structure DD (H : Hp) (d : Addr) (ks : List (Key × O)) : Prop where
  ex : ∃ kvs, H d = some (.dK kvs) ∧ kvs.map (·.1) = ks.map (·.1) ∧ OVs H (kvs.map (·.2)) (ks.map (·.2))
  nd : (ks.map (·.1)).Nodup
theorem DD.ext {H G : Hp} {d : Addr} {ks : List (Key × O)} (h : DD H d ks) (e : Ex H G) : DD G d ks := by
  obtain ⟨kvs, a, b, c⟩ := h.ex
  exact ⟨⟨kvs, e _ _ a, b, c.ext e⟩, h.nd⟩
/-- a key and its value that may be asked about -/

theorem valV_at {kvs : List (Key × V)} (nd : (kvs.map (·.1)).Nodup) : ∀ {i : Nat} {p : Key × V}, kvs[i]? = some p → valV kvs p.1 = some p.2 := by
  induction kvs with
  | nil => intro i p h; simp at h
  | cons a r ih =>
    intro i p h
    rw [List.map_cons, List.nodup_cons] at nd
    unfold valV
    rw [List.find?_cons]
    cases i with
    | zero =>
      obtain rfl : a = p := by simpa using h
      simp
    | succ i =>
      have hp : r[i]? = some p := by simpa using h
      have hne : a.1 ≠ p.1 := fun z => nd.1 (by rw [z]; exact List.mem_map.mpr ⟨p, List.mem_of_getElem? hp, rfl⟩)
      rw [decide_eq_false hne]
      exact ih nd.2 hp
theorem dd_at {H : Hp} {kvs : List (Key × V)} {ks : List (Key × O)} (e : kvs.map (·.1) = ks.map (·.1)) (h : OVs H (kvs.map (·.2)) (ks.map (·.2))) {i : Nat} {p : Key × V} (hp : kvs[i]? = some p) : ∃ q, ks[i]? = some q ∧ q.1 = p.1 ∧ OV H p.2 q.2 := by
  have h1 : (ks.map (·.1))[i]? = some p.1 := by rw [← e, List.getElem?_map, hp]; rfl
  rw [List.getElem?_map] at h1
  obtain ⟨q, hq, e1⟩ := Option.map_eq_some_iff.mp h1
  obtain ⟨o, ho, hov⟩ := h.get (i := i) (v := p.2) (by rw [List.getElem?_map, hp]; rfl)
  rw [List.getElem?_map, hq] at ho
  obtain rfl := Option.some.inj ho
  exact ⟨q, hq, e1, hov⟩
end
end K17

set_option Elab.async false
set_option linter.all false
set_option maxRecDepth 100000
set_option maxHeartbeats 4000000
/-! Words put. -/
namespace K17
open PySem PySem.Spec PyProof.Rows L2 Evl
/-! ### words with words put for variables -/
mutual
def W.sub (f : Str → Option W) : W → W
  | .v s => (f s).getD (.v s)
  | .n s as => .n s (W.subs f as)
def W.subs (f : Str → Option W) : List W → List W
  | [] => []
  | x :: xs => x.sub f :: W.subs f xs
end
theorem subs_map (f : Str → Option W) : ∀ as : List W, W.subs f as = as.map (W.sub f)
  | [] => rfl
  | x :: xs => congrArg (x.sub f :: ·) (subs_map f xs)
/-- the word that a list of pairs has for a variable -/
def lk (ps : List (Str × W)) (s : Str) : Option W := (ps.find? fun p => decide (p.1 = s)).map (·.2)
def keyW (p : Str × W) : Key × O := (.inr p.1, p.2.o)
/-- the dict at d puts ps -/
def SubV (H : Hp) (d : Addr) (ps : List (Str × W)) : Prop := DD H d (ps.map keyW)
theorem SubV.ext {H G : Hp} {d : Addr} {ps : List (Str × W)} (h : SubV H d ps) (e : Ex H G) : SubV G d ps := DD.ext h e
theorem nodup_of {α β : Type} (f : α → β) : ∀ {l : List α}, (l.map f).Nodup → l.Nodup
  | [], _ => List.nodup_nil
  | a :: r, h => by
    rw [List.map_cons, List.nodup_cons] at h
    exact List.nodup_cons.mpr ⟨fun z => h.1 (List.mem_map.mpr ⟨a, z, rfl⟩), nodup_of f h.2⟩
theorem SubV.get {H : Hp} {d : Addr} {ps : List (Str × W)} (h : SubV H d ps) : ∃ kvs, H d = some (.dK kvs) ∧ kvs.length = ps.length ∧ kvs.map (·.1) = ps.map (fun p => (Sum.inr p.1 : Key)) ∧ (ps.map (·.1)).Nodup ∧
    (∀ s w, lk ps s = some w → ∃ v, valV kvs (Sum.inr s : Key) = some v ∧ WV H v w) ∧ (∀ s, lk ps s = none → valV kvs (Sum.inr s : Key) = none) := by
  obtain ⟨kvs, h1, h2, h3⟩ := h.ex
  have hk : kvs.map (·.1) = ps.map (fun p => (Sum.inr p.1 : Key)) := by
    rw [h2, List.map_map]
    rfl
  have hv : OVs H (kvs.map (·.2)) (ps.map fun p => p.2.o) := by
    rw [List.map_map] at h3
    exact h3
  refine ⟨kvs, h1, by simpa using congrArg List.length hk, hk, ?_, ?_, ?_⟩
  · have := h.nd
    rw [List.map_map] at this
    refine nodup_of (fun s => (Sum.inr s : Key)) ?_
    rw [List.map_map]
    exact this
  · clear h h1 h2 h3
    revert kvs
    induction ps with
    | nil => intro kvs hk hv s w e; cases e
    | cons p ps ih =>
      intro kvs hk hv s w e
      cases kvs with
      | nil => cases hk
      | cons a r =>
        have hk1 : a.1 = Sum.inr p.1 := (List.cons.inj hk).1
        obtain ⟨v, us, e1, e2, e3⟩ := hv
        obtain ⟨rfl, rfl⟩ := List.cons.inj e1
        unfold lk at e
        rw [List.find?_cons] at e
        unfold valV
        rw [List.find?_cons, hk1]
        by_cases hs : p.1 = s
        · rw [decide_eq_true hs] at e
          obtain rfl : p.2 = w := Option.some.inj e
          rw [decide_eq_true (by rw [hs])]
          exact ⟨a.2, rfl, e2⟩
        · rw [decide_eq_false hs] at e
          rw [decide_eq_false (fun z => hs (Sum.inr.inj z))]
          exact ih r (List.cons.inj hk).2 e3 s w e
  · clear h h1 h2 h3 hv
    revert kvs
    induction ps with
    | nil =>
      intro kvs hk s e
      cases kvs with
      | nil => rfl
      | cons a r => cases hk
    | cons p ps ih =>
      intro kvs hk s e
      cases kvs with
      | nil => cases hk
      | cons a r =>
        have hk1 : a.1 = Sum.inr p.1 := (List.cons.inj hk).1
        unfold lk at e
        rw [List.find?_cons] at e
        unfold valV
        rw [List.find?_cons, hk1]
        by_cases hs : p.1 = s
        · rw [decide_eq_true hs] at e
          cases e
        · rw [decide_eq_false hs] at e
          rw [decide_eq_false (fun z => hs (Sum.inr.inj z))]
          exact ih r (List.cons.inj hk).2 s e
section
variable {P : Program} {w : World} {K : PySem.W.Frag} {mg : Str → Option Value} {base : Heap}
def spEx (m : Nat) : Sp := fun vs H Q _ => ∃ (u : V) (d : Addr) (z : W) (ps : List (Str × W)), vs = [u, .ref d] ∧ WV H u z ∧ SubV H d ps ∧ z.dp < m ∧ m ≤ 40 ∧ z.sz ≤ 9000 ∧ ∀ (r : V) (G : Hp), Ex H G → WV G r (z.sub (lk ps)) → Q r G
abbrev nExc : List Str := ["word", "substitution", "told", "part"]
theorem sc_exc : FnScope nExc ["word", "substitution"] (defScope s_exchanged) := ⟨rfl, rfl, rfl, by decide +kernel, rfl, by decide +kernel, by decide +kernel⟩
theorem ok_exchanged (T : T17 P w K mg base) : ∀ m, Ok P w K mg base CX0 "exchanged" ["word", "substitution"] (m + 1) (spEx m)
  | 0 => T.ok 5 rfl sc_exc (fun vs H Q E h => by obtain ⟨u, d, z, ps, rfl, _⟩ := h; rfl) (fun kV doc pm an cdv ct us hl => match us, hl with | [_, _], _ => rfl) (fun f cdv A outer s H vs Q E hr h => by obtain ⟨u, d, z, ps, _, _, _, h0, _⟩ := h; exact absurd h0 (Nat.not_lt_zero _))
  | m + 1 => by
    obtain ⟨fR, dR, GR, bR, kR, mR⟩ := (ok_exchanged T m).ex
    refine T.ok 5 rfl sc_exc (fun vs H Q E h => ?_) (fun kV doc pm an cdv ct us hl => match us, hl with | [_, _], _ => rfl) (fun f cdv A outer s H vs Q E hr h => ?_)
    · obtain ⟨u, d, z, ps, rfl, _⟩ := h
      rfl
    · obtain ⟨u, d, z, ps, rfl, hw, hd, hz, hm, hs, k⟩ := h
      refine ⟨_, pss_cons (ps_if (pt_val (pe_isiB T.isi T.str PyProof.Rows.boot_str (pv 0))) (pss_one (ps_ret (pe_dget2 (hu_of hr) (pv 1) (pv 0) (pv 0) ⟨rfl, rfl, rfl, rfl⟩))) pss_nil)
        (pss_cons (ps_set (i := 2) sc_exc.nd rfl (Or.inl rfl) (pe_lst (pa_cons (pe_ix ix_tup (pv 0) pe_int (fun _ _ => rfl)) pa_nil)))
        (pss_cons (ps_for PassesOwn.never rfl (pi_tup (pe_slice sl_tup (pv 0) (po_some pe_int) po_none)) (pg_name (i := 3) sc_exc.nd rfl (Or.inl rfl))
          (pss_one (ps_expr (pe_bm PySem.F.plainAttrs_list PySem.F.slot_list_append PySem.F.type_list_append mt_append (pv 2) (pa_cons (pe_call GR hr (by rfl) mR kR bR .nil pass0 (pa_cons (pv 3) (pa_cons (pv 1) pa_nil))) pa_nil)))))
        (pss_one (ps_ret (pe_callTy call_tuple_of (by rfl) T.tuple PyProof.Rows.boot_tuple (pa_cons (pv 2) pa_nil)))))), ?_⟩
      obtain ⟨kvs, hk1, hk2, hk3, hk4, hk5, hk6⟩ := hd.get
      cases z with
      | v sv =>
        obtain rfl : u = .str sv := hw
        refine q_when (b := true) (et_B (ev_isStr (o := .str sv) (ev_var rfl) rfl)) (fun _ H1 e1 => ?_) fun z => nomatch z
        refine ⟨.ref d, rfl, d, rfl, .inl ⟨kvs, .inl (e1 _ _ hk1)⟩, .str sv, rfl, .str sv, rfl, valV kvs (Sum.inr sv : Key), .inl ⟨kvs, Sum.inr sv, .inl (e1 _ _ hk1), rfl, rfl⟩, k _ H1 e1 ?_⟩
        show WV H1 _ ((lk ps sv).getD (.v sv))
        cases hl : lk ps sv with
        | some x =>
          obtain ⟨v, hv, hwv⟩ := hk5 sv x hl
          rw [hv]
          exact hwv.ext e1
        | none =>
          rw [hk6 sv hl]
          rfl
      | n sn as =>
        obtain ⟨r, us, rfl, hr1, hu⟩ := hw.tup
        have hul := hu.length
        have hdp : W.dps as < m := by have : (W.n sn as).dp = W.dps as + 1 := rfl; omega
        have hsz : W.szs as + 2 ≤ 9000 := hs
        have hasl := W.len_szs as
        refine q_when (b := false) (et_B (ev_isStr (o := (W.n sn as).o) (ev_var rfl) hw)) (fun z => nomatch z) fun _ H1 e1 => ?_
        refine q_asgL (el_lst (ea_cons (ev_op (z := .str sn) (ev_var rfl) ev_c (rv_ixT (st_of (e1 _ _ hr1)) (atI_nat (j := 0) rfl))) ea_nil) (by show 1 ≤ 100000; decide)) fun p H2 hp e2 h2 => ?_
        have hp0 : H p = none := fresh_back e1 hp
        have e12 := e1.trans e2
        refine q_forNT (eu_tail (ev_var rfl) (st_of (e12 _ _ hr1))) (fun c i σ' H' => Ex H H' ∧ H' c = some (.tup us) ∧ (∃ a : Option V, σ' = [some (.ref r), some (.ref d), some (.ref p), a]) ∧ ∃ acc, H' p = some (.lst (.str sn :: acc)) ∧ acc.length = i ∧ WVs H' acc (W.subs (lk ps) (as.take i))) ?_ ?_ ?_ ?_
        · intro c H3 hc e3 h3
          exact ⟨e12.trans e3, h3, ⟨none, rfl⟩, [], e3 _ _ h2, rfl, rfl⟩
        · rintro c i σ' H' hi ⟨_, hc, _⟩
          exact st_of hc
        · rintro c i x σ' H' hx ⟨e3, hc, ⟨a, rfl⟩, acc, h3, hal, hacc⟩
          obtain ⟨y, hy, hwy⟩ := (hu.ext e3).getv hx
          have h1 := W.lt_dp hy
          have h2' := W.lt_sz hy
          have hil := (List.getElem?_eq_some_iff.mp hy).1
          refine ⟨.ref p, rfl, .inl ⟨rfl, _, sq_of h3⟩, x, rfl, .ref d, rfl, x, d, y, ps, rfl, hwy, hd.ext e3, by omega, by omega, by omega, fun r5 G5 e5 h5 => ?_⟩
          have hp5 := e5 _ _ h3
          have tx := Tx.lst (o := .lst (.str sn :: acc ++ [r5])) hp5
          refine ⟨p, .str sn :: acc, r5, rfl, rfl, hp5, sz_lt (by simp; omega), Ex.mut (e3.trans e5) hp0, tx _ _ (e5 _ _ hc), ⟨_, rfl⟩, acc ++ [r5], upd_same, by simp [hal], ?_⟩
          rw [take_snoc hy, subs_map, List.map_append, ← subs_map]
          unfold WVs
          rw [W.os_map, List.map_append, ← W.os_map]
          exact OVs.append (WVs.tx tx (WVs.ext e5 hacc)) (.cons (WV.tx tx h5) .nil)
        · rintro c σ' H' ⟨e3, hc, ⟨a, rfl⟩, acc, h3, hal, hacc⟩
          rw [hul, List.take_length] at hacc
          refine ⟨.ref p, rfl, p, _, rfl, .inl ⟨sq_of h3, fun pt hpt => ?_⟩⟩
          have x4 : Ex H' (upd H' pt (.tup (.str sn :: acc))) := Ex.new hpt
          exact k (.ref pt) _ (e3.trans x4) (WV.of upd_same (WVs.ext x4 hacc))
end
end K17

set_option Elab.async false
set_option linter.all false
set_option maxRecDepth 100000
set_option maxHeartbeats 4000000
/-! _law_mixed. -/
namespace K17
open PySem PySem.Spec PyProof.Rows L2 Evl
section
variable {P : Program} {w : World} {K : PySem.W.Frag} {mg : Str → Option Value} {base : Heap} {C : Addr}
def spMix (K : PySem.W.Frag) : Sp := fun vs H Q _ => ∃ (p q c : Addr) (n : Int) (xs : List V), vs = [.ref p, .ref c] ∧ Spr H p q n ∧ n + (xs.length : Int) < 90000 ∧ xs.length ≤ 500 ∧ SqL K H c xs ∧
  ∀ (r : Addr) (G : Hp) (ys : List V), H r = none → G r = some (.lst ys) → ys.Perm xs → Spr G p q (n + (xs.length : Int)) → But p q H G → Q (.ref r) G
abbrev nM : List Str := ["_law_stream", "_law_some", "_law_left", "_law_k"]
theorem sc_mix : FnScope nM ["_law_stream", "_law_some"] (defScope s__law_mixed) := ⟨rfl, rfl, rfl, by decide +kernel, rfl, by decide +kernel, by decide +kernel⟩
def mLen (K : PySem.W.Frag) (i : Nat) : TE := tCB (fun xs H Q => ∃ x n, xs = [x] ∧ LenV K x H n ∧ Q (.int n) H) (tCons (tVar i) tNil)
def mPop (K : PySem.W.Frag) : TE := tBM K "list" rPopAt (tVar 2) (tCons (tCall spDr [] E0 (tCons (tVar 0) (tCons (mLen K 2) tNil))) tNil)
theorem perm_eraseIdx {α : Type} : ∀ {l : List α} {j : Nat} {y : α}, l[j]? = some y → (y :: l.eraseIdx j).Perm l
  | [], j, y, h => by simp at h
  | x :: l, 0, y, h => by
    obtain rfl : x = y := by simpa using h
    exact List.Perm.refl _
  | x :: l, j + 1, y, h => by
    have ih := perm_eraseIdx (l := l) (j := j) (y := y) (by simpa using h)
    show (y :: x :: l.eraseIdx j).Perm (x :: l)
    exact (List.Perm.swap x y _).trans (ih.cons x)
theorem ok_mixed (T : T17 P w K mg base) : Ok P w K mg base CX0 "_law_mixed" ["_law_stream", "_law_some"] 2 (spMix K) := by
  obtain ⟨fD, dD, GD, bD, kD, mD⟩ := (ok_dr T).ex
  refine T.ok 12 rfl sc_mix (fun vs H Q E h => ?_) (fun kV doc pm an cdv ct us hl => match us, hl with | [_, _], _ => rfl) (fun f cdv A outer s H vs Q E hr h => ?_)
  · obtain ⟨p, q, c, n, xs, rfl, _⟩ := h
    rfl
  · obtain ⟨p, q, c, n, xs, rfl, S, hn, hz, hS, k⟩ := h
    refine ⟨_, pss_cons (ps_set (i := 2) sc_mix.nd rfl (.inr rfl) (pe_callTy call_list_of (by rfl) T.list PyProof.Rows.boot_list (pa_cons (pv 1) pa_nil)))
      (pss_one (ps_ret (pe_lc (own := [("_law_k", 3)]) (g := gName 3) (tt := tYes) (te := mPop K) rfl sc_mix.nd (pi_range1 (by rfl) T.range (pa_cons (pe_callB call_len (by rfl) T.len PySem.boot_len (pa_cons (pv 2) pa_nil)) pa_nil))
        (blkOk_by (N := nM) (sc := defScope s__law_mixed) (by decide +kernel)) (fun _ _ _ _ _ => pg_name (i := 3) sc_mix.nd rfl (Or.inl rfl)) (fun _ _ _ _ _ => pts_nil)
        (fun _ _ _ _ _ => pe_bm PySem.F.plainAttrs_list PySem.F.slot_list_pop PySem.F.type_list_pop mt_popAt (pv 2) (pa_cons (pe_call GD hr (by rfl) mD kD bD .nil pass0 (pa_cons (pv 0) (pa_cons (pe_callB call_len (by rfl) T.len PySem.boot_len (pa_cons (pv 2) pa_nil)) pa_nil))) pa_nil))))), ?_⟩
    refine ⟨_, rfl, c, xs, rfl, .inl hS, fun l hl => ?_⟩
    refine ⟨_, rfl, _, xs.length, rfl, .inl ⟨xs, sq_of upd_same, rfl⟩, _, rfl, by omega, by omega, fun D hD => ?_⟩
    obtain ⟨sx, sy, Sp, Sq⟩ := S.lst
    have lp : l ≠ p := (ne_of_none Sp hl).symm
    have lq : l ≠ q := (ne_of_none Sq hl).symm
    have Dl : D ≠ l := fun z => by
      rw [z, upd_same] at hD
      cases hD
    have hD0 : H D = none := by
      rw [upd_ne Dl] at hD
      exact hD
    have Dp' : D ≠ p := (ne_of_none Sp hD0).symm
    have Dq : D ≠ q := (ne_of_none Sq hD0).symm
    have x1 : Ex H (upd H l (.lst xs)) := Ex.new hl
    have x2 : Ex H (upd (upd H l (.lst xs)) D (.lst [])) := x1.trans (Ex.new hD)
    refine lc_range (lo := 0) (fun i G => ∃ left acc, Spr G p q (n + (i : Int)) ∧ G l = some (.lst left) ∧ left.length + i = xs.length ∧
      G D = some (.lst acc) ∧ acc.length = i ∧ (acc ++ left).Perm xs ∧ But p q H G) ?_ ?_ ?_
    · exact ⟨xs, [], by simpa using S.ext x2, by rw [upd_ne Dl.symm, upd_same], rfl, upd_same, rfl, by simp, But.of x2⟩
    · rintro i G hi ⟨left, acc, Z, g1, g2, g4, g5, g6, B⟩
      refine ⟨rfl, ?_⟩
      unfold tYes
      dsimp only
      rw [if_pos (rfl : true = true)]
      have hi' : i < xs.length := by simpa using hi
      refine ⟨_, rfl, .inl ⟨rfl, _, sq_of g1⟩, _, rfl, _, rfl, _, left.length, rfl, .inl ⟨left, sq_of g1, rfl⟩, ?_⟩
      refine ⟨p, q, _, _, rfl, Z, by omega, by omega, by omega, fun r G2 r0 r1 Z2 B2 => ?_⟩
      have h1 : G2 l = some (.lst left) := B2 l _ lp lq g1
      have h2 : G2 D = some (.lst acc) := B2 D _ Dp' Dq g4
      obtain ⟨j, rfl⟩ : ∃ j : Nat, r = (j : Int) := ⟨r.toNat, by omega⟩
      have hj : j < left.length := by omega
      obtain ⟨y, hy⟩ : ∃ y, left[j]? = some y := ⟨left[j], by simp [hj]⟩
      refine ⟨l, left, _, j, y, rfl, rfl, h1, by omega, by omega, (ixN_seq (ixn hj)).1, hy, acc, by rw [upd_ne Dl]; exact h2, by rw [g5, sizeLine_eq]; omega, ?_⟩
      refine ⟨left.eraseIdx j, acc ++ [y], ?_, by rw [upd_ne Dl.symm, upd_same], ?_, upd_same, by simp [g5], ?_, ?_⟩
      · have e : n + ((i + 1 : Nat) : Int) = n + (i : Int) + 1 := by omega
        rw [e]
        exact Z2.keep (fun o h => by rw [upd_ne Dp'.symm, upd_ne lp.symm]; exact h) (fun o h => by rw [upd_ne Dq.symm, upd_ne lq.symm]; exact h)
      · rw [List.length_eraseIdx_of_lt hj]
        omega
      · rw [List.append_assoc]
        exact ((perm_eraseIdx hy).append_left acc).trans g6
      · intro b o n1 n2 e
        have nl : b ≠ l := ne_of_none e hl
        have nD : b ≠ D := ne_of_none e hD0
        rw [upd_ne nD, upd_ne nl]
        exact B2 b o n1 n2 (B b o n1 n2 e)
    · rintro G ⟨left, acc, Z, g1, g2, g4, g5, g6, B⟩
      have hl0 : left = [] := List.length_eq_zero_iff.mp (by have e : ((xs.length : Nat) : Int).toNat = xs.length := rfl; rw [e] at g2; omega)
      subst hl0
      exact k D G acc hD0 g4 (by simpa using g6) (by simpa using Z) B
end
end K17

set_option Elab.async false
set_option linter.all false
set_option maxRecDepth 100000
set_option maxHeartbeats 4000000
/-! _law_d_rows; _law_loose. -/
namespace K17
open PySem PySem.Spec PyProof.Rows L2 Evl
section
variable {K : PySem.W.Frag} {σ : L2.St} {H : Hp} {te tl : TE}
theorem iq_it {b : Bool} {a : Addr} {xs : List V} {R : It → Hp → Prop} (h : Ev tl σ H (.ref a)) (hx : SqB H b a xs) (k : ∀ (J : It) H1, Ex H H1 → Walk J xs.length (fun G => SqB G b a xs) (YAt xs) → R J H1) : iQ K tl σ H R := by
  cases b with
  | true => exact .inl (h H (Ex.refl _) _ fun H1 e => ⟨a, rfl, ⟨xs, sq_of (hx.ext e)⟩, k _ H1 e ⟨fun i G hi g => (walk_list (K := K)).goes i G hi (sq_of g), fun G g => (walk_list (K := K)).stops G (sq_of g), fun i G x G' hi g y => (walk_list (K := K)).yields i G x G' hi (sq_of g) y⟩⟩)
  | false => exact .inr (h H (Ex.refl _) _ fun H1 e => ⟨a, rfl, ⟨xs, st_of (hx.ext e)⟩, k _ H1 e ⟨fun i G hi g => (walk_tup (K := K)).goes i G hi (st_of g), fun G g => (walk_tup (K := K)).stops G (st_of g), fun i G x G' hi g y => (walk_tup (K := K)).yields i G x G' hi (st_of g) y⟩⟩)
/-- for i, x in enumerate(xs), xs a list or a tuple -/
abbrev iEnQ (K : PySem.W.Frag) (ta : TA) : TI := fun σ H R => iEnum K ta σ H R ∨ iEnumT K ta σ H R
theorem ienq_it {b : Bool} {a : Addr} {xs : List V} {R : It → Hp → Prop} (h : Ev tl σ H (.ref a)) (hx : SqB H b a xs) (k : ∀ (J : It) H1, Ex H H1 → Walk J xs.length (fun G => SqB G b a xs) (YPair (fun i => some (.int (i : Nat))) (fun i => xs[i]?)) → R J H1) : iEnQ K (tCons tl tNil) σ H R := by
  cases b with
  | true => exact .inl (h H (Ex.refl _) _ fun H1 e => ⟨a, xs, rfl, sq_of (hx.ext e), k _ H1 e ⟨fun i G hi g => (walk_enum (K := K)).goes i G hi (sq_of g), fun G g => (walk_enum (K := K)).stops G (sq_of g), fun i G x G' hi g y => (walk_enum (K := K)).yields i G x G' hi (sq_of g) y⟩⟩)
  | false => exact .inr (h H (Ex.refl _) _ fun H1 e => ⟨a, xs, rfl, st_of (hx.ext e), k _ H1 e ⟨fun i G hi g => (walk_enumT (K := K)).goes i G hi (st_of g), fun G g => (walk_enumT (K := K)).stops G (st_of g), fun i G x G' hi g y => (walk_enumT (K := K)).yields i G x G' hi (st_of g) y⟩⟩)
/-- a pair taken apart, a list or a tuple -/
abbrev gPrQ (K : PySem.W.Frag) (j1 j2 : Nat) : TG := fun v σ H Q => gPair K j1 j2 v σ H Q ∨ gLst K 2 (gCons (gName j1) (gCons (gName j2) gNil)) v σ H Q
theorem pg_or {X : Cx} {tg : Expr} {t1 t2 : TG} (h1 : PG X tg t1) (h2 : PG X tg t2) : PG X tg (fun v σ H Q => t1 v σ H Q ∨ t2 v σ H Q) := ⟨fun pins s σ H v u Q I r hw => by
  rcases hw with hw | hw
  · exact h1.run pins s σ H v u Q I r hw
  · exact h2.run pins s σ H v u Q I r hw⟩
theorem g_prq {j1 j2 : Nat} {b : Bool} {a : Addr} {x y : V} {Q : L2.St → Hp → Prop} (h : SqB H b a [x, y]) (k : Q ((σ.set j1 (some x)).set j2 (some y)) H) : gPrQ K j1 j2 (.ref a) σ H Q := by
  cases b with
  | true => exact .inr ⟨a, [x, y], rfl, sq_of h, rfl, _, _, rfl, _, _, rfl, rfl, k⟩
  | false => exact .inl ⟨a, [x, y], rfl, st_of h, rfl, _, _, rfl, _, _, rfl, rfl, k⟩
end
section
variable {P : Program} {w : World} {K : PySem.W.Frag} {mg : Str → Option Value} {base : Heap} {C : Addr}
def PQ (p q : Addr) (b : Addr) : Prop := b = p ∨ b = q
theorem go_pq {p q : Addr} {H G : Hp} (B : But p q H G) : Go (PQ p q) H G := Go.but B (.inl rfl) (.inr rfl)
theorem oszs_take {os : List O} {i : Nat} {x : O} (h : os[i]? = some x) : O.szs (os.take (i + 1)) = O.szs (os.take i) + x.sz := by
  rw [take_snoc h, O.szs_app]
  show _ + (x.sz + 0) = _
  omega
theorem oszs_take_le (os : List O) (i : Nat) : O.szs (os.take i) ≤ O.szs os := by
  have e : O.szs os = O.szs (os.take i) + O.szs (os.drop i) := by rw [← O.szs_app, List.take_append_drop]
  omega
theorem strips_app (xs ys : List O) : O.strips (xs ++ ys) = O.strips xs ++ O.strips ys := by rw [strips_eq, strips_eq, strips_eq, List.map_append]
theorem O.dp_get : ∀ {os : List O} {i : Nat} {x : O}, os[i]? = some x → x.dp ≤ O.dps os
  | [], _, _, e => by simp at e
  | a :: as, 0, x, e => by
    obtain rfl : a = x := by simpa using e
    exact Nat.le_max_left _ _
  | a :: as, i + 1, x, e => Nat.le_trans (O.dp_get (os := as) (i := i) (by simpa using e)) (Nat.le_max_right _ _)
def spLz (m : Nat) : Sp := fun vs H Q _ => ∃ (p q : Addr) (u : V) (n : Int) (o : O), vs = [.ref p, u] ∧ Spr H p q n ∧ n + (o.sz : Nat) ≤ 90000 ∧ OV (Hx (PQ p q) H) u o ∧ o.dp < m ∧ o.sz ≤ 9000 ∧
  ∀ (r : V) (G : Hp) (n' : Int) (o' : O), Spr G p q n' → n' ≤ n + (o.sz : Nat) → But p q H G → OV (Hx (Old H) G) r o' → o'.strip = o.strip → Q r G
abbrev nLz : List Str := ["_law_stream", "_law_thing", "_law_found", "_law_part"]
theorem sc_lz : FnScope nLz ["_law_stream", "_law_thing"] (defScope s__law_loose) := ⟨rfl, rfl, rfl, by decide +kernel, rfl, by decide +kernel, by decide +kernel⟩
theorem ok_loose2 (T : T17 P w K mg base) : ∀ m, Ok P w K mg base CX0 "_law_loose" ["_law_stream", "_law_thing"] (m + 2) (spLz m)
  | 0 => T.ok 15 rfl sc_lz (fun vs H Q E h => by obtain ⟨p, q, u, n, o, rfl, _⟩ := h; rfl) (fun kV doc pm an cdv ct us hl => match us, hl with | [_, _], _ => rfl) (fun f cdv A outer s H vs Q E hr h => by obtain ⟨p, q, u, n, o, _, _, _, _, h0, _⟩ := h; exact absurd h0 (Nat.not_lt_zero _))
  | m + 1 => by
    obtain ⟨fR, dR, GR, bR, kR, mR⟩ := (ok_loose2 T m).ex
    obtain ⟨fD, dD, GD, bD, kD, mD⟩ := (ok_dr T).ex
    refine T.ok 15 rfl sc_lz (fun vs H Q E h => ?_) (fun kV doc pm an cdv ct us hl => match us, hl with | [_, _], _ => rfl) (fun f cdv A outer s H vs Q E hr h => ?_)
    · obtain ⟨p, q, u, n, o, rfl, _⟩ := h
      rfl
    · obtain ⟨p, q, u, n, o, rfl, S, hn, ho, hd, hs, k⟩ := h
      refine ⟨_, pss_cons (ps_if (pt_not (pt_val (pe_isiLT T.isi T.list T.tuple (pv 1)))) (pss_one (ps_ret (pv 1))) pss_nil)
        (pss_cons (ps_setLc (i := 2) (own := [("_law_part", 3)]) (g := gName 3) (tt := tYes) (te := tCall (spLz m) [] E0 (tCons (tVar 0) (tCons (tVar 3) tNil))) (by rfl) sc_lz.nd rfl rfl (sw_true rfl rfl rfl (by decide +kernel)) (pi_seq (pv 1)) (blkOk_by (N := nLz) (sc := defScope s__law_loose) (by decide +kernel))
            (fun _ _ _ _ _ => pg_name (i := 3) sc_lz.nd rfl (Or.inl rfl)) (fun _ _ _ _ _ => pts_nil) (fun _ _ _ _ _ => pe_call GR hr (by rfl) mR kR bR .nil pass0 (pa_cons (pv 0) (pa_cons (pv 3) pa_nil))))
        (pss_one (ps_ret (pe_ifExp (pt_cmpR op_eq (pe_call GD (hr.mono (by omega)) (by rfl) mD kD bD .nil pass0 (pa_cons (pv 0) (pa_cons pe_int pa_nil))) pe_int (nomark _)) (pv 2) (pe_callTy call_tuple_of (by rfl) T.tuple PyProof.Rows.boot_tuple (pa_cons (pv 2) pa_nil)))))), ?_⟩
      have ho' : OV H u o := ho.ext hx_ex
      cases hq : o.isLst || o.isTup with
      | false =>
        refine q_when (b := true) (et_is (et_not (et_B (ev_isSeq (ev_var rfl) ho'))) (by rw [hq]; rfl)) (fun _ H1 e1 => ?_) fun z => nomatch z
        refine s_ret (ev_var rfl) fun H2 e2 => ?_
        have e := e1.trans e2
        refine k u H2 n o (S.ext e) (by omega) (But.of e) ?_ rfl
        have h2 := ho'.ext e
        cases o with
        | dct =>
          obtain ⟨a, rfl, ha⟩ := h2
          obtain ⟨a', e1, ha'⟩ := ho'
          obtain rfl : a = a' := V.ref.inj e1
          exact ⟨a, rfl, hx_of (fun ⟨xs, z⟩ => by rw [ha'] at z; cases z) (fun _ z => nomatch z) ha⟩
        | lst xs => cases hq
        | tup xs => cases hq
        | _ => exact h2
      | true =>
        obtain ⟨b, os, rfl⟩ := O.seq_of hq
        obtain ⟨a, us, rfl, ha, hov⟩ := ho.seq
        obtain ⟨npq, _, haH⟩ := hx_to ha
        have na1 : a ≠ p := fun z => npq (.inl z)
        have na2 : a ≠ q := fun z => npq (.inr z)
        have hsq : SqB H b a us := haH
        rw [O.seq_sz] at hn hs k
        have hdp : ∀ x ∈ os, x.dp < m := fun x hx => by
          obtain ⟨i, hi⟩ := List.getElem?_of_mem hx
          have := O.dp_get hi
          have : (O.seq b os).dp = O.dps os + 1 := by cases b <;> rfl
          omega
        have hul := hov.length
        have hol := O.len_szs os
        refine q_when (b := false) (et_is (et_not (et_B (ev_isSeq (ev_var rfl) ho'))) (by rw [hq]; rfl)) (fun z => nomatch z) fun _ H1 e1 => ?_
        refine iq_it (ev_var rfl) (hsq.ext e1) fun J0 H2 e2 wk Dl hD => ?_
        have e12 := e1.trans e2
        have S2 := S.ext e12
        obtain ⟨d1, d2⟩ := S2.nep hD
        have Da : Dl ≠ a := fun z => by
          have := hsq.ext e12
          unfold SqB at this
          rw [← z, hD] at this
          cases this
        obtain ⟨oP, oQ⟩ := S.old
        refine lc_it wk (fun i J => ∃ acc n' zs, Spr J p q n' ∧ n' ≤ n + (O.szs (os.take i) : Nat) ∧ J Dl = some (.lst acc) ∧ acc.length = i ∧ OVs (Hx (fun b => Old H b ∨ b = Dl) J) acc zs ∧ O.strips zs = O.strips (os.take i) ∧ But p q H2 J) ?_ ?_ ?_ ?_
        · exact ⟨[], n, [], S2.ext (Ex.new hD), by simp [O.szs], upd_same, rfl, .nil, rfl, But.of (Ex.new hD)⟩
        · rintro i J hi ⟨acc, n', zs, SJ, _, _, _, _, _, BJ⟩
          exact BJ _ _ na1 na2 (hsq.ext e12)
        · rintro i x J J' hi ⟨acc, n', zs, SJ, hnJ, hJ, hal, hov2, hst, BJ⟩ ⟨rfl, hx⟩
          refine ⟨rfl, ?_⟩
          unfold tYes
          dsimp only
          rw [if_pos (rfl : true = true)]
          obtain ⟨y, hy, hvy⟩ := hov.get hx
          have hyn := oszs_take hy
          have hle := oszs_take_le os (i + 1)
          have hil := (List.getElem?_eq_some_iff.mp hy).1
          have hvJ : OV (Hx (PQ p q) J') x y := hvy.ext ((go_pq (But.of e12)).trans (go_pq BJ)).ex
          refine ⟨.ref p, rfl, x, rfl, p, q, x, n', y, rfl, SJ, by omega, hvJ, hdp y (List.mem_of_getElem? hy), by omega, fun y' J2 n2 o2 SJ2 hn2 BJ2 hv2 hst2 => ?_⟩
          have hJ2 : J2 Dl = some (.lst acc) := BJ2 _ _ d1 d2 hJ
          refine ⟨acc, hJ2, sz_lt (by omega), acc ++ [y'], n2, zs ++ [o2], SJ2.keep (fun o h => by rw [upd_ne d1.symm]; exact h) (fun o h => by rw [upd_ne d2.symm]; exact h), by rw [hyn]; omega, upd_same, by simp [hal], ?_, ?_, ?_⟩
          · have hold : ∀ b, (Old H b ∨ b = Dl) → Old J' b := fun b hb => by
              rcases hb with hb | rfl
              · exact Old.but BJ SJ (Old.ex e12 hb)
              · exact ⟨_, hJ⟩
            have g1 : Go (fun b => Old H b ∨ b = Dl) J2 (upd J2 Dl (.lst (acc ++ [y']))) := Go.upd (.inr rfl)
            have g2 : Go (fun b => Old H b ∨ b = Dl) J' J2 := Go.but BJ2 (.inl oP) (.inl oQ)
            exact OVs.append ((hov2.ext g2.ex).ext g1.ex) (.cons ((hv2.ext (hx_mono hold)).ext g1.ex) .nil)
          · rw [take_snoc hy, strips_app, strips_app, hst]
            show _ ++ [o2.strip] = _ ++ [y.strip]
            rw [hst2]
          · intro b o nb1 nb2 e
            rw [upd_ne (ne_of_none e hD)]
            exact BJ2 _ _ nb1 nb2 (BJ _ _ nb1 nb2 e)
        · rintro J ⟨acc, n', zs, SJ, hnJ, hJ, hal, hov2, hst, BJ⟩
          rw [hul, List.take_length] at hst hnJ
          have nDl : H Dl = none := fresh_back e12 hD
          refine ⟨.ref p, rfl, p, q, n', 3, rfl, SJ, by omega, by decide, by decide, fun rr G r0 r1 S5 B5 => ⟨rfl, _, rfl, ?_⟩⟩
          have hGl : G Dl = some (.lst acc) := B5 _ _ d1 d2 hJ
          have Ball : But p q H G := ((But.of e12).trans BJ).trans B5
          have hovG : OVs (Hx (Old H) G) acc zs := by
            have a1 : OVs (Hx (Old H) J) acc zs := hov2.ext (hx_mono fun b hb => .inl hb)
            exact a1.ext (Go.but B5 oP oQ).ex
          have hso : (O.seq b os).strip = .tup (O.strips os) := by cases b <;> rfl
          dsimp only
          by_cases hb : decide (V.int rr = V.int 0) = true
          · rw [if_pos hb]
            refine ⟨.ref Dl, rfl, k (.ref Dl) G (n' + 1) (.lst zs) S5 (by omega) Ball ⟨Dl, _, rfl, hx_of (not_old nDl) lst_tbl hGl, hovG⟩ ?_⟩
            rw [hso, ← hst]
            rfl
          · rw [if_neg hb]
            refine ⟨.ref Dl, rfl, Dl, _, rfl, .inl ⟨sq_of hGl, fun pt hpt => ?_⟩⟩
            have x6 : Ex G (upd G pt (.tup acc)) := Ex.new hpt
            refine k (.ref pt) _ (n' + 1) (.tup zs) (S5.ext x6) (by omega) (Ball.trans (But.of x6)) ⟨pt, _, rfl, hx_of (not_old (Ball.back S5 hpt)) tup_tbl upd_same, hovG.ext (Go.of x6).ex⟩ ?_
            rw [hso, ← hst]
            rfl
end
end K17

set_option Elab.async false
set_option linter.all false
set_option maxRecDepth 100000
set_option maxHeartbeats 4000000
/-! zip of two things of any kind, as what dict() takes. -/
namespace ZM
open PySem
section
variable {prog : Program} {w : World} {A : Around} {E : Value → Shared → Prop} {s : Shared} {z TI TO i1 i2 T : Addr} {fp1 fp2 : List Addr} {n1 n2 i : Nat} {P1 P2 : Nat → Value → Prop} {St1 St2 : Nat → Heap → Prop} {f : Bool} {oT : Obj}
/-- next while the tuple that was told last is still held -/
theorem held_step {Q : Value → Shared → Prop} (S : ZipSep2 z TI TO i1 i2 fp1 fp2) (D1 : Draws prog w A i1 fp1 n1 P1 St1) (D2 : Draws prog w A i2 fp2 n2 P2 St2)
    (zh : IsZipHeld s.heap z TI TO T f) (tt : s.heap.get? T = some oT) (ti : IsTupOf2 s.heap TI (.ref i1) (.ref i2)) (st1 : St1 i s.heap) (st2 : St2 i s.heap) (lt1 : i < n1) (lt2 : i < n2)
    (k : ∀ x y h' tk, P1 i x → P2 i y → IsZipHeld h' z TI TO T true → St1 (i + 1) h' → St2 (i + 1) h' → IsTupOf2 h' s.heap.objs.size x y →
      (∀ c o, c ≠ z → c ≠ i1 → c ≠ i2 → s.heap.get? c = some o → h'.get? c = some o) → Q (.ref s.heap.objs.size) { s with heap := h', toks := tk }) :
    wpAny (model prog w) A (Builtin.«zip.__next__» ⟨[.ref z], []⟩) (fun fin s' => ∃ v, fin = .done (.ret v) ∧ Q v s') E s := by
  obtain ⟨h0, gg, dd, t0, oo⟩ := s
  show wpAny _ _ (field (.ref z) 2 >>= _) _ _ _
  refine wpAny_bind (wpAny_field zh rfl (x := .bool false) rfl ?_)
  show wpAny _ _ (field (.ref z) 3 >>= _) _ _ _
  refine wpAny_bind (wpAny_field zh rfl (x := .ref TI) rfl (wpAny_bind (wpAny_seqItems ti rfl ?_)))
  show wpAny _ _ (Builtin.SmallTypes.ownedTupleIsFree (.ref z) >>= _) _ _ _
  refine wpAny_bind (wpAny_tupleHeld_zip zh tt fun h1 zh1 b1 => ?_)
  replace b1 : Heap.SameBut z h0 h1 := b1
  simp only [Bool.false_eq_true, if_false]
  refine wpAny_bind ?_
  rw [← Array.forIn_toList]
  simp only [List.forIn_cons, List.forIn_nil]
  refine wpAny_bind (wpAny_bind (wpAny_holding ?_))
  show wpAny _ _ (Builtin.SmallTypes.nextOf (.ref i1) >>= _) _ _ (⟨h1, gg, dd, t0, oo⟩ : Shared)
  refine wpAny_bind (D1.item i ⟨h1, gg, dd, t0, oo⟩ _ _ lt1 (D1.over st1 b1 S.zf1) fun x h2 t2 hx sx b2 => wpAny_pure (wpAny_pure ?_))
  replace b2 : Heap.SameBut i1 h1 h2 := b2
  refine wpAny_bind (wpAny_bind (wpAny_holding ?_))
  show wpAny _ _ (Builtin.SmallTypes.nextOf (.ref i2) >>= _) _ _ (⟨h2, gg, dd, t2, oo⟩ : Shared)
  refine wpAny_bind (D2.item i ⟨h2, gg, dd, t2, oo⟩ _ _ lt2 (D2.over (D2.over st2 b1 S.zf2) b2 S.sep1_2) fun y h3 t3 hy sy b3 => wpAny_pure (wpAny_pure (wpAny_pure ?_)))
  replace b3 : Heap.SameBut i2 h2 h3 := b3
  show wpAny _ _ (newTuple [x, y] >>= _) _ _ (⟨h3, gg, dd, t3, oo⟩ : Shared)
  refine wpAny_bind (wpAny_newTuple (wpAny_pure ⟨_, rfl, ?_⟩))
  have size : h3.objs.size = h0.objs.size := by rw [b3.1, b2.1, b1.1]
  have keep : ∀ c o, c ≠ z → c ≠ i1 → c ≠ i2 → h0.get? c = some o → h3.get? c = some o := fun c o cz c1 c2 e => b3.extBut c o c2 (b2.extBut c o c1 (b1.extBut c o cz e))
  have zh3 : IsZipHeld h3 z TI TO T true := b3.extBut z _ S.zi2 (b2.extBut z _ S.zi1 zh1)
  have up : ∀ c o, h3.get? c = some o → (h3.push { cls := .type "tuple", data := .seq #[x, y] }).get? c = some o := fun c o e => Heap.get?_push_of_some _ e
  have pair : IsTupOf2 (h3.push { cls := .type "tuple", data := .seq #[x, y] }) h3.objs.size x y := Heap.get?_push_size _ rfl
  show Q (.ref h3.objs.size) _
  rw [size] at pair ⊢
  exact k x y _ t3 hx hy (up _ _ zh3) (D1.frame _ _ _ (D1.over sx b3 S.sep2_1) fun b _ o e => up b o e) (D2.frame _ _ _ sy fun b _ o e => up b o e) pair fun c o cz c1 c2 e => up c o (keep c o cz c1 c2 e)
/-- its end, held -/
theorem held_end {Q : Fin → Shared → Prop} (S : ZipSep2 z TI TO i1 i2 fp1 fp2) (D1 : Draws prog w A i1 fp1 n1 P1 St1) (D2 : Draws prog w A i2 fp2 n2 P2 St2)
    (zh : IsZipHeld s.heap z TI TO T f) (tt : s.heap.get? T = some oT) (ti : IsTupOf2 s.heap TI (.ref i1) (.ref i2)) (st1 : St1 i s.heap) (st2 : St2 i s.heap) (le1 : i ≤ n1) (le2 : i ≤ n2) (last : i = n1 ∨ i = n2)
    (k : ∀ h' tk e, (∀ c o, c ≠ z → c ≠ i1 → c ≠ i2 → s.heap.get? c = some o → h'.get? c = some o) → (∃ o, h'.get? e = some o ∧ o.cls = .type "StopIteration") → E (.ref e) { s with heap := h', toks := tk }) :
    wpAny (model prog w) A (Builtin.«zip.__next__» ⟨[.ref z], []⟩) Q E s := by
  obtain ⟨h0, gg, dd, t0, oo⟩ := s
  show wpAny _ _ (field (.ref z) 2 >>= _) _ _ _
  refine wpAny_bind (wpAny_field zh rfl (x := .bool false) rfl ?_)
  show wpAny _ _ (field (.ref z) 3 >>= _) _ _ _
  refine wpAny_bind (wpAny_field zh rfl (x := .ref TI) rfl (wpAny_bind (wpAny_seqItems ti rfl ?_)))
  show wpAny _ _ (Builtin.SmallTypes.ownedTupleIsFree (.ref z) >>= _) _ _ _
  refine wpAny_bind (wpAny_tupleHeld_zip zh tt fun h1 zh1 b1 => ?_)
  replace b1 : Heap.SameBut z h0 h1 := b1
  simp only [Bool.false_eq_true, if_false]
  refine wpAny_bind ?_
  rw [← Array.forIn_toList]
  simp only [List.forIn_cons, List.forIn_nil]
  refine wpAny_bind (wpAny_bind (wpAny_holding ?_))
  show wpAny _ _ (Builtin.SmallTypes.nextOf (.ref i1) >>= _) _ _ (⟨h1, gg, dd, t0, oo⟩ : Shared)
  by_cases lt : i < n1
  · refine wpAny_bind (D1.item i ⟨h1, gg, dd, t0, oo⟩ _ _ lt (D1.over st1 b1 S.zf1) fun x h2 t2 hx sx b2 => wpAny_pure (wpAny_pure ?_))
    replace b2 : Heap.SameBut i1 h1 h2 := b2
    refine wpAny_bind (wpAny_bind (wpAny_holding ?_))
    show wpAny _ _ (Builtin.SmallTypes.nextOf (.ref i2) >>= _) _ _ (⟨h2, gg, dd, t2, oo⟩ : Shared)
    have e2 : i = n2 := by omega
    refine wpAny_bind (D2.done ⟨h2, gg, dd, t2, oo⟩ _ _ (e2 ▸ D2.over (D2.over st2 b1 S.zf2) b2 S.sep1_2) fun h3 e b3 he => ?_)
    replace b3 : Heap.ExtBut i2 h2 h3 := b3
    exact k h3 t2 e (fun c o cz c1 c2 x => b3 c o c2 (b2.extBut c o c1 (b1.extBut c o cz x))) he
  · have e1 : i = n1 := by omega
    refine wpAny_bind (D1.done ⟨h1, gg, dd, t0, oo⟩ _ _ (e1 ▸ D1.over st1 b1 S.zf1) fun h2 e b2 he => ?_)
    replace b2 : Heap.ExtBut i1 h1 h2 := b2
    exact k h2 t0 e (fun c o cz c1 c2 x => b2 c o c1 (b1.extBut c o cz x)) he
theorem next_step {Q : Option Value → Shared → Prop} (S : ZipSep2 z TI TO i1 i2 fp1 fp2) (D1 : Draws prog w A.in1 i1 fp1 n1 P1 St1) (D2 : Draws prog w A.in1 i2 fp2 n2 P2 St2)
    (zh : IsZipHeld s.heap z TI TO T f) (tt : s.heap.get? T = some oT) (ti : IsTupOf2 s.heap TI (.ref i1) (.ref i2)) (st1 : St1 i s.heap) (st2 : St2 i s.heap) (lt1 : i < n1) (lt2 : i < n2)
    (k : ∀ x y h' tk, P1 i x → P2 i y → IsZipHeld h' z TI TO T true → St1 (i + 1) h' → St2 (i + 1) h' → IsTupOf2 h' s.heap.objs.size x y →
      (∀ c o, c ≠ z → c ≠ i1 → c ≠ i2 → s.heap.get? c = some o → h'.get? c = some o) → Q (some (.ref s.heap.objs.size)) { s with heap := h', toks := tk }) : wpAny (model prog w) A (pyNext (.ref z)) Q E s := by
  have ty : s.TypeIs (.ref z) "zip" := ⟨_, zh, rfl⟩
  unfold pyNext
  refine wpAny_bind (wpAny_attempt (wpAny_callSpecial?_slot (name := Str.ofString "__next__") ty F.slot_zip_next (wpAny_call_entry F.slot_zip_next ty F.entry_zip_next ?_ (F.args_zip_next_1 _))))
  exact held_step S D1 D2 zh tt ti st1 st2 lt1 lt2 fun x y h' tk a b c d e g m => wpAny_pure (k x y h' tk a b c d e g m)
theorem next_end {Q : Option Value → Shared → Prop} (S : ZipSep2 z TI TO i1 i2 fp1 fp2) (D1 : Draws prog w A.in1 i1 fp1 n1 P1 St1) (D2 : Draws prog w A.in1 i2 fp2 n2 P2 St2)
    (zh : IsZipHeld s.heap z TI TO T f) (tt : s.heap.get? T = some oT) (ti : IsTupOf2 s.heap TI (.ref i1) (.ref i2)) (st1 : St1 i s.heap) (st2 : St2 i s.heap) (le1 : i ≤ n1) (le2 : i ≤ n2) (last : i = n1 ∨ i = n2)
    (k : ∀ h' tk, (∀ c o, c ≠ z → c ≠ i1 → c ≠ i2 → s.heap.get? c = some o → h'.get? c = some o) → Q none { s with heap := h', toks := tk }) : wpAny (model prog w) A (pyNext (.ref z)) Q E s := by
  have ty : s.TypeIs (.ref z) "zip" := ⟨_, zh, rfl⟩
  unfold pyNext
  refine wpAny_bind (wpAny_attempt (wpAny_callSpecial?_slot (name := Str.ofString "__next__") ty F.slot_zip_next (wpAny_call_entry F.slot_zip_next ty F.entry_zip_next ?_ (F.args_zip_next_1 _))))
  refine held_end S D1 D2 zh tt ti st1 st2 le1 le2 last fun h' tk e keep ⟨o, ho, hc⟩ => ?_
  exact wpAny_bind (wpAny_isInstance (T := "StopIteration") (b := true) ⟨o, ho, hc⟩ isSubtype_stop (wpAny_pure (k _ _ keep)))
/-- a zip over two iterators, not begun: what dict() takes -/
theorem pairs (S : ZipSep2 z TI TO i1 i2 fp1 fp2) (hb1 : ∀ A : Around, A.handled = none → Draws prog w A i1 fp1 n1 P1 St1) (hb2 : ∀ A : Around, A.handled = none → Draws prog w A i2 fp2 n2 P2 St2)
    (fr1 : ∀ i h h', St1 i h → (∀ b ∈ fp1, ∀ o, h.get? b = some o → h'.get? b = some o) → St1 i h') (fr2 : ∀ i h h', St2 i h → (∀ b ∈ fp2, ∀ o, h.get? b = some o → h'.get? b = some o) → St2 i h')
    (on1 : ∀ h, St1 0 h → ∀ b ∈ fp1, ∃ o, h.get? b = some o) (on2 : ∀ h, St2 0 h → ∀ b ∈ fp2, ∃ o, h.get? b = some o) :
    PairArg prog w "zip" z (z :: TI :: TO :: (fp1 ++ fp2)) [z, TO, i1, i2] (min n1 n2) (fun i k v => P1 i k ∧ P2 i v)
      (fun h => IsZip h z TI TO .none ∧ IsTupOf2 h TI (.ref i1) (.ref i2) ∧ (∃ a b, IsTupOf2 h TO a b) ∧ St1 0 h ∧ St2 0 h) where
  type := fun s ok => ⟨_, ok.1, rfl⟩
  notDict := by decide
  keep := fun h h' ok hk => by
    obtain ⟨a1, a2, ⟨a, b, a3⟩, a4, a5⟩ := ok
    exact ⟨hk _ _ a1, hk _ _ a2, ⟨a, b, hk _ _ a3⟩, fr1 _ _ _ a4 fun b _ o e => hk b o e, fr2 _ _ _ a5 fun b _ o e => hk b o e⟩
  there := fun h ok b hb => by
    obtain ⟨a1, a2, ⟨a, c, a3⟩, a4, a5⟩ := ok
    rcases List.mem_cons.mp hb with rfl | hb
    · exact ⟨_, a1⟩
    rcases List.mem_cons.mp hb with rfl | hb
    · exact ⟨_, a2⟩
    rcases List.mem_cons.mp hb with rfl | hb
    · exact ⟨_, a3⟩
    rcases List.mem_append.mp hb with hb | hb
    · exact on1 h a4 b hb
    · exact on2 h a5 b hb
  sub := fun b hb => by
    simp only [List.mem_cons, List.not_mem_nil, or_false] at hb
    simp only [List.mem_cons, List.mem_append]
    rcases hb with rfl | rfl | rfl | rfl
    · exact .inl rfl
    · exact .inr (.inr (.inl rfl))
    · exact .inr (.inr (.inr (.inl S.mem1)))
    · exact .inr (.inr (.inr (.inr S.mem2)))
  noKeys := fun A s Q E hA ok h => getAttrOr_miss_zip ok.1 rfl rfl rfl zip_no_keys (by decide +kernel) hA h
  iter := fun A s d Q E hA ok hd off h => by
    obtain ⟨a1, a2, ⟨a, b, a3⟩, a4, a5⟩ := ok
    simp only [List.mem_cons, List.mem_append, not_or] at off
    obtain ⟨dz, dI, dO, d1, d2⟩ := off
    have di1 : d ≠ i1 := fun e => d1 (e ▸ S.mem1)
    have di2 : d ≠ i2 := fun e => d2 (e ▸ S.mem2)
    refine wpAny_pyIter_zip a1 (h z [z, TO, i1, i2] (fun i h => IsTupOf2 h TI (.ref i1) (.ref i2) ∧ St1 i h ∧ St2 i h ∧
      ((IsZip h z TI TO .none ∧ ∃ a b, IsTupOf2 h TO a b) ∨ ∃ T f oT, IsZipHeld h z TI TO T f ∧ h.get? T = some oT ∧ T ≠ z ∧ T ≠ i1 ∧ T ≠ i2 ∧ T ≠ d)) s.heap s.toks ?_
      ⟨a2, a4, a5, .inl ⟨a1, a, b, a3⟩⟩ (fun _ _ e => e) fun b hb => .inl hb)
    have D1 := hb1 A hA
    have D2 := hb2 A hA
    have D1' := hb1 A.in1 hA
    have D2' := hb2 A.in1 hA
    exact {
      off := fun hm => by
        simp only [List.mem_cons, List.not_mem_nil, or_false] at hm
        rcases hm with e | e | e | e
        · exact dz e
        · exact dO e
        · exact di1 e
        · exact di2 e
      frame := fun i h1 h2 st hk => by
        obtain ⟨c1, c2, c3, c4⟩ := st
        refine ⟨hk _ _ (Ne.symm dI) c1, D1.frame _ _ _ c2 fun b hb o e => hk b o (fun x => d1 (x ▸ hb)) e, D2.frame _ _ _ c3 fun b hb o e => hk b o (fun x => d2 (x ▸ hb)) e, ?_⟩
        rcases c4 with ⟨c4, a, b, c5⟩ | ⟨T, f, oT, c4, c5, r⟩
        · exact .inl ⟨hk _ _ (Ne.symm dz) c4, a, b, hk _ _ (Ne.symm dO) c5⟩
        · exact .inr ⟨T, f, oT, hk _ _ (Ne.symm dz) c4, hk _ _ r.2.2.2 c5, r⟩
      item := fun i s1 Q1 E1 hi st hds hQ => by
        obtain ⟨c1, c2, c3, c4⟩ := st
        have l1 : i < n1 := Nat.lt_of_lt_of_le hi (Nat.min_le_left ..)
        have l2 : i < n2 := Nat.lt_of_lt_of_le hi (Nat.min_le_right ..)
        have off : ∀ {c : Addr}, (∃ o, s1.heap.get? c = some o) → s1.heap.objs.size ≠ c := fun ⟨o, e⟩ => Nat.ne_of_gt (Heap.lt_size e)
        have m1 := off (D1.live _ _ c2)
        have m2 := off (D2.live _ _ c3)
        rcases c4 with ⟨c4, a, b, c5⟩ | ⟨T, f, oT, c4, c5, r1, r2, r3, r4⟩
        · refine wpAny_pyNext_zipD2_item S D1' D2' c4 c1 c5 c2 c3 l1 l2 fun x y h' tk hx hy e1 e2 e3 e4 e5 e6 keep => ?_
          refine hQ s1.heap.objs.size x y h' tk ⟨hx, hy⟩ (.inl ⟨_, e5, rfl, _, rfl⟩) ⟨keep _ _ S.TIz S.TITO S.TIi1 S.TIi2 c1, e3, e4, .inr ⟨s1.heap.objs.size, false, _, e1, e5, off ⟨_, c4⟩, m1, m2, Nat.ne_of_gt hds⟩⟩ fun c o hc e => ?_
          simp only [List.mem_cons, List.not_mem_nil, or_false, not_or] at hc
          exact keep c o hc.1 hc.2.1 hc.2.2.1 hc.2.2.2 e
        · refine next_step S D1' D2' c4 c5 c1 c2 c3 l1 l2 fun x y h' tk hx hy e1 e3 e4 e5 keep => ?_
          refine hQ s1.heap.objs.size x y h' tk ⟨hx, hy⟩ (.inl ⟨_, e5, rfl, _, rfl⟩) ⟨keep _ _ S.TIz S.TIi1 S.TIi2 c1, e3, e4, .inr ⟨T, true, oT, e1, keep _ _ r1 r2 r3 c5, r1, r2, r3, r4⟩⟩ fun c o hc e => ?_
          simp only [List.mem_cons, List.not_mem_nil, or_false, not_or] at hc
          exact keep c o hc.1 hc.2.2.1 hc.2.2.2 e
      done := fun s1 Q1 E1 st hQ => by
        obtain ⟨c1, c2, c3, c4⟩ := st
        have le1 : min n1 n2 ≤ n1 := Nat.min_le_left ..
        have le2 : min n1 n2 ≤ n2 := Nat.min_le_right ..
        have last : min n1 n2 = n1 ∨ min n1 n2 = n2 := by omega
        rcases c4 with ⟨c4, a, b, c5⟩ | ⟨T, f, oT, c4, c5, r1, r2, r3, r4⟩
        · refine wpAny_pyNext_zipD2_end S D1' D2' c4 c1 c5 c2 c3 le1 le2 last fun h' tk keep => hQ h' tk fun c o hc e => ?_
          simp only [List.mem_cons, List.not_mem_nil, or_false, not_or] at hc
          exact keep c o hc.1 hc.2.1 hc.2.2.1 hc.2.2.2 e
        · refine next_end S D1' D2' c4 c5 c1 c2 c3 le1 le2 last fun h' tk keep => hQ h' tk fun c o hc e => ?_
          simp only [List.mem_cons, List.not_mem_nil, or_false, not_or] at hc
          exact keep c o hc.1 hc.2.2.1 hc.2.2.2 e }
end
end ZM

set_option Elab.async false
set_option linter.all false
set_option maxRecDepth 100000
set_option maxHeartbeats 4000000
/-! dict(zip(xs, t)) of a list and a tuple. -/
namespace L2
open PySem PySem.Spec PyProof.Rows
theorem kv_zip : ∀ {kvs : List (Key × V)} {its : List Value}, Vals (kvs.map (·.2)) its → KV kvs ((kvs.map (·.1)).zip its)
  | [], its, r => .nil
  | p :: kvs, its, r => by
    rw [List.map_cons] at r
    cases r with
    | cons h t => exact .cons ⟨rfl, h⟩ (kv_zip t)
theorem key_is {P : Program} {w : World} : ∀ {kvs : List (Key × V)} {ks its : List Value} {i : Nat} {k v : Value}, Vals (kvs.map fun p => kV p.1) ks → Vals (kvs.map (·.2)) its → ks[i]? = some k → its[i]? = some v → ∃ key, ((kvs.map (·.1)).zip its)[i]? = some (key, v) ∧ (mixKind P w).is key k = true
  | [], ks, its, i, k, v, r, q, a, b => by
    rw [List.map_nil] at r
    cases r
    simp at a
  | p :: kvs, ks, its, i, k, v, r, q, a, b => by
    rw [List.map_cons] at r q
    cases r with
    | cons h t =>
      cases q with
      | cons h' t' =>
        cases i with
        | zero =>
          simp at a b
          subst a b
          exact ⟨p.1, by simp, kV_is h⟩
        | succ i =>
          obtain ⟨key, e1, e2⟩ := key_is (P := P) (w := w) t t' (by simpa using a) (by simpa using b)
          exact ⟨key, by simpa using e1, e2⟩
/-- the keys' own tuples -/
abbrev KeyAt (H : Hp) (x : V) (kv : List Key × V) : Prop := ∃ t, x = V.ref t ∧ H t = some (.tup (kv.1.map kV))
theorem kt_zip {H : Hp} : ∀ {kvs : List (List Key × V)} {xs : List V} {ks its : List Value}, Paired (KeyAt H) xs kvs → Vals xs ks → Vals (kvs.map (·.2)) its →
    ∃ ps : List (List Key × Addr × Value), KT H kvs ps ∧ ps.length = kvs.length ∧ ∀ (i : Nat) (k v : Value), ks[i]? = some k → its[i]? = some v → ∃ key b, ps[i]? = some (key, b, v) ∧ k = .ref b
  | [], xs, ks, its, hp, r, q => by
    cases hp
    cases r
    exact ⟨[], .nil, rfl, fun i k v a _ => by simp at a⟩
  | p :: kvs, xs, ks, its, hp, r, q => by
    rw [List.map_cons] at q
    cases hp with
    | cons h1 hp =>
      cases r with
      | cons h t =>
        cases q with
        | cons h' t' =>
          obtain ⟨b, rfl, hb⟩ := h1
          obtain ⟨ps, a1, a2, a3⟩ := kt_zip hp t t'
          cases h
          refine ⟨(p.1, b, _) :: ps, .cons ⟨rfl, hb, h'⟩ a1, by simp [a2], fun i k v e1 e2 => ?_⟩
          cases i with
          | zero =>
            simp at e1 e2
            subst e1 e2
            exact ⟨p.1, b, rfl, rfl⟩
          | succ i =>
            obtain ⟨key, b', c1, c2⟩ := a3 i k v (by simpa using e1) (by simpa using e2)
            exact ⟨key, b', by simpa using c1, c2⟩
theorem kt_keys {H : Hp} : ∀ {kvs : List (List Key × V)} {ps : List (List Key × Addr × Value)}, KT H kvs ps → kvs.map (·.1) = ps.map (·.1)
  | _, _, .nil => rfl
  | _, _, .cons h t => by rw [List.map_cons, List.map_cons, kt_keys t, h.1]
theorem far {c N : Nat} (h : c < N) : c ≠ N + 4 ∧ c ≠ N + 3 ∧ c ≠ N ∧ c ≠ N + 1 := by omega
def rDZ (K : PySem.W.Frag) : List V → Hp → VK → Prop := fun vs H Q => ∃ a b xs ys, vs = [.ref a, .ref b] ∧ SqL K H a xs ∧ SqT K H b ys ∧
  ((∃ kvs : List (Key × V), xs = kvs.map (fun p => kV p.1) ∧ ys = kvs.map (·.2) ∧ ∀ p, H p = none → Q (.ref p) (upd H p (.dK (mergeK [] kvs)))) ∨
   ∃ kvs : List (List Key × V), Paired (KeyAt H) xs kvs ∧ ys = kvs.map (·.2) ∧ (kvs.map (·.1)).Nodup ∧ ∀ p, H p = none → Q (.ref p) (upd H p (.dT kvs)))
section
variable {X : Cx}
theorem pe_dictZip {e1 e2 : Expr} {p1 p2 pos1 pos2 : Pos} {ta : TA} (hcalm : X.calm = true) (hu : X.A.units + 3 < cLine) (hgd : Gl X "dict") (hmd : X.mg "dict" = none) (hgz : Gl X "zip") (hmz : X.mg "zip" = none) (ha : PA X [e1, e2] ta)
    (he : starEach [.Call (.Name "zip" p2) [e1, e2] [] pos2] X.env = (false, eval (.Call (.Name "zip" p2) [e1, e2] [] pos2) X.env) :: starEach [] X.env := by rfl)
    (he2 : starEach [e1, e2] X.env = (false, eval e1 X.env) :: starEach [e2] X.env := by rfl) (hpl2 : (backTo pos2 (starEach [e2] X.env)).any (·.1) = false := by rfl) :
    PE X (.Call (.Name "dict" p1) [.Call (.Name "zip" p2) [e1, e2] [] pos2] [] pos1) (tCB (rDZ X.K) ta) := by
  refine ⟨fun pins s σ H Q I h => ?_⟩
  refine wpAny_Call_Name_kw (ld_blt I hgd hmd (u := .type "dict") (by decide +kernel) ?_ (by decide) (by decide))
  refine PyProof.Rows.callWith_type1 (e := .Call (.Name "zip" p2) [e1, e2] [] pos2) (rest := []) ?_ he rfl
  rw [he]
  show wpAny _ _ (spliced ((false, eval (.Call (.Name "zip" p2) [e1, e2] [] pos2) X.env) :: backTo pos1 (starEach [] X.env))) _ _ s
  refine Calls.spliced_cons ?_
  refine wpAny_Call_Name_kw (ld_blt I hgz hmz (u := .type "zip") (by decide +kernel) ?_ (by decide) (by decide))
  refine PyProof.Rows.callWith_type1 (thn (ha.run pos2 pins s σ H _ I h) fun us s1 ⟨vs, H1, I1, r1, q1⟩ => ?_) he2 hpl2
  obtain ⟨a, b, xs, ys, rfl, hx, hy, q⟩ := q1
  obtain ⟨u, v, rfl, ru, rv⟩ := vals2 r1
  cases ru
  cases rv
  obtain ⟨ks, rk, ⟨ol, nl, gl, cl, dl, el⟩, lk⟩ := I1.list hx
  obtain ⟨its, ri, pt, li⟩ := I1.tuple hy
  have isL : s1.heap.IsList a ks.toArray := ⟨ol, gl, cl, nl, el⟩
  have isT : s1.heap.IsTuple b its.toArray := pt
  have la : a < s1.heap.objs.size := Heap.lt_size gl
  have lb : b < s1.heap.objs.size := pt.lt
  refine zip_begins2 (begins_list a ks.toArray) (begins_tuple b its.toArray) isL isT fun h2 g1 g2 g3 g4 g5 g6 keep => ?_
  refine Calls.spliced_nil ?_
  have hA : X.A.handled = none := I1.ok.hd hcalm
  have na : a ≠ s1.heap.objs.size := Nat.ne_of_lt la
  have nb : b ≠ s1.heap.objs.size + 1 := Nat.ne_of_lt (Nat.lt_succ_of_lt lb)
  have S : ZipSep2 (s1.heap.objs.size + 4) (s1.heap.objs.size + 2) (s1.heap.objs.size + 3) s1.heap.objs.size (s1.heap.objs.size + 1) [s1.heap.objs.size, a] [s1.heap.objs.size + 1, b] :=
    zip_sep2 (fp1 := [a]) (fp2 := [b]) (fun c hc => by rw [List.mem_singleton.mp hc]; exact la) (fun c hc => by rw [List.mem_singleton.mp hc]; exact lb)
  have D1 : ∀ A : Around, A.handled = none → Draws X.prog X.w A s1.heap.objs.size [s1.heap.objs.size, a] ks.toArray.size (fun i v => ks.toArray[i]? = some v) (fun i h => h.IsListIter s1.heap.objs.size a i ∧ h.IsList a ks.toArray) := fun A hA => Draws.list hA _ _ na _
  have D2 : ∀ A : Around, A.handled = none → Draws X.prog X.w A (s1.heap.objs.size + 1) [s1.heap.objs.size + 1, b] its.toArray.size (fun i v => its.toArray[i]? = some v) (fun i h => h.IsTupleIter (s1.heap.objs.size + 1) b i ∧ h.IsTuple b its.toArray) := fun A hA => Draws.tuple hA _ _ nb _
  have P := ZM.pairs S D1 D2 (D1 X.A hA).frame (D2 X.A hA).frame
    (fun h ⟨⟨o1, e1, _⟩, ⟨o2, e2, _⟩⟩ c hc => by
      rcases List.mem_cons.mp hc with rfl | hc
      · exact ⟨_, e1⟩
      · rw [List.mem_singleton.mp hc]; exact ⟨_, e2⟩)
    (fun h ⟨⟨o1, e1, _⟩, ⟨o2, e2, _⟩⟩ c hc => by
      rcases List.mem_cons.mp hc with rfl | hc
      · exact ⟨_, e1⟩
      · rw [List.mem_singleton.mp hc]; exact ⟨_, e2⟩)
  have ok : IsZip h2 (s1.heap.objs.size + 4) (s1.heap.objs.size + 2) (s1.heap.objs.size + 3) .none ∧ IsTupOf2 h2 (s1.heap.objs.size + 2) (.ref s1.heap.objs.size) (.ref (s1.heap.objs.size + 1)) ∧ (∃ a b, IsTupOf2 h2 (s1.heap.objs.size + 3) a b) ∧
      (h2.IsListIter s1.heap.objs.size a 0 ∧ h2.IsList a ks.toArray) ∧ (h2.IsTupleIter (s1.heap.objs.size + 1) b 0 ∧ h2.IsTuple b its.toArray) :=
    ⟨g1, g2, ⟨_, _, g3⟩, ⟨⟨_, g4, rfl, rfl⟩, isL.at fun o e => keep _ o e⟩, ⟨_, g5, rfl, rfl⟩, isT.at fun o e => keep _ o e⟩
  have lks := rk.length
  have lk2 : ks.length ≤ sizeLine := by omega
  have lits := ri.length
  have old : ∀ (h3 : Heap), (∀ c o, c ∉ [s1.heap.objs.size + 4, s1.heap.objs.size + 3, s1.heap.objs.size, s1.heap.objs.size + 1] → h2.get? c = some o → h3.get? c = some o) → ∀ c o, s1.heap.get? c = some o → h3.get? c = some o := fun h3 k3 c o e => k3 c o (fun hc => by
    have lc : c < s1.heap.objs.size := Heap.lt_size e
    have lc' : (c : Nat) < s1.heap.objs.size := lc
    simp only [List.mem_cons, List.not_mem_nil, or_false] at hc
    rcases hc with e1 | e1 | e1 | e1
    · exact (far lc).1 e1
    · exact (far lc).2.1 e1
    · exact (far lc).2.2.1 e1
    · exact (far lc).2.2.2 e1) (keep c o e)
  have le : s1.heap.objs.size ≤ h2.objs.size := by rw [g6]; exact Nat.le_add_right ..
  have hm : (h2.objs.size == sysModules) = false := beq_eq_false_iff_ne.mpr (Nat.ne_of_gt (Nat.lt_of_lt_of_le I1.big le))
  rcases q with ⟨kvs, ex, ey, q⟩ | ⟨kvs, hp, ey, nd, q⟩
  · rw [ex] at rk lks
    rw [ey] at ri lits
    rw [List.length_map] at lks lits
    refine _root_.PySem.call_dict_pairs (knd := mixKind X.prog X.w) (kvs := (kvs.map (·.1)).zip its) P hA ok ⟨by simp [lks, lits], fun i k v ⟨c1, c2⟩ => key_is rk ri (by simpa using c1) (by simpa using c2)⟩ (by simp; omega) fun h3 tk hd k3 => ?_
    have hlen : (mergeK [] kvs).length ≤ sizeLine := Nat.le_trans (length_mergeK kvs []) (by rw [List.length_nil, Nat.zero_add]; omega)
    exact ⟨.ref h2.objs.size, upd H1 h2.objs.size (.dK (mergeK [] kvs)), I1.laid (t' := tk) (old h3 k3) le (show ObjOk X.prog X.w _ _ _ (.dK (mergeK [] kvs)) from ⟨hlen, hm, merged [] _, KV.merge (kv_zip ri) .nil, hd⟩), rfl, q _ (I1.hok.fresh le)⟩
  · rw [ey] at ri lits
    rw [List.length_map] at lits
    obtain ⟨ps, c1, c2, c3⟩ := kt_zip hp rk ri
    have lx := hp.length
    have nd2 : (ps.map (·.1)).Nodup := by rw [← kt_keys c1]; exact nd
    have at1 : ∀ x ∈ ps, (tupleKind (mixKind X.prog X.w)).is s1.heap x.1 x.2.1 := by
      have all : ∀ {l : List (List Key × V)} {m : List (List Key × Addr × Value)}, KT H1 l m → ∀ x ∈ m, (tupleKind (mixKind X.prog X.w)).is s1.heap x.1 x.2.1 := by
        intro l m qq
        induction qq with
        | nil => intro x hx; exact nomatch hx
        | @cons p q ps qs hq t ih =>
          intro x hx
          rcases List.mem_cons.mp hx with e | hx
          · subst e
            exact key_of I1.hok (by rw [← hq.1]; exact hq.2.1)
          · exact ih x hx
      exact all c1
    refine _root_.PySem.call_dict_pairsH (knd := tupleKind (mixKind X.prog X.w)) (ps := ps) P hA (show X.A.in1.in1.units < cLine from ?_) ok ⟨by simp [c2]; omega, fun i k v ⟨d1, d2⟩ => c3 i k v (by simpa using d1) (by simpa using d2)⟩ (fun h' hk x hx => ?_) (by simp; omega) fun h3 tk hd k3 => ?_
    · show X.A.units + 1 + 1 < cLine
      omega
    · obtain ⟨o, items, n, e1, e2, e3, e4⟩ := at1 x hx
      have lt : x.2.1 < s1.heap.objs.size := Heap.lt_size e1
      have lt' : (x.2.1 : Nat) < s1.heap.objs.size := lt
      refine ⟨o, items, n, hk _ _ (fun z => ?_) (fun hc => ?_) (keep _ _ e1), e2, e3, e4⟩
      · exact Nat.ne_of_lt (Nat.lt_of_lt_of_le lt le) z
      · simp only [List.mem_cons, List.not_mem_nil, or_false] at hc
        rcases hc with e1 | e1 | e1 | e1
        · exact (far lt).1 e1
        · exact (far lt).2.1 e1
        · exact (far lt).2.2.1 e1
        · exact (far lt).2.2.2 e1
    · rw [storedAllH_nil_of_nodup ps nd2] at hd
      obtain ⟨o, es, ep, f1, f2, f3, f4, f5, f6⟩ := hd
      have x3 : ∀ b ys, H1 b = some (.tup ys) → (upd H1 h2.objs.size (.dT kvs)) b = some (.tup ys) := fun b ys e => by
        rw [upd_ne (ne_of_none e (I1.hok.fresh le))]
        exact e
      exact ⟨.ref h2.objs.size, upd H1 h2.objs.size (.dT kvs), I1.laid (t' := tk) (old h3 k3) le (show ObjOk X.prog X.w _ _ _ (.dT kvs) from ⟨by omega, hm, ps, KT.keeps c1 x3, o, es, ep, f1, f2, f3, f4, f6⟩), rfl, q _ (I1.hok.fresh le)⟩
end
end L2

set_option Elab.async false
set_option linter.all false
set_option maxRecDepth 100000
set_option maxHeartbeats 4000000
/-! dict(pairs) with tuples as keys; sorted(pairs) of a text and a whole number. -/
namespace L2
open PySem PySem.Spec PyProof.Rows
/-- the pair at p: a key's own tuple, a value -/
abbrev PairT (K : PySem.W.Frag) (H : Hp) (p : Addr) (kv : List Key × V) : Prop := ∃ t, SqT K H p [.ref t, kv.2] ∧ H t = some (.tup (kv.1.map kV))
def rDT (K : PySem.W.Frag) : List V → Hp → VK → Prop := fun vs H Q => ∃ (a : Addr) (ps : List Addr) (kvs : List (List Key × V)), vs = [.ref a] ∧ SqL K H a (ps.map V.ref) ∧ Paired (PairT K H) ps kvs ∧ (kvs.map (·.1)).Nodup ∧ ∀ p, H p = none → Q (.ref p) (upd H p (.dT kvs))
section
variable {X : Cx}
theorem pairsT_of {pins : List (Addr × Obj)} {σ : St} {H : Hp} {s : Shared} (I : Inv X pins σ H s) : ∀ {ps : List Addr} {kvs : List (List Key × V)}, Paired (PairT X.K H) ps kvs →
    ∃ prs : List (List Key × Addr × Value), KT H kvs prs ∧ prs.length = ps.length ∧ ∀ (j : Nat) (q : List Key × Addr × Value), prs[j]? = some q → ∃ b : Addr, ps[j]? = some b ∧ IsTup s.heap b #[.ref q.2.1, q.2.2]
  | _, _, .nil => ⟨[], .nil, rfl, fun j q e => by simp at e⟩
  | _, _, .cons (a := p) (b := kv) ⟨t, h, ht⟩ tl => by
    obtain ⟨prs, r, hl, hp⟩ := pairsT_of I tl
    obtain ⟨its, rv, htp, _⟩ := I.tuple h
    obtain ⟨u, y, rfl, ru, ry⟩ := vals2 rv
    cases ru
    refine ⟨(kv.1, t, y) :: prs, .cons ⟨rfl, ht, ry⟩ r, by rw [List.length_cons, List.length_cons, hl], fun j q e => ?_⟩
    cases j with
    | zero =>
      have e' : (kv.1, t, y) = q := Option.some.inj e
      subst e'
      exact ⟨p, rfl, htp⟩
    | succ j =>
      obtain ⟨b, e1, e2⟩ := hp j q (by simpa using e)
      exact ⟨b, by simpa using e1, e2⟩
theorem call_dictT (hcalm : X.calm = true) (hu : X.A.units + 3 < cLine) : CallR X (.type "dict") (rDT X.K) := by
  intro pins s σ H xs us Q I r q
  obtain ⟨a, ps, kvs, rfl, hq, hp, nd, q⟩ := q
  obtain ⟨u, rfl, rx⟩ := vals1 r
  cases rx
  obtain ⟨its, rv, ⟨ol, nl, gl, cl, dl, el⟩, hz⟩ := I.list hq
  have ei := refs_at rv
  subst ei
  rw [List.length_map] at hz
  obtain ⟨prs, c1, c2, c3⟩ := pairsT_of I hp
  have nd2 : (prs.map (·.1)).Nodup := by rw [← kt_keys c1]; exact nd
  have lk := hp.length
  have P := PairArg.list (prog := X.prog) (w := X.w) a ((ps.map Value.ref).toArray) (fun j => ps.getD j 0) (prs.map fun q => (Value.ref q.2.1, q.2.2))
  have at1 : ∀ x ∈ prs, (tupleKind (mixKind X.prog X.w)).is s.heap x.1 x.2.1 := by
    have all : ∀ {l : List (List Key × V)} {m : List (List Key × Addr × Value)}, KT H l m → ∀ x ∈ m, (tupleKind (mixKind X.prog X.w)).is s.heap x.1 x.2.1 := by
      intro l m qq
      induction qq with
      | nil => intro x hx; exact nomatch hx
      | @cons p q ps qs hq t ih =>
        intro x hx
        rcases List.mem_cons.mp hx with e | hx
        · subst e
          exact key_of I.hok (by rw [← hq.1]; exact hq.2.1)
        · exact ih x hx
    exact all c1
  refine _root_.PySem.call_dict_pairsH (knd := tupleKind (mixKind X.prog X.w)) (ps := prs) P (I.ok.hd hcalm) (show X.A.in1.in1.units < cLine from ?_) ⟨⟨ol, nl, gl, cl, dl, el⟩, by simp [c2], fun j k v hj => ?_⟩ ⟨by simp, fun i k v hr => ?_⟩ (fun h' hk x hx => ?_) (by simp [c2]; omega) fun h3 tk hd k3 => ?_
  · show X.A.units + 1 + 1 < cLine
    omega
  · rw [List.getElem?_map] at hj
    obtain ⟨q0, h0, h1⟩ := Option.map_eq_some_iff.mp hj
    obtain ⟨b, e1, o, g1, g2, n, g3⟩ := c3 j q0 h0
    cases h1
    refine ⟨by simp [e1], .inl ⟨o, by simpa [e1] using g1, g2, n, g3⟩⟩
  · have hr : (prs.map fun q => (Value.ref q.2.1, q.2.2))[i]? = some (k, v) := hr
    rw [List.getElem?_map] at hr
    obtain ⟨q0, h0, h1⟩ := Option.map_eq_some_iff.mp hr
    cases h1
    exact ⟨q0.1, q0.2.1, h0, rfl⟩
  · obtain ⟨o, items, n, e1, e2, e3, e4⟩ := at1 x hx
    exact ⟨o, items, n, hk _ _ (Nat.ne_of_lt (Heap.lt_size e1)) (by simp) e1, e2, e3, e4⟩
  · rw [storedAllH_nil_of_nodup prs nd2] at hd
    obtain ⟨o, es, ep, f1, f2, f3, f4, f5, f6⟩ := hd
    have hm : (s.heap.objs.size == sysModules) = false := beq_eq_false_iff_ne.mpr (Nat.ne_of_gt I.big)
    have x3 : ∀ b ys, H b = some (.tup ys) → (upd H s.heap.objs.size (.dT kvs)) b = some (.tup ys) := fun b ys e => by
      rw [upd_ne (ne_of_none e (I.hok.fresh (Nat.le_refl _)))]
      exact e
    exact ⟨.ref s.heap.objs.size, upd H s.heap.objs.size (.dT kvs), I.laid (t' := tk) (fun b o e => k3 b o (by simp) e) (Nat.le_refl _) (show ObjOk X.prog X.w _ _ _ (.dT kvs) from ⟨by omega, hm, prs, KT.keeps c1 x3, o, es, ep, f1, f2, f3, f4, f6⟩), rfl, q _ (I.hok.fresh (Nat.le_refl _))⟩
end
end L2

set_option Elab.async false
set_option linter.all false
set_option maxRecDepth 100000
set_option maxHeartbeats 4000000
/-! sorted(pairs) of a text and a whole number. -/
namespace L2
open PySem PySem.Spec PyProof.Rows
theorem perm_map_back {α β : Type} (f : α → β) : ∀ {l : List β} {xs : List α}, l.Perm (xs.map f) → ∃ ys : List α, ys.Perm xs ∧ ys.map f = l
  | [], xs, h => by
    obtain rfl : xs = [] := List.map_eq_nil_iff.mp (List.perm_nil.mp h.symm)
    exact ⟨[], .nil, rfl⟩
  | b :: l, xs, h => by
    have hb : b ∈ xs.map f := h.mem_iff.mp List.mem_cons_self
    obtain ⟨x, hx, rfl⟩ := List.mem_map.mp hb
    obtain ⟨s, t, rfl⟩ := List.append_of_mem hx
    have h2 : (f x :: l).Perm (f x :: (s ++ t).map f) := h.trans (by simpa using (List.perm_middle (a := f x) (l₁ := s.map f) (l₂ := t.map f)))
    obtain ⟨ys, a1, a2⟩ := perm_map_back f (List.Perm.cons_inv h2)
    exact ⟨x :: ys, (List.Perm.cons x a1).trans List.perm_middle.symm, by rw [List.map_cons, a2]⟩
def sh0 : Nat → Bool := fun i => i == 0
abbrev Tri := Addr × Str × Int
def rSortTI (K : PySem.W.Frag) : List V → Hp → VK → Prop := fun vs H Q => ∃ (a : Addr) (xs : List Tri), vs = [.ref a] ∧ SqL K H a (xs.map fun x => V.ref x.1) ∧ (∀ x ∈ xs, SqT K H x.1 [.str x.2.1, .int x.2.2]) ∧
  ∀ (ys : List Tri) p, ys.Perm xs → H p = none → Q (.ref p) (upd H p (.lst (ys.map fun x => V.ref x.1)))
section
variable {X : Cx}
theorem tri_at {pins : List (Addr × Obj)} {σ : St} {H : Hp} {s : Shared} (I : Inv X pins σ H s) {x : Tri} (h : SqT X.K H x.1 [.str x.2.1, .int x.2.2]) : ∃ o n t u, s.heap.get? x.1 = some o ∧ o.cls = .type "tuple" ∧ o.data = .seq #[.str x.2.1 t, .int x.2.2 u] n := by
  obtain ⟨its, rv, ⟨o, g1, g2, n, g3⟩, _⟩ := I.tuple h
  obtain ⟨u1, u2, rfl, ⟨t, rfl⟩, ⟨u, rfl⟩⟩ := vals2 rv
  exact ⟨o, n, t, u, g1, g2, g3⟩
theorem tris_of {pins : List (Addr × Obj)} {σ : St} {H : Hp} {s : Shared} (I : Inv X pins σ H s) : ∀ {xs : List Tri}, (∀ x ∈ xs, SqT X.K H x.1 [.str x.2.1, .int x.2.2]) → ∃ fs, PyProof.Rows.TupsOf s.heap sh0 (xs.map fun x => Value.ref x.1) fs
  | [], _ => ⟨[], .nil⟩
  | x :: xs, h => by
    obtain ⟨fs, hf⟩ := tris_of I fun y hy => h y (List.mem_cons_of_mem _ hy)
    obtain ⟨o, n, t, u, g1, g2, g3⟩ := tri_at I (h x List.mem_cons_self)
    exact ⟨.str x.2.1 t :: fs, .cons ⟨x.1, o, _, n, rfl, g1, g2, g3, rfl, fun e => absurd e (by decide), fun _ => ⟨_, _, rfl⟩⟩ hf⟩
theorem cr_sortedTI : CallR X (.builtin "sorted") (rSortTI X.K) := by
  intro pins s σ H vs us Q I r h
  obtain ⟨a, xs, rfl, hs, hx, q⟩ := h
  obtain ⟨its, rv, hl, hz⟩ := I.list hs
  obtain ⟨u, rfl, ru⟩ := vals1 r
  obtain rfl : u = Value.ref a := ru
  have ei : its = xs.map fun x => Value.ref x.1 := by
    have e0 : (xs.map fun x => V.ref x.1) = (xs.map (·.1)).map V.ref := by rw [List.map_map]; rfl
    rw [e0] at rv
    rw [refs_at rv, List.map_map]
    rfl
  subst ei
  rw [List.length_map] at hz
  obtain ⟨fs, hf⟩ := tris_of I hx
  refine G.sorted_tups (shape := sh0) hl.isList hf (fun v hv => ?_) (by rw [List.length_map]; exact hz) fun st' hp _ _ => ?_
  · obtain ⟨x, hx1, rfl⟩ := List.mem_map.mp hv
    obtain ⟨o, n, t, u, g1, g2, g3⟩ := tri_at I (hx x hx1)
    exact ⟨_, G.tupKeyC_of (l := [Sum.inr x.2.1.cps.toList, Sum.inl x.2.2]) g1 g2 g3 rfl⟩
  · have hp2 : ((arrOf st').map (·.2)).toList.Perm (xs.map fun x => Value.ref x.1) := by
      have e1 := Array.perm_iff_toList_perm.mp hp
      rw [pairsOf_toList] at e1
      have e2 := e1.map (·.2)
      rw [Array.toList_map]
      refine e2.trans ?_
      rw [List.map_snd_zip (by simp)]
    obtain ⟨ys, hy, ey⟩ := perm_map_back _ hp2
    obtain ⟨c, hc⟩ := sortedAll_at s.heap (xs.map fun x => Value.ref x.1) ((arrOf st').map (·.2))
    have le : s.heap.objs.size ≤ s.heap.objs.size + 1 := Nat.le_succ _
    have vals : ∀ l : List Tri, Vals (l.map fun x => V.ref x.1) (l.map fun x => Value.ref x.1) := by
      intro l
      induction l with
      | nil => exact .nil
      | cons x l ih => exact .cons rfl ih
    refine ⟨.ref (s.heap.objs.size + 1), upd H (s.heap.objs.size + 1) (.lst (ys.map fun x => V.ref x.1)), I.laid (t' := s.toks) (fun _ _ => sortedAll_old) le ⟨by rw [List.length_map, hy.length_eq]; exact hz, ys.map (fun x => Value.ref x.1), c, vals ys, ?_⟩, rfl, q ys _ hy (I.hok.fresh le)⟩
    rw [ey]
    exact hc
end
end L2

set_option Elab.async false
set_option linter.all false
set_option maxRecDepth 100000
set_option maxHeartbeats 4000000
/-! f'a{e}' of a number. -/
namespace L2
open PySem PySem.Spec PyProof.Rows
def tFmt (a : Str) (te : TE) : TE := fun σ H Q => te σ H fun v H1 => ∃ i : Int, v = .int i ∧ i.natAbs < 100000 ∧ (a ++ Str.ofString (toString i)).length ≤ 1000 ∧ Q (.str (a ++ Str.ofString (toString i))) H1
section
variable {X : Cx}
theorem pe_fmt {a : Str} {j : Nat} {p1 p2 pos : Pos} {e : Expr} {te : TE} (he : PE X e te) (ha0 : (Str.empty ++ a).length ≤ sizeLine) (h0 : Str.empty ++ a = a) :
    PE X (.JoinedStr [.Constant (.str a) j p1, .FormattedValue e (-1) none p2] pos) (tFmt a te) := ⟨fun pins s σ H Q I h => by
  refine PySem.wpAny_JoinedStr (PySem.Joins_cons (PySem.wpAny_Constant_str ⟨a, _, rfl, ha0, PySem.Joins_cons (PySem.wpAny_FormattedValue_plain ?_)⟩))
  refine wpAny_mono (he.run pins _ σ H _ (I.tok _) h) ?_ fun _ _ q => q
  rintro v s1 ⟨w, H1, I1, r, i, rfl, hi, hl, q⟩
  obtain ⟨t, rfl⟩ := r
  refine PySem.wpAny_formatField_int ?_ ⟨_, _, rfl, ?_, PySem.Joins_nil ⟨?_, .str _, H1, (I1.tok _).tok _, ⟨_, rfl⟩, ?_⟩⟩
  · rcases Nat.eq_zero_or_pos i.natAbs with z | z
    · rw [z]; decide
    · refine Nat.lt_of_lt_of_le ((Nat.log2_lt (by omega)).mpr (show i.natAbs < 2 ^ 20 by omega)) (by decide)
  · rw [h0]; exact Nat.le_trans hl (by decide)
  · rw [h0]; exact Nat.le_trans hl (by decide)
  · rw [h0]; exact q⟩
end
end L2

set_option Elab.async false
set_option linter.all false
set_option maxRecDepth 100000
set_option maxHeartbeats 4000000
/-! () + t: t itself. -/
namespace L2
open PySem PySem.Spec PyProof.Rows
def rCat0 (K : PySem.W.Frag) : R2 := fun x y H Q => ∃ a b ys, x = .ref a ∧ y = .ref b ∧ SqT K H a [] ∧ SqT K H b ys ∧ ys.length ≤ 1000 ∧ Q (.ref b) H
theorem op_cat0 {X : Cx} : OpR X (PySem.binaryOp PySem.Operator.Add) (rCat0 X.K) := by
  intro pins s σ H x y v u Q I rx ry h
  obtain ⟨a, b, ys, rfl, rfl, ha, hb, hl, q⟩ := h
  obtain rfl : v = .ref a := rx
  obtain rfl : u = .ref b := ry
  obtain ⟨its, rv, ht, _⟩ := I.tuple ha
  obtain ⟨its2, rv2, ht2, hz⟩ := I.tuple hb
  obtain rfl : its = [] := by cases rv; rfl
  obtain ⟨m, hm, _⟩ := I.loc
  have hl2 := rv2.length
  refine add_tuples (h₀ := ({} : Heap)) (L := X.env.locals) (m := m) (news := []) (vs := []) (ws := its2) ⟨hm, fun b o h => ?_, Nat.zero_le _⟩ (fun p hp => nomatch hp) ht ht2 (fun _ => ⟨.ref b, H, I, rfl, q⟩) (fun h => absurd rfl h) (fun h => absurd rfl h) ?_
  · cases h
  · rw [List.length_nil, Nat.zero_add, ← hl2]
    exact hz
end L2

set_option Elab.async false
set_option linter.all false
set_option maxRecDepth 100000
set_option maxHeartbeats 4000000
/-! for x, y in zip(list, tuple). -/
namespace L2
open PySem PySem.Spec PyProof.Rows
def ItzM (K : PySem.W.Frag) (a b : Addr) : It :=
  { go := fun i H => ∃ xs ys x y, SqL K H a xs ∧ SqT K H b ys ∧ xs[i]? = some x ∧ ys[i]? = some y,
    yld := fun i H v H' => ∃ T x y, v = V.ref T ∧ H T = none ∧ H' = upd H T (HO.tup [x, y]) ∧ (∀ xs : List V, SqL K H a xs → xs[i]? = some x) ∧ ∀ ys : List V, SqT K H b ys → ys[i]? = some y,
    stop := fun i H => ∃ xs ys, SqL K H a xs ∧ SqT K H b ys ∧ (xs.length = i ∨ ys.length = i) ∧ i ≤ xs.length ∧ i ≤ ys.length }
theorem turn_zipM {P : Program} {w : World} {K : PySem.W.Frag} {elts : List Expr} {kk : Nat} {tpos : Pos} {a b z TI TO i1 i2 : Addr} (S : ZipSep2 z TI TO i1 i2 [i1, a] [i2, b]) :
    Turn P w K (.Tuple elts kk tpos) (ItzM K a b) [z, TI, TO, i1, i2] z (fun i h => IsZip h z TI TO .none ∧ IsTupOf2 h TI (.ref i1) (.ref i2) ∧ (∃ x y, IsTupOf2 h TO x y) ∧ h.IsListIter i1 a i ∧ h.IsTupleIter i2 b i) where
  mem := by simp
  obj := fun i h st c hc => by
    obtain ⟨h1, h2, ⟨x, y, h3⟩, ⟨o4, e4, c4, d4⟩, ⟨o5, e5, c5, d5⟩⟩ := st
    have e' : c = z ∨ c = TI ∨ c = TO ∨ c = i1 ∨ c = i2 := by simpa using hc
    rcases e' with e | e | e | e | e
    · rw [e]; exact ⟨_, h1, fun v q => nomatch q⟩
    · rw [e]; exact ⟨_, h2, fun v q => nomatch q⟩
    · rw [e]; exact ⟨_, h3, fun v q => nomatch q⟩
    · rw [e]; exact ⟨o4, e4, fun v q => by rw [d4] at q; cases q⟩
    · rw [e]; exact ⟨o5, e5, fun v q => by rw [d5] at q; cases q⟩
  keep := fun i h h' st k => by
    obtain ⟨h1, h2, ⟨x, y, h3⟩, h4, h5⟩ := st
    exact ⟨k z (by simp) _ h1, k TI (by simp) _ h2, ⟨x, y, k TO (by simp) _ h3⟩, h4.at fun o q => k i1 (by simp) o q, h5.at fun o q => k i2 (by simp) o q⟩
  item := by
    intro X hP hw hK hc i pins s σ H E I hf st hg
    subst hP hw hK
    obtain ⟨h1, h2, ⟨t1, t2, h3⟩, h4, h5⟩ := st
    obtain ⟨xs, ys, x, y, hq1, hq2, hx, hy⟩ := hg
    obtain ⟨its1, rv1, ⟨ol, nl, gl, cl, dl, el⟩, hz1⟩ := I.list hq1
    have p1 : s.heap.IsList a its1.toArray := ⟨ol, gl, cl, nl, el⟩
    obtain ⟨its2, rv2, p2, hz2⟩ := I.tuple hq2
    obtain ⟨u1, hu1, ru1⟩ := rv1.get hx
    obtain ⟨u2, hu2, ru2⟩ := rv2.get hy
    have lt1 : i < its1.toArray.size := by
      have := (List.getElem?_eq_some_iff.mp hu1).1
      simpa using this
    have lt2 : i < its2.toArray.size := by
      have := (List.getElem?_eq_some_iff.mp hu2).1
      simpa using this
    have na : a ≠ i1 := by rintro rfl; obtain ⟨o, e, c, d⟩ := h4; rw [gl] at e; cases e; rw [el] at d; cases d
    have nb : b ≠ i2 := by rintro rfl; obtain ⟨o, e, c, d⟩ := h5; obtain ⟨o2, e2, c2, n2, d2⟩ := p2; rw [e2] at e; cases e; rw [d2] at d; cases d
    have live : ∀ c ∈ [z, TI, TO, i1, i2], c < s.heap.objs.size := by
      intro c hc
      have e' : c = z ∨ c = TI ∨ c = TO ∨ c = i1 ∨ c = i2 := by simpa using hc
      rcases e' with e | e | e | e | e
      · rw [e]; exact Heap.lt_size h1
      · rw [e]; exact Heap.lt_size h2
      · rw [e]; exact Heap.lt_size h3
      · rw [e]; obtain ⟨_, q, _⟩ := h4; exact Heap.lt_size q
      · rw [e]; obtain ⟨_, q, _⟩ := h5; exact Heap.lt_size q
    refine wpAny_pyNext_zipD2_item S (Draws.list (A := X.A.in1) (I.ok.hd hc) i1 a na its1.toArray) (Draws.tuple (A := X.A.in1) (I.ok.hd hc) i2 b nb its2.toArray) h1 h2 h3 ⟨h4, p1⟩ ⟨h5, p2⟩ lt1 lt2 fun y1 y2 h' tk hy1 hy2 ho hto hst1 hst2 hT hsz hk => ?_
    have e1 : y1 = u1 := by
      have e : its1.toArray[i]? = some u1 := by simpa using hu1
      rw [e] at hy1
      exact (Option.some.inj hy1).symm
    have e2 : y2 = u2 := by
      have e : its2.toArray[i]? = some u2 := by simpa using hu2
      rw [e] at hy2
      exact (Option.some.inj hy2).symm
    subst e1 e2
    refine ⟨_, rfl, wpAny_letOwnedTupleGo_zip (s := { s with heap := h', toks := tk }) ho fun h'' hz' sb => ?_⟩
    have zlt := live z (by simp)
    have hT2 : h''.get? s.heap.objs.size = some { cls := .type "tuple", data := .seq #[y1, y2] } := (sb.2 _ (Nat.ne_of_gt zlt)).trans hT
    have new : ObjOk X.prog X.w (upd H s.heap.objs.size (.tup [x, y])) h'' s.heap.objs.size (.tup [x, y]) :=
      ⟨by show 2 ≤ sizeLine; decide, [y1, y2], .cons ru1 (.cons ru2 .nil), ⟨_, hT2, rfl, _, rfl⟩⟩
    have I1 : Inv X pins σ (upd H s.heap.objs.size (.tup [x, y])) { s with heap := h'', toks := tk } :=
      I.turnedNew (ch := [z, TI, TO, i1, i2]) (fun c ob hb q => (sb.2 c (fun e => hb (by simp [e]))).trans (hk c ob (fun e => hb (by simp [e])) (fun e => hb (by simp [e])) (fun e => hb (by simp [e])) (fun e => hb (by simp [e])) q)) hf (Nat.le_refl _) new
    refine ⟨.ref s.heap.objs.size, _, I1, rfl, ⟨_, x, y, rfl, I.hok.fresh (Nat.le_refl _), rfl, (fun zs hzs => by rw [I.list_inj hzs hq1]; exact hx), fun zs hzs => by rw [I.tuple_inj hzs hq2]; exact hy⟩, ⟨hz', (sb.2 TI S.TIz).trans (hk TI _ S.TIz S.TITO S.TIi1 S.TIi2 h2), ⟨y1, y2, (sb.2 TO S.TOz).trans hto⟩, hst1.1.at fun o q => (sb.2 i1 (fun e => S.zf1 (by simp [e]))).trans q, hst2.1.at fun o q => (sb.2 i2 (fun e => S.zf2 (by simp [e]))).trans q⟩, fun c hc' => ?_⟩
    rw [upd_ne (Nat.ne_of_lt (live c hc'))]
    exact (hf c hc').1
  done := by
    intro X hP hw hK hc i pins s σ H E I hf st hg
    subst hP hw hK
    obtain ⟨h1, h2, ⟨t1, t2, h3⟩, h4, h5⟩ := st
    obtain ⟨xs, ys, hq1, hq2, last, le1, le2⟩ := hg
    obtain ⟨its1, rv1, ⟨ol, nl, gl, cl, dl, el⟩, hz1⟩ := I.list hq1
    have p1 : s.heap.IsList a its1.toArray := ⟨ol, gl, cl, nl, el⟩
    obtain ⟨its2, rv2, p2, hz2⟩ := I.tuple hq2
    have l1 := rv1.length
    have l2 := rv2.length
    have na : a ≠ i1 := by rintro rfl; obtain ⟨o, e, c, d⟩ := h4; rw [gl] at e; cases e; rw [el] at d; cases d
    have nb : b ≠ i2 := by rintro rfl; obtain ⟨o, e, c, d⟩ := h5; obtain ⟨o2, e2, c2, n2, d2⟩ := p2; rw [e2] at e; cases e; rw [d2] at d; cases d
    exact wpAny_pyNext_zipD2_end S (Draws.list (A := X.A.in1) (I.ok.hd hc) i1 a na its1.toArray) (Draws.tuple (A := X.A.in1) (I.ok.hd hc) i2 b nb its2.toArray) h1 h2 h3 ⟨h4, p1⟩ ⟨h5, p2⟩ (by simp; omega) (by simp; omega) (by simp; omega) fun h' tk eb => ⟨rfl, I.turnedL (t' := tk) (ch := [z, TI, TO, i1, i2]) (fun c o hb q => eb c o (fun e => hb (by simp [e])) (fun e => hb (by simp [e])) (fun e => hb (by simp [e])) (fun e => hb (by simp [e])) q) hf⟩
  self := fun A i s Q E st h => wpAny_pyIter_zip st.1 h
def iZipM (K : PySem.W.Frag) (ta : TA) : TI := fun σ H R => ta σ H fun vs H1 => ∃ a b xs ys, vs = [.ref a, .ref b] ∧ SqL K H1 a xs ∧ SqT K H1 b ys ∧ R (ItzM K a b) H1
theorem pi_zipM {X : Cx} {e e2 : Expr} {ta : TA} {p pos tpos : Pos} {elts : List Expr} {kk : Nat} (hg : Gl X "zip") (hm : X.mg "zip" = none) (ha : PA X [e, e2] ta)
    (he2 : starEach [e, e2] X.env = (false, eval e X.env) :: starEach [e2] X.env := by rfl) (hpl2 : (backTo pos (starEach [e2] X.env)).any (·.1) = false := by rfl) :
    PI X (.Tuple elts kk tpos) (.Call (.Name "zip" p) [e, e2] [] pos) (iZipM X.K ta) := by
  refine ⟨fun pins s σ H R I h => ?_⟩
  refine wpAny_Call_Name_kw (ld_blt I hg hm (u := .type "zip") (by decide +kernel) ?_ (by decide) (by decide))
  refine PyProof.Rows.callWith_type1 (thn (ha.run pos pins s σ H _ I h) fun us s1 ⟨vs, H1, I1, r1, q1⟩ => ?_) he2 hpl2
  obtain ⟨a, b, xs, ys, rfl, hx, hy, q⟩ := q1
  obtain ⟨u, v, rfl, ru, rv⟩ := vals2 r1
  cases ru
  cases rv
  obtain ⟨ks, rk, ⟨ol, nl, gl, cl, dl, el⟩, lk⟩ := I1.list hx
  obtain ⟨its, ri, pt, li⟩ := I1.tuple hy
  have isL : s1.heap.IsList a ks.toArray := ⟨ol, gl, cl, nl, el⟩
  have isT : s1.heap.IsTuple b its.toArray := pt
  have la : a < s1.heap.objs.size := Heap.lt_size gl
  have lb : b < s1.heap.objs.size := pt.lt
  refine zip_begins2 (begins_list a ks.toArray) (begins_tuple b its.toArray) isL isT fun h2 g1 g2 g3 g4 g5 g6 keep => wpAny_pyIter_zip g1 ?_
  have S : ZipSep2 (s1.heap.objs.size + 4) (s1.heap.objs.size + 2) (s1.heap.objs.size + 3) s1.heap.objs.size (s1.heap.objs.size + 1) [s1.heap.objs.size, a] [s1.heap.objs.size + 1, b] :=
    zip_sep2 (fp1 := [a]) (fp2 := [b]) (fun c hc => by rw [List.mem_singleton.mp hc]; exact la) (fun c hc => by rw [List.mem_singleton.mp hc]; exact lb)
  have I2 : Inv X pins σ H1 { s1 with heap := h2 } := I1.kept (t' := s1.toks) keep
  refine ⟨s1.heap.objs.size + 4, [s1.heap.objs.size + 4, s1.heap.objs.size + 2, s1.heap.objs.size + 3, s1.heap.objs.size, s1.heap.objs.size + 1], _, _, H1, rfl, I2, turn_zipM S, ⟨g1, g2, ⟨_, _, g3⟩, ⟨_, g4, rfl, rfl⟩, ⟨_, g5, rfl, rfl⟩⟩, fun c hc => ?_, q⟩
  have hle : s1.heap.objs.size ≤ c := by
    simp only [List.mem_cons, List.not_mem_nil, or_false] at hc
    rcases hc with e | e | e | e | e
    · rw [e]; exact Nat.le_add_right _ _
    · rw [e]; exact Nat.le_add_right _ _
    · rw [e]; exact Nat.le_add_right _ _
    · rw [e]; exact Nat.le_refl _
    · rw [e]; exact Nat.le_add_right _ _
  exact I1.fpOk hle (I1.hok.fresh hle)
theorem walk_zipM {K : PySem.W.Frag} {a b : Addr} {xs ys : List V} (hl : xs.length = ys.length) : Walk (ItzM K a b) xs.length (fun H => SqL K H a xs ∧ SqT K H b ys) (YPair (fun i => xs[i]?) (fun i => ys[i]?)) := by
  refine ⟨fun i _ hi q => ?_, fun _ q => ⟨xs, ys, q.1, q.2, .inl rfl, Nat.le_refl _, by omega⟩, fun i H v H' _ q y => ?_⟩
  · exact ⟨xs, ys, xs[i], ys[i], q.1, q.2, by simp [hi], by simp [show i < ys.length by omega]⟩
  · obtain ⟨T, x, z, h1, h2, h3, h4, h5⟩ := y
    exact ⟨T, x, z, h1, h2, h3, h4 xs q.1, h5 ys q.2⟩
end L2

set_option Elab.async false
set_option linter.all false
set_option maxRecDepth 100000
set_option maxHeartbeats 4000000
/-! if a if c else b: .. -/
namespace L2
open PySem PySem.Spec PyProof.Rows
def tIfT (t ta tb : TT) : TT := fun σ H Q => t σ H fun b H1 => if b = true then ta σ H1 Q else tb σ H1 Q
theorem pt_ifExp {X : Cx} {c a b : Expr} {pos : Pos} {t ta tb : TT} (hc : PT X c t) (ha : PT X a ta) (hb : PT X b tb) : PT X (.IfExp c a b pos) (tIfT t ta tb) := ⟨fun pins s σ H Q I h => by
  have e : PySem.isTrue (.IfExp c a b pos) X.env (eval (.IfExp c a b pos) X.env) = (do
      let x ← PySem.isTrue c X.env (eval c X.env)
      if x = true then PySem.isTrue a X.env (eval a X.env) else PySem.isTrue b X.env (eval b X.env)) := by
    conv => lhs; unfold PySem.isTrue
  rw [e]
  refine wpAny_bind (wpAny_mono (hc.run pins s σ H _ I h) (fun v s1 z => ?_) fun _ _ z => z)
  obtain ⟨H1, I1, q⟩ := z
  cases v with
  | true => exact ha.run pins s1 σ H1 Q I1 q
  | false => exact hb.run pins s1 σ H1 Q I1 q⟩
end L2

set_option Elab.async false
set_option linter.all false
set_option maxRecDepth 100000
set_option maxHeartbeats 4000000
/-! Variables of words and of literals; things each once. -/
namespace K17
open PySem PySem.Spec PyProof.Rows L2 Evl
section
variable {K : PySem.W.Frag} {σ : L2.St} {H : Hp} {te : TE}
/-- [x for x in xs if x not in told] -/
theorem evl_notin {i j : Nat} {p : Addr} {xs acc : List Str} (h : EvL te σ H (sVs xs)) (hp : H p = some (.lst (sVs acc))) (hw : ∀ x, wipe ((wipe σ [j]).set j (some x)) [j] = wipe σ [j]) (hi : ∀ x, ((wipe σ [j]).set j (some x))[i]? = some (some (.ref p))) (hj : ∀ x, ((wipe σ [j]).set j (some x))[j]? = some (some x)) (hl : xs.length ≤ 30000) :
    EvL (tLc (iList K te) (gName j) (tTest (tOp (rIn K true) (tVar j) (tVar i))) (tVar j) [j]) σ H (sVs (xs.filter fun s => !acc.contains s)) := fun H1 e Q q =>
  h H1 e _ fun pq H2 hpq e2 h2 => ⟨pq, rfl, ⟨_, sq_of h2⟩, fun Dl hD => by
    have hlv : (sVs xs).length = xs.length := by unfold sVs; rw [List.length_map]
    refine lc_list (xs := sVs xs) (Cw H2 (fun i' => ((xs[i']?).map fun s => !acc.contains s).getD false) (fun i' => ((xs[i']?).map V.str).getD .non) Dl) ⟨hD, Ex.new hD, upd_same⟩ (fun i' H' _ p => sq_of (p.2.1 pq _ h2)) (fun i' x' H' hi' p' => ⟨hw _, ?_⟩) (fun H' p' => ?_)
    · have hxx : ∃ s, xs[i']? = some s ∧ x' = .str s := by
        unfold sVs at hi'
        rw [List.getElem?_map] at hi'
        obtain ⟨s, a, b⟩ := Option.map_eq_some_iff.mp hi'
        exact ⟨s, a, b.symm⟩
      obtain ⟨s, hs1, rfl⟩ := hxx
      refine cw_turn p' (by have := (List.getElem?_eq_some_iff.mp hi').1; omega) ?_ fun _ => ?_
      · rw [hs1]
        refine et_is (et_test (ev_op (ev_var (hj _)) (ev_var (hi _)) (rv_niL (sq_of ((e.trans e2) _ _ hp)) rfl (sVs_flat _)))) ?_
        rw [sVs_in]
        rfl
      · rw [hs1]
        exact ev_var (hj _)
    · refine q Dl H' (fresh_back e2 p'.1) (e2.trans p'.2.1) ?_
      rw [p'.2.2, given_sVs hlv]⟩
end
theorem sc_va : FnScope nVa ["word"] (defScope s_variables_in) := ⟨rfl, rfl, rfl, by decide +kernel, rfl, by decide +kernel, by decide +kernel⟩
section
variable {P : Program} {w : World} {K : PySem.W.Frag} {mg : Str → Option Value} {base : Heap}
theorem ok_variables_in (T : T17 P w K mg base) : ∀ m, Ok P w K mg base CX0 "variables_in" ["word"] (m + 1) (spVa m)
  | 0 => T.ok 3 rfl sc_va (fun vs H Q E h => by obtain ⟨v, z, rfl, _⟩ := h; rfl) (fun kV doc pm an cdv ct us hl => match us, hl with | [_], _ => rfl) (fun f cdv A outer s H vs Q E hr h => by obtain ⟨v, z, _, _, h0, _⟩ := h; exact absurd h0 (Nat.not_lt_zero _))
  | m + 1 => by
    obtain ⟨fR, dR, GR, bR, kR, mR⟩ := (ok_variables_in T m).ex
    refine T.ok 3 rfl sc_va (fun vs H Q E h => ?_) (fun kV doc pm an cdv ct us hl => match us, hl with | [_], _ => rfl) (fun f cdv A outer s H vs Q E hr h => ?_)
    · obtain ⟨v, z, rfl, _⟩ := h
      rfl
    · obtain ⟨v, z, rfl, hw, hz, hm, hs, k⟩ := h
      refine ⟨_, pss_cons (ps_if (pt_val (pe_isiB T.isi T.str PyProof.Rows.boot_str (pv 0))) (pss_one (ps_ret (pe_lst (pa_cons (pv 0) pa_nil)))) pss_nil)
        (pss_cons (ps_set (i := 1) sc_va.nd rfl (Or.inr rfl) (pe_lst pa_nil))
        (pss_cons (ps_for PassesOwn.never rfl (pi_tup (pe_slice sl_tup (pv 0) (po_some pe_int) po_none)) (pg_name (i := 2) sc_va.nd rfl (Or.inl rfl))
          (pss_one (ps_expr (pe_bm PySem.F.plainAttrs_list PySem.F.slot_list_extend PySem.F.type_list_extend mt_extend (pv 1) (pa_cons
            (pe_lc (own := [("variable", 3)]) (g := gName 3) (tt := tTest (tOp (rIn K true) (tVar 3) (tVar 1))) (te := tVar 3) rfl sc_va.nd (pi_list (pe_call GR hr (by rfl) mR kR bR .nil pass0 (pa_cons (pv 2) pa_nil))) (blkOk_by (N := nVa) (sc := defScope s_variables_in) (by decide +kernel))
              (fun _ _ _ _ _ => pg_name (i := 3) sc_va.nd rfl (Or.inl rfl)) (fun _ _ _ _ _ => pts_one (pt_cmpR op_notIn_seq (pv 3) (pv 1) (by rfl))) (fun _ _ _ _ _ => pv 3)) pa_nil)))))
        (pss_one (ps_ret (pv 1))))), ?_⟩
      cases z with
      | v sv =>
        obtain rfl : v = .str sv := hw
        exact q_when (b := true) (et_B (ev_isStr (o := .str sv) (ev_var rfl) rfl)) (fun _ H1 e1 => s_retL (el_lst (ea_cons (ev_var rfl) ea_nil) (by show 1 ≤ 100000; decide)) fun p H2 hp e2 h2 => k p H2 (fresh_back e1 hp) (e1.trans e2) h2) fun z => nomatch z
      | n sn as =>
        obtain ⟨r, us, rfl, hr1, hu⟩ := hw.tup
        have hul := hu.length
        have hdp : W.dps as < m := by have : (W.n sn as).dp = W.dps as + 1 := rfl; omega
        have hsz : W.szs as + 2 ≤ 9000 := hs
        refine q_when (b := false) (et_B (ev_isStr (o := (W.n sn as).o) (ev_var rfl) hw)) (fun z => nomatch z) fun _ H1 e1 => ?_
        refine q_asgL (el_lst ea_nil (by show 0 ≤ 100000; decide)) fun p H2 hp e2 h2 => ?_
        have hp0 : H p = none := fresh_back e1 hp
        have e12 := e1.trans e2
        refine q_forNT (eu_tail (ev_var rfl) (st_of (e12 _ _ hr1))) (fun c i σ' H' => Ex H H' ∧ H' c = some (.tup us) ∧ (∃ a : Option V, σ' = [some (.ref r), some (.ref p), a, none]) ∧ H' p = some (.lst (sVs (W.varsL [] (as.take i))))) ?_ ?_ ?_ ?_
        · intro c H3 hc e3 h3
          exact ⟨e12.trans e3, h3, ⟨none, rfl⟩, e3 _ _ h2⟩
        · rintro c i σ' H' hi ⟨_, hc, _⟩
          exact st_of hc
        · rintro c i x σ' H' hx ⟨e3, hc, ⟨a, rfl⟩, h3⟩
          obtain ⟨y, hy, hwy⟩ := (hu.ext e3).getv hx
          have h1 := W.lt_dp hy
          have h2' := W.lt_sz hy
          have hvl := W.vars_len y
          have hvl2 := W.varsL_len [] (as.take i)
          have htk := szs_take as i
          simp at hvl2
          have hcp : c ≠ p := ne_of hc h3 (by intro z; cases z)
          refine s_extL (xs := sVs (W.varsL [] (as.take i))) (zs := sVs (y.vars.filter fun s => !(W.varsL [] (as.take i)).contains s)) h3 (ev_var rfl) (evl_notin (i := 1) (j := 3) (fun H4 e4 Q4 q4 => ⟨x, rfl, x, y, rfl, hwy.ext e4, by omega, by omega, by omega, fun pq H5 hpq e5 h5 => q4 pq H5 hpq e5 h5⟩) h3 (fun _ => rfl) (fun _ => rfl) (fun _ => rfl) (by omega)) ?_ fun H4 e4 => ?_
          · have h5 := List.length_filter_le (fun s => !(W.varsL [] (as.take i)).contains s) y.vars
            unfold sVs
            rw [List.length_map, List.length_map]
            omega
          · refine ⟨Ex.mut (e3.trans e4) hp0, ?_, ⟨_, rfl⟩, ?_⟩
            · rw [upd_ne hcp]
              exact e4 _ _ hc
            · rw [upd_same, take_snoc hy, W.varsL_snoc]
              unfold sVs
              rw [List.map_append]
        · rintro c σ' H' ⟨e3, _, ⟨a, rfl⟩, h3⟩
          rw [hul, List.take_length] at h3
          exact s_ret (ev_var rfl) fun H4 e4 => k p H4 hp0 (e3.trans e4) (e4 _ _ h3)
end
end K17

set_option Elab.async false
set_option linter.all false
set_option maxRecDepth 100000
set_option maxHeartbeats 4000000
/-! Literals; things each once; the variables of literals. -/
namespace K17
open PySem PySem.Spec PyProof.Rows L2 Evl
theorem u65 {k : Nat} {A : Around} (r : Room k A) : A.units + 65 < cLine := by
  have := r.un
  omega
/-! ### things each once -/
def eoO : List O → List O → List O
  | acc, [] => acc
  | acc, x :: xs => eoO (if acc.any (fun o => o.eqv x) = true then acc else acc ++ [x]) xs
theorem eoO_snoc : ∀ (xs : List O) (x : O) (acc : List O), eoO acc (xs ++ [x]) = if (eoO acc xs).any (fun o => o.eqv x) = true then eoO acc xs else eoO acc xs ++ [x]
  | [], x, acc => rfl
  | y :: ys, x, acc => eoO_snoc ys x _
theorem eoO_len : ∀ (xs acc : List O), (eoO acc xs).length ≤ acc.length + xs.length
  | [], acc => Nat.le_refl _
  | x :: xs, acc => by
    have := eoO_len xs (if acc.any (fun o => o.eqv x) = true then acc else acc ++ [x])
    show (eoO (if acc.any (fun o => o.eqv x) = true then acc else acc ++ [x]) xs).length ≤ _
    by_cases h : acc.any (fun o => o.eqv x) = true
    · rw [if_pos h] at this ⊢
      rw [List.length_cons]
      omega
    · rw [if_neg h] at this ⊢
      rw [List.length_append, List.length_singleton] at this
      rw [List.length_cons]
      omega
theorem eoO_mem : ∀ {xs acc : List O} {o : O}, o ∈ eoO acc xs → o ∈ acc ∨ o ∈ xs
  | [], acc, o, h => .inl h
  | x :: xs, acc, o, h => by
    have h : o ∈ eoO (if acc.any (fun o => o.eqv x) = true then acc else acc ++ [x]) xs := h
    rcases eoO_mem h with q | q
    · by_cases c : acc.any (fun o => o.eqv x) = true
      · rw [if_pos c] at q
        exact .inl q
      · rw [if_neg c] at q
        rcases List.mem_append.mp q with q | q
        · exact .inl q
        · exact .inr (by rw [List.mem_singleton.mp q]; exact List.mem_cons_self)
    · exact .inr (List.mem_cons_of_mem _ q)
def dd {α : Type} [DecidableEq α] : List α → List α → List α
  | acc, [] => acc
  | acc, x :: xs => dd (if x ∈ acc then acc else acc ++ [x]) xs
theorem any_map {α : Type} [DecidableEq α] {f : α → O} (h : ∀ a b, (f a).eqv (f b) = decide (a = b)) (acc : List α) (x : α) : ((acc.map f).any fun o => o.eqv (f x)) = decide (x ∈ acc) := by
  induction acc with
  | nil => rfl
  | cons a acc ih =>
    rw [List.map_cons, List.any_cons, ih, h]
    by_cases e : a = x
    · subst e; simp
    · by_cases c : x ∈ acc
      · simp [e, c]
      · simp [e, c, Ne.symm e]
theorem eoO_map {α : Type} [DecidableEq α] {f : α → O} (h : ∀ a b, (f a).eqv (f b) = decide (a = b)) : ∀ (xs acc : List α), eoO (acc.map f) (xs.map f) = (dd acc xs).map f
  | [], acc => rfl
  | x :: xs, acc => by
    show eoO (if ((acc.map f).any fun o => o.eqv (f x)) = true then acc.map f else acc.map f ++ [f x]) (xs.map f) = (dd (if x ∈ acc then acc else acc ++ [x]) xs).map f
    rw [any_map h]
    by_cases c : x ∈ acc
    · rw [if_pos (decide_eq_true c), if_pos c]
      exact eoO_map h xs acc
    · rw [if_neg (by simp [c]), if_neg c, ← eoO_map h xs (acc ++ [x]), List.map_append]
      rfl
theorem eds_all : ∀ {os : List O}, O.eds os = true ↔ ∀ o ∈ os, o.ed = true
  | [] => ⟨fun _ o h => (nomatch h), fun _ => rfl⟩
  | x :: xs => by
    have ih := eds_all (os := xs)
    show (x.ed && O.eds xs) = true ↔ _
    rw [Bool.and_eq_true, ih]
    simp
theorem dps_all {n : Nat} : ∀ {os : List O}, O.dps os ≤ n ↔ ∀ o ∈ os, o.dp ≤ n
  | [] => ⟨fun _ o h => (nomatch h), fun _ => Nat.zero_le _⟩
  | x :: xs => by
    have ih := dps_all (n := n) (os := xs)
    show max x.dp (O.dps xs) ≤ n ↔ _
    rw [Nat.max_le, ih]
    simp
theorem hasLs_all : ∀ {os : List O}, O.hasLs os = false ↔ ∀ o ∈ os, o.hasL = false
  | [] => ⟨fun _ o h => (nomatch h), fun _ => rfl⟩
  | x :: xs => by
    have ih := hasLs_all (os := xs)
    show (x.hasL || O.hasLs xs) = false ↔ _
    rw [Bool.or_eq_false_iff, ih]
    simp
theorem nods_all : ∀ {os : List O}, O.nods os = true ↔ ∀ o ∈ os, o.nod = true
  | [] => ⟨fun _ o h => (nomatch h), fun _ => rfl⟩
  | x :: xs => by
    have ih := nods_all (os := xs)
    show (x.nod && O.nods xs) = true ↔ _
    rw [Bool.and_eq_true, ih]
    simp
/-- plain data: compared, without lists and dicts -/
structure Pl (o : O) : Prop where
  ed : o.ed = true
  dp : o.dp ≤ 40
  nl : o.hasL = false
  nd : o.nod = true
abbrev Pls (os : List O) : Prop := ∀ o ∈ os, Pl o
theorem Pls.tx {H G : Hp} {os : List O} {vs : List V} (h : Pls os) (e : Tx H G) (ov : OVs H vs os) : OVs G vs os := OVs.tx e (hasLs_all.mpr fun o ho => (h o ho).nl) (nods_all.mpr fun o ho => (h o ho).nd) ov
section
variable {K : PySem.W.Frag}
def spOn : Sp := fun vs H Q _ => ∃ (b : Bool) (a : Addr) (us : List V) (os : List O), vs = [.ref a] ∧ SqB H b a us ∧ OVs H us os ∧ Pls os ∧ os.length ≤ 1000 ∧ ∀ p ys G, H p = none → Ex H G → G p = some (.lst ys) → OVs G ys (eoO [] os) → Q (.ref p) G
def tOnce (K : PySem.W.Frag) : TS := tSeq (tAsg (tLst tNil) (gName 1)) (tSeq (tFor (iQ K (tVar 0)) (gName 2) (tIfS (tTest (tOp (rNotInD K) (tVar 2) (tVar 1))) (tDrop (tBM K "list" rAppend (tVar 1) (tCons (tVar 2) tNil))) tNext)) (tRet (tVar 1)))
theorem once_t {vs : List V} {H : Hp} {Q : VK} {E : XK} (h : spOn vs H Q E) : ∃ a, vs = [.ref a] ∧ tOnce K { nx := fun _ H' => Q .non H', rt := Q } [some (.ref a), none, none] H := by
  obtain ⟨b, a, us, os, rfl, ha, hov, hpl, hl, k⟩ := h
  refine ⟨a, rfl, ?_⟩
  unfold tOnce
  have hul := hov.length
  refine q_asgL (el_lst ea_nil (by show 0 ≤ 100000; decide)) fun p H1 hp e1 h1 => ?_
  refine q_forQ (xs := us) (ev_var rfl) (ha.ext e1) (fun i σ' H' => Ex H H' ∧ (∃ c : Option V, σ' = [some (.ref a), some (.ref p), c]) ∧ ∃ ys, H' p = some (.lst ys) ∧ OVs H' ys (eoO [] (os.take i))) ?_ ?_ ?_ ?_
  · intro H2 e2
    exact ⟨e1.trans e2, ⟨none, rfl⟩, [], e2 _ _ h1, rfl⟩
  · rintro i σ' H' hi ⟨e, _⟩
    exact ha.ext e
  · rintro i x σ' H' hx ⟨e, ⟨c, rfl⟩, ys, hys, hoy⟩
    obtain ⟨o, ho, hxo⟩ := (hov.ext e).get hx
    have hm := List.mem_of_getElem? ho
    have hacc : Pls (eoO [] (os.take i)) := fun o' ho' => by
      rcases eoO_mem ho' with q | q
      · exact nomatch q
      · exact hpl o' (List.mem_of_mem_take q)
    have hle := eoO_len (os.take i) []
    have hle2 := List.length_take_le i os
    simp at hle
    have hyl := hoy.length
    refine s_when (b := !(eoO [] (os.take i)).any fun o' => o'.eqv o) (et_test (ev_op (ev_var (i := 2) rfl) (ev_var (i := 1) rfl) (rv_niO hxo hys hoy (hpl o hm).ed (eds_all.mpr fun o' h' => (hacc o' h').ed) (by have := (hpl o hm).dp; omega) (by have := dps_all.mpr fun o' h' => (hacc o' h').dp; omega)))) (fun hb J eJ => ?_) fun hb J eJ => ?_
    · refine s_app (eJ _ _ hys) (ev_var rfl) (ev_var (i := 2) rfl) (by omega) fun J2 e2 => ?_
      have tl := Tx.lst (o := .lst (ys ++ [x])) (e2 _ _ (eJ _ _ hys))
      have e3 := (e.trans eJ).trans e2
      refine ⟨Ex.mut e3 hp, ⟨_, rfl⟩, ys ++ [x], upd_same, ?_⟩
      rw [take_snoc ho, eoO_snoc, if_neg (by intro z; rw [z] at hb; cases hb)]
      exact OVs.append (Pls.tx hacc tl (hoy.ext (eJ.trans e2))) (.cons (OV.tx tl (hpl o hm).nl (hpl o hm).nd (hxo.ext (eJ.trans e2))) .nil)
    · refine ⟨e.trans eJ, ⟨_, rfl⟩, ys, eJ _ _ hys, ?_⟩
      rw [take_snoc ho, eoO_snoc, if_pos (by cases hc : (eoO [] (os.take i)).any fun o' => o'.eqv o with | true => rfl | false => rw [hc] at hb; cases hb)]
      exact hoy.ext eJ
  · rintro σ' H' ⟨e, ⟨c, rfl⟩, ys, hys, hoy⟩
    rw [hul, List.take_length] at hoy
    exact s_ret (ev_var rfl) fun H2 e2 => k p ys H2 hp (e.trans e2) (e2 _ _ hys) (hoy.ext e2)
end
abbrev nUn : List Str := ["things", "told", "thing"]
theorem sc_un : FnScope nUn ["things"] (defScope s_unlike) := ⟨rfl, rfl, rfl, by decide +kernel, rfl, by decide +kernel, by decide +kernel⟩
section
variable {P : Program} {w : World} {K : PySem.W.Frag} {mg : Str → Option Value} {base : Heap}
theorem ok_unlike (T : T17 P w K mg base) : Ok P w K mg base CX0 "unlike" ["things"] 1 spOn := by
  refine T.ok 2 rfl sc_un (fun vs H Q E h => ?_) (fun kV doc pm an cdv ct us hl => match us, hl with | [_], _ => rfl) (fun f cdv A outer s H vs Q E hr h => ?_)
  · obtain ⟨a, rfl, _⟩ := once_t (K := K) h
    rfl
  · obtain ⟨a, rfl, ht⟩ := once_t (K := K) h
    exact ⟨tOnce K, pss_cons (ps_set (i := 1) sc_un.nd rfl (Or.inl rfl) (pe_lst pa_nil))
      (pss_cons (ps_for PassesOwn.never rfl (pi_seq (pv 0)) (pg_name (i := 2) sc_un.nd rfl (Or.inl rfl))
        (pss_one (ps_if (pt_cmpR (op_notInD (u65 hr)) (pv 2) (pv 1) (by rfl)) (pss_one (ps_expr (pe_bm PySem.F.plainAttrs_list PySem.F.slot_list_append PySem.F.type_list_append mt_append (pv 1) (pa_cons (pv 2) pa_nil)))) pss_nil)))
      (pss_one (ps_ret (pv 1)))), ht⟩
theorem ok_once (T : T17 P w K mg base) : Ok P w K mg base CX0 "_law_each_once" ["_law_things"] 1 spOn := by
  refine T.ok 14 rfl sc_eo (fun vs H Q E h => ?_) (fun kV doc pm an cdv ct us hl => match us, hl with | [_], _ => rfl) (fun f cdv A outer s H vs Q E hr h => ?_)
  · obtain ⟨a, rfl, _⟩ := once_t (K := K) h
    rfl
  · obtain ⟨a, rfl, ht⟩ := once_t (K := K) h
    exact ⟨tOnce K, pss_cons (ps_set (i := 1) sc_eo.nd rfl (Or.inl rfl) (pe_lst pa_nil))
      (pss_cons (ps_for PassesOwn.never rfl (pi_seq (pv 0)) (pg_name (i := 2) sc_eo.nd rfl (Or.inl rfl))
        (pss_one (ps_if (pt_cmpR (op_notInD (u65 hr)) (pv 2) (pv 1) (by rfl)) (pss_one (ps_expr (pe_bm PySem.F.plainAttrs_list PySem.F.slot_list_append PySem.F.type_list_append mt_append (pv 1) (pa_cons (pv 2) pa_nil)))) pss_nil)))
      (pss_one (ps_ret (pv 1)))), ht⟩
end
end K17

set_option Elab.async false
set_option linter.all false
set_option maxRecDepth 100000
set_option maxHeartbeats 4000000
/-! Literals. -/
namespace K17
open PySem PySem.Spec PyProof.Rows L2 Evl
mutual
def W.beq : W → W → Bool
  | .v s, .v t => s == t
  | .n s as, .n t bs => s == t && W.beqs as bs
  | .v _, .n _ _ => false
  | .n _ _, .v _ => false
def W.beqs : List W → List W → Bool
  | [], [] => true
  | x :: xs, y :: ys => x.beq y && W.beqs xs ys
  | [], _ :: _ => false
  | _ :: _, [] => false
end
mutual
theorem W.beq_eq : ∀ {z y : W}, z.beq y = true → z = y
  | .v s, .v t, h => by rw [show s = t from beq_iff_eq.mp h]
  | .n s as, .n t bs, h => by
    have h : (s == t && W.beqs as bs) = true := h
    rw [Bool.and_eq_true] at h
    rw [show s = t from beq_iff_eq.mp h.1, W.beqs_eq h.2]
  | .v _, .n _ _, h => nomatch h
  | .n _ _, .v _, h => nomatch h
theorem W.beqs_eq : ∀ {xs ys : List W}, W.beqs xs ys = true → xs = ys
  | [], [], _ => rfl
  | x :: xs, y :: ys, h => by
    have h : (x.beq y && W.beqs xs ys) = true := h
    rw [Bool.and_eq_true] at h
    rw [W.beq_eq h.1, W.beqs_eq h.2]
  | [], _ :: _, h => nomatch h
  | _ :: _, [], h => nomatch h
end
mutual
theorem W.beq_self : ∀ z : W, z.beq z = true
  | .v s => beq_self_eq_true s
  | .n s as => by
    show (s == s && W.beqs as as) = true
    rw [beq_self_eq_true, W.beqs_self as]
    rfl
theorem W.beqs_self : ∀ xs : List W, W.beqs xs xs = true
  | [] => rfl
  | x :: xs => by
    show (x.beq x && W.beqs xs xs) = true
    rw [W.beq_self x, W.beqs_self xs]
    rfl
end
mutual
theorem eqv_w : ∀ z y : W, PyData.eqv z.o.py y.o.py = z.beq y
  | .v s, .v t => by simp only [W.o, O.py, PyData.eqv, W.beq]
  | .n s as, .n t bs => by simp only [W.o, O.py, O.pys, PyData.eqv, PyData.eqvAll, W.beq, eqv_ws as bs]
  | .v _, .n _ _ => by simp only [W.o, O.py, PyData.eqv, W.beq]
  | .n _ _, .v _ => by simp only [W.o, O.py, PyData.eqv, W.beq]
theorem eqv_ws : ∀ xs ys : List W, PyData.eqvAll (O.pys (W.os xs)) (O.pys (W.os ys)) = W.beqs xs ys
  | [], [] => by simp only [W.os, O.pys, PyData.eqvAll, W.beqs]
  | x :: xs, y :: ys => by simp only [W.os, O.pys, PyData.eqvAll, W.beqs, eqv_w x y, eqv_ws xs ys]
  | [], _ :: _ => by simp only [W.os, O.pys, PyData.eqvAll, W.beqs]
  | _ :: _, [] => by simp only [W.os, O.pys, PyData.eqvAll, W.beqs]
end

instance : DecidableEq W := fun a b => if h : a.beq b = true then isTrue (W.beq_eq h) else isFalse fun e => h (by rw [e]; exact W.beq_self b)
theorem beq_dec {a b : W} : a.beq b = decide (a = b) := by
  by_cases h : a = b
  · rw [decide_eq_true h, h, W.beq_self]
  · rw [decide_eq_false h]
    cases q : a.beq b with
    | false => rfl
    | true => exact absurd (W.beq_eq q) h
theorem eqv_W (a b : W) : a.o.eqv b.o = decide (a = b) := by
  rw [← beq_dec]
  exact eqv_w a b
mutual
theorem W.odp : ∀ z : W, z.o.dp ≤ z.dp
  | .v s => Nat.le_refl _
  | .n s as => by
    have := W.odps as
    show max 0 (O.dps (W.os as)) + 1 ≤ W.dps as + 1
    omega
theorem W.odps : ∀ zs : List W, O.dps (W.os zs) ≤ W.dps zs
  | [] => Nat.le_refl _
  | z :: zs => by
    have h1 := W.odp z
    have h2 := W.odps zs
    show max z.o.dp (O.dps (W.os zs)) ≤ max z.dp (W.dps zs)
    omega
end
/-! ### what evaluates to data -/
def EvO (te : TE) (σ : L2.St) (H : Hp) (o : O) : Prop := ∀ H1, Ex H H1 → ∀ Q : VK, (∀ v H2, Ex H1 H2 → OV H2 v o → Q v H2) → te σ H1 Q
def EvAO (ta : TA) (σ : L2.St) (H : Hp) (os : List O) : Prop := ∀ H1, Ex H H1 → ∀ Q : List V → Hp → Prop, (∀ vs H2, Ex H1 H2 → OVs H2 vs os → Q vs H2) → ta σ H1 Q
section
variable {K : PySem.W.Frag} {H G : Hp} {σ : L2.St} {te ta' tb tl : TE} {ta : TA} {tt : TT} {v : V} {vs : List Nat}
theorem eo_str {i : Str} : EvO (tC (.str i)) σ H (.str i) := fun H1 e Q q => q _ _ (Ex.refl _) rfl
theorem eo_bl {i : Bool} : EvO (tC (.bl i)) σ H (.bl i) := fun H1 e Q q => q _ _ (Ex.refl _) rfl
theorem eo_of {o : O} (h : Ev te σ H v) (k : OV H v o) : EvO te σ H o := fun H1 e Q q => h H1 e _ fun H2 e2 => q v H2 e2 (k.ext (e.trans e2))
theorem eo_var {i : Nat} {v : V} {o : O} (h : σ[i]? = some (some v)) (k : OV H v o) : EvO (tVar i) σ H o := fun H1 e Q q => ⟨v, h, q _ _ (Ex.refl _) (k.ext e)⟩
theorem eao_nil : EvAO tNil σ H [] := fun H1 e Q q => q _ _ (Ex.refl _) rfl
theorem eao_cons {o : O} {os : List O} (h : EvO te σ H o) (k : EvAO ta σ H os) : EvAO (tCons te ta) σ H (o :: os) := fun H1 e Q q =>
  h H1 e _ fun v H2 e2 hv => k H2 (e.trans e2) _ fun vs H3 e3 hvs => q (v :: vs) H3 (e2.trans e3) (.cons (hv.ext e3) hvs)
theorem eo_tup {os : List O} (h : EvAO ta σ H os) (n : os.length ≤ 1000) : EvO (tTup ta) σ H (.tup os) := fun H1 e Q q =>
  h H1 e _ fun vs H2 e2 hvs => ⟨sz_of (by rw [hvs.length]; omega), fun p hp => q (.ref p) _ (e2.trans (Ex.new hp)) ⟨p, vs, rfl, upd_same, hvs.ext (Ex.new hp)⟩⟩
theorem eo_lst {os : List O} (h : EvAO ta σ H os) (n : os.length ≤ 1000) : EvO (tLst ta) σ H (.lst os) := fun H1 e Q q =>
  h H1 e _ fun vs H2 e2 hvs => ⟨sz_of (by rw [hvs.length]; omega), fun p hp => q (.ref p) _ (e2.trans (Ex.new hp)) ⟨p, vs, rfl, upd_same, hvs.ext (Ex.new hp)⟩⟩
theorem ev_opO {r : R2} {a b : O} {z : V} (h1 : EvO ta' σ H a) (h2 : EvO tb σ H b) (k : ∀ u w G, Ex H G → OV G u a → OV G w b → RV r u w G z) : Ev (tOp r ta' tb) σ H z := fun H1 e Q q =>
  h1 H1 e _ fun u H2 e2 hu => h2 H2 (e.trans e2) _ fun w H3 e3 hw => k u w H3 ((e.trans e2).trans e3) (hu.ext e3) hw H3 (Ex.refl _) _ fun H4 e4 => q H4 ((e2.trans e3).trans e4)
theorem ev_notV {b : Bool} (h : Ev te σ H (.bl b)) : Ev (tNotV te) σ H (.bl (!b)) := fun H1 e Q q => h H1 e _ fun H2 e2 => ⟨b, rfl, q H2 e2⟩
/-- one out of a list of data, each kept by what filters -/
theorem A2.split {α β : Type} {R : α → β → Prop} : ∀ {as bs : List α} {cs : List β}, A2 R (as ++ bs) cs → ∃ c1 c2, cs = c1 ++ c2 ∧ A2 R as c1 ∧ A2 R bs c2
  | [], bs, cs, h => ⟨[], cs, rfl, trivial, h⟩
  | a :: as, bs, [], h => h.elim
  | a :: as, bs, c :: cs, h => by
    obtain ⟨c1, c2, rfl, h1, h2⟩ := A2.split (as := as) h.2
    exact ⟨c :: c1, c2, rfl, ⟨h.1, h1⟩, h2⟩
theorem a2_ovs {α : Type} {ls : List α} {f : α → Bool} {g : α → O} : ∀ (n : Nat) (acc : List V), n ≤ ls.length → A2 (fun i y => ∃ l, ls[i]? = some l ∧ OV G y (g l)) ((List.range n).filter fun i => ((ls[i]?).map f).getD false) acc → OVs G acc (((ls.take n).filter f).map g)
  | 0, acc, _, h => by
    cases acc with
    | nil => exact .nil
    | cons c cs => exact h.elim
  | n + 1, acc, hn, h => by
    have hg : ls[n]? = some ls[n] := List.getElem?_eq_getElem (by omega)
    rw [List.range_succ, List.filter_append] at h
    obtain ⟨c1, c2, rfl, h1, h2⟩ := A2.split h
    rw [take_snoc hg, List.filter_append, List.map_append]
    refine OVs.append (a2_ovs n c1 (by omega) h1) ?_
    rw [List.filter_cons, hg] at h2
    rw [List.filter_cons]
    by_cases hf : f ls[n] = true
    · rw [if_pos (by simpa using hf)] at h2
      rw [if_pos hf]
      match c2, h2 with
      | [y], h2 =>
        obtain ⟨⟨l, e, ov⟩, _⟩ := h2
        rw [hg] at e
        obtain rfl := Option.some.inj e
        exact .cons ov .nil
    · rw [if_neg (by simpa using hf)] at h2
      rw [if_neg hf]
      match c2, h2 with
      | [], _ => exact .nil
theorem upd_ov {H0 : Hp} {Dl : Addr} {v : V} {o : O} (h1 : o.hasL = false) (h2 : o.nod = true) : UpD H0 Dl (fun G => OV G v o) := fun A B xs hA eA eB kp ov => OV.tx (fun b ys hb => kp b _ (by rintro rfl; rw [hA] at hb; cases hb) hb) h1 h2 ov
end
/-! ### literals -/
abbrev Lit := Bool × W
def litO (l : Lit) : O := .tup [.bl l.1, l.2.o]
def same2 : List W → Bool
  | [a, b] => decide (a = b)
  | _ => false
def same : W → Bool
  | .n s as => decide (s = ("=" : Str)) && same2 as
  | .v _ => false
structure Lg (l : Lit) : Prop where
  at_ : ∃ s as, l.2 = .n s as ∧ (s = ("=" : Str) → ∃ a b, as = [a, b])
  dp : l.2.dp ≤ 8
  sz : l.2.sz ≤ 200
  wd : l.2.o.wd = true
abbrev Lgs (ls : List Lit) : Prop := ∀ l ∈ ls, Lg l
theorem lit_wd {l : Lit} (h : Lg l) : (litO l).wd = true := by
  show (true && (l.2.o.wd && true)) = true
  rw [h.wd]
  rfl
theorem lit_dp {l : Lit} (h : Lg l) : (litO l).dp ≤ 9 := by
  have h1 := W.odp l.2
  have h2 := h.dp
  show max 0 (max l.2.o.dp 0) + 1 ≤ 9
  omega
theorem lit_sz (l : Lit) : (litO l).sz = l.2.sz + 2 := by
  show 1 + (l.2.o.sz + 0) + 1 = _
  rw [W.osz]
  omega
theorem lit_noL (l : Lit) : (litO l).hasL = false := by
  show (false || (l.2.o.hasL || false)) = false
  rw [W.noL]
  rfl
theorem lit_nod (l : Lit) : (litO l).nod = true := by
  show (true && (l.2.o.nod && true)) = true
  rw [W.nod]
  rfl
theorem lit_pl {l : Lit} (h : Lg l) : Pl (litO l) := ⟨wd_ed _ (lit_wd h), Nat.le_trans (lit_dp h) (by decide), lit_noL l, lit_nod l⟩
theorem lit_eqv (a b : Lit) : (litO a).eqv (litO b) = decide (a = b) := by
  have e : (litO a).eqv (litO b) = ((a.1 == b.1) && a.2.o.eqv b.2.o) := by
    simp only [litO, O.eqv, O.py, O.pys, PyData.eqv, PyData.eqvAll, Bool.and_true]
  rw [e, eqv_W]
  obtain ⟨a1, a2⟩ := a
  obtain ⟨b1, b2⟩ := b
  by_cases h1 : a1 = b1 <;> by_cases h2 : a2 = b2 <;> simp [h1, h2]
theorem lits_noL (ls : List Lit) : O.hasLs (ls.map litO) = false := hasLs_all.mpr fun o ho => by obtain ⟨l, _, rfl⟩ := List.mem_map.mp ho; exact lit_noL l
theorem lits_nod (ls : List Lit) : O.nods (ls.map litO) = true := nods_all.mpr fun o ho => by obtain ⟨l, _, rfl⟩ := List.mem_map.mp ho; exact lit_nod l
theorem lits_pls {ls : List Lit} (h : Lgs ls) : Pls (ls.map litO) := fun o ho => by obtain ⟨l, hl, rfl⟩ := List.mem_map.mp ho; exact lit_pl (h l hl)
theorem lits_eds {ls : List Lit} (h : Lgs ls) : O.eds (ls.map litO) = true := eds_all.mpr fun o ho => (lits_pls h o ho).ed
theorem lits_dps {ls : List Lit} (h : Lgs ls) : O.dps (ls.map litO) ≤ 40 := dps_all.mpr fun o ho => (lits_pls h o ho).dp
theorem dd_mem {α : Type} [DecidableEq α] : ∀ {xs acc : List α} {x : α}, x ∈ dd acc xs ↔ x ∈ acc ∨ x ∈ xs
  | [], acc, x => by simp [dd]
  | y :: ys, acc, x => by
    show x ∈ dd (if y ∈ acc then acc else acc ++ [y]) ys ↔ _
    rw [dd_mem]
    by_cases c : y ∈ acc
    · rw [if_pos c]
      constructor
      · rintro (h | h)
        · exact .inl h
        · exact .inr (List.mem_cons_of_mem _ h)
      · rintro (h | h)
        · exact .inl h
        · rcases List.mem_cons.mp h with rfl | h
          · exact .inl c
          · exact .inr h
    · rw [if_neg c]
      simp [or_assoc]
theorem dd_lgs {ls : List Lit} (h : Lgs ls) : Lgs (dd [] ls) := fun l hl => by
  rcases dd_mem.mp hl with z | z
  · cases z
  · exact h l z
theorem dd_len {α : Type} [DecidableEq α] : ∀ (xs acc : List α), (dd acc xs).length ≤ acc.length + xs.length
  | [], acc => Nat.le_refl _
  | x :: xs, acc => by
    have := dd_len xs (if x ∈ acc then acc else acc ++ [x])
    show (dd (if x ∈ acc then acc else acc ++ [x]) xs).length ≤ _
    by_cases h : x ∈ acc
    · rw [if_pos h] at this ⊢
      rw [List.length_cons]
      omega
    · rw [if_neg h] at this ⊢
      rw [List.length_append, List.length_singleton] at this
      rw [List.length_cons]
      omega
/-- literals in a list -/
def LitsV (H : Hp) (us : List V) (ls : List Lit) : Prop := OVs H us (ls.map litO)
theorem lit_at {H : Hp} {us : List V} {ls : List Lit} (h : OVs H us (ls.map litO)) {i : Nat} {x : V} (hx : us[i]? = some x) : ∃ l t y, ls[i]? = some l ∧ x = .ref t ∧ H t = some (.tup [.bl l.1, y]) ∧ WV H y l.2 := by
  obtain ⟨o, ho, ov⟩ := h.get hx
  rw [List.getElem?_map] at ho
  obtain ⟨l, hl, rfl⟩ := Option.map_eq_some_iff.mp ho
  obtain ⟨t, zs, rfl, ht, x1, z1, rfl, hx1, x2, z2, rfl, hx2, hz⟩ := ov
  obtain rfl : z2 = [] := hz
  obtain rfl : x1 = .bl l.1 := hx1
  exact ⟨l, t, x2, hl, rfl, ht, hx2⟩
section
variable {K : PySem.W.Frag} {H G : Hp} {σ : L2.St} {te tl : TE} {tt : TT} {v : V} {vs : List Nat}
/-- [.. for is_so, atom in literals ..] -/
theorem lcO {a : Addr} {us : List V} {ls : List Lit} {j1 j2 : Nat} (f : Lit → Bool) (g : Lit → O) (h : Ev tl σ H (.ref a)) (hx : H a = some (.lst us)) (hov : OVs H us (ls.map litO)) (hl : ls.length ≤ 30000)
    (hw : ∀ x y, wipe (((wipe σ vs).set j1 (some x)).set j2 (some y)) vs = wipe σ vs)
    (ht : ∀ l y G, l ∈ ls → Ex H G → WV G y l.2 → EvT tt (((wipe σ vs).set j1 (some (.bl l.1))).set j2 (some y)) G (f l))
    (he : ∀ l y G, l ∈ ls → Ex H G → WV G y l.2 → f l = true → EvO te (((wipe σ vs).set j1 (some (.bl l.1))).set j2 (some y)) G (g l))
    (hp : ∀ l ∈ ls, (g l).hasL = false ∧ (g l).nod = true) : EvLP (tLc (iList K tl) (gPair K j1 j2) tt te vs) σ H (fun xs G => OVs G xs ((ls.filter f).map g)) := fun H1 e Q q =>
  h H1 e _ fun H2 e2 => ⟨a, rfl, ⟨us, sq_of (e2 _ _ (e _ _ hx))⟩, fun Dl hD => by
    have hul : us.length = ls.length := by rw [hov.length, List.length_map]
    refine lc_list (xs := us) (Cwp H2 (fun i => ((ls[i]?).map f).getD false) (fun i v G => ∃ l, ls[i]? = some l ∧ OV G v (g l)) Dl) (cwp0 hD) (fun i G _ p => sq_of (p.2.1 _ _ (e2 _ _ (e _ _ hx)))) (fun i x G hx' p => ?_) (fun G p => ?_)
    · have eG := (e.trans e2).trans p.2.1
      obtain ⟨l, t, y, hl', rfl, ht0, hy⟩ := lit_at (hov.ext eG) hx'
      have hm := List.mem_of_getElem? hl'
      have hi := (List.getElem?_eq_some_iff.mp hl').1
      refine ⟨t, _, rfl, st_of ht0, rfl, _, _, rfl, _, _, rfl, rfl, hw _ _, cwp_turn (fun i v => ?_) p (Ex.refl _) (by omega) ?_ (fun hf G3 g3 => ?_)⟩
      · intro A B xs hA eA eB kp ⟨l, hl, ov⟩
        obtain ⟨p1, p2⟩ := hp l (List.mem_of_getElem? hl)
        exact ⟨l, hl, upd_ov p1 p2 A B xs hA eA eB kp ov⟩
      · rw [hl']
        exact ht l y G hm eG hy
      · rw [hl'] at hf
        exact fun G4 g4 Q4 q4 => he l y G hm eG hy hf G4 (g3.trans g4) Q4 fun v G5 g5 ov => q4 v G5 g5 ⟨l, hl', ov⟩
    · obtain ⟨p1, p2, acc, p3, p4, p5⟩ := p
      refine q Dl acc G (fresh_back e2 p1) (e2.trans p2) p3 ?_
      have := a2_ovs us.length acc (by omega) p5
      rw [hul, List.take_length] at this
      exact this⟩
end
end K17

set_option Elab.async false
set_option linter.all false
set_option maxRecDepth 100000
set_option maxHeartbeats 4000000
/-! clause_variables, is_always_true. -/
namespace K17
open PySem PySem.Spec PyProof.Rows L2 Evl
def lvars (ls : List Lit) : List Str := W.varsL [] (ls.map (·.2))
theorem szs_all {m : Nat} : ∀ {zs : List W}, (∀ z ∈ zs, z.sz ≤ m) → W.szs zs ≤ m * zs.length
  | [], _ => Nat.zero_le _
  | z :: zs, h => by
    have h1 := h z List.mem_cons_self
    have h2 := szs_all (zs := zs) fun y hy => h y (List.mem_cons_of_mem _ hy)
    show z.sz + W.szs zs ≤ m * (zs.length + 1)
    rw [Nat.mul_succ]
    omega
theorem lvars_len {ls : List Lit} (h : Lgs ls) (hl : ls.length ≤ 40) : (lvars ls).length ≤ 8000 := by
  have h1 := W.varsL_len [] (ls.map (·.2))
  have h2 := szs_all (m := 200) (zs := ls.map (·.2)) fun z hz => by obtain ⟨l, hl, rfl⟩ := List.mem_map.mp hz; exact (h l hl).sz
  rw [List.length_map] at h2
  have h3 : 200 * ls.length ≤ 200 * 40 := Nat.mul_le_mul_left _ hl
  simp at h1
  unfold lvars
  omega
theorem lgs_take {ls : List Lit} (h : Lgs ls) (n : Nat) : Lgs (ls.take n) := fun l hl => h l (List.mem_of_mem_take hl)
abbrev nCv : List Str := ["clause", "told", "literal", "variable"]
theorem sc_cv : FnScope nCv ["clause"] (defScope s_clause_variables) := ⟨rfl, rfl, rfl, by decide +kernel, rfl, by decide +kernel, by decide +kernel⟩
def spCv : Sp := fun vs H Q _ => ∃ a us ls, vs = [.ref a] ∧ H a = some (.lst us) ∧ OVs H us (ls.map litO) ∧ Lgs ls ∧ ls.length ≤ 40 ∧ ∀ p G, H p = none → Ex H G → G p = some (.lst (sVs (lvars ls))) → Q (.ref p) G
abbrev nAt : List Str := ["literals", "is_so", "atom"]
theorem sc_at : FnScope nAt ["literals"] (defScope s_is_always_true) := ⟨rfl, rfl, rfl, by decide +kernel, rfl, by decide +kernel, by decide +kernel⟩
def bad (ls : List Lit) (l : Lit) : Bool := decide ((!l.1, l.2) ∈ ls) || (l.1 && same l.2)
def alw (ls : List Lit) : Bool := ls.any (bad ls)
def spAt : Sp := fun vs H Q _ => ∃ a us ls, vs = [.ref a] ∧ H a = some (.lst us) ∧ OVs H us (ls.map litO) ∧ Lgs ls ∧ ls.length ≤ 40 ∧ RetV (.bl (alw ls)) H Q
section
variable {P : Program} {w : World} {K : PySem.W.Frag} {mg : Str → Option Value} {base : Heap}
theorem ok_clause_variables (T : T17 P w K mg base) : Ok P w K mg base CX0 "clause_variables" ["clause"] 21 spCv := by
  obtain ⟨fR, dR, GR, bR, kR, mR⟩ := (ok_variables_in T 19).ex
  refine T.ok 4 rfl sc_cv (fun vs H Q E h => ?_) (fun kV doc pm an cdv ct us hl => match us, hl with | [_], _ => rfl) (fun f cdv A outer s H vs Q E hr h => ?_)
  · obtain ⟨a, us, ls, rfl, _⟩ := h
    rfl
  · obtain ⟨a, us, ls, rfl, ha, hov, hlg, hlen, k⟩ := h
    refine ⟨_, pss_cons (ps_set (i := 1) sc_cv.nd rfl (Or.inr rfl) (pe_lst pa_nil))
        (pss_cons (ps_for PassesOwn.never rfl (pi_list (pv 0)) (pg_name (i := 2) sc_cv.nd rfl (Or.inl rfl))
          (pss_one (ps_expr (pe_bm PySem.F.plainAttrs_list PySem.F.slot_list_extend PySem.F.type_list_extend mt_extend (pv 1) (pa_cons
            (pe_lc (own := [("variable", 3)]) (g := gName 3) (tt := tTest (tOp (rIn K true) (tVar 3) (tVar 1))) (te := tVar 3) rfl sc_cv.nd (pi_list (pe_call GR hr (by rfl) mR kR bR .nil pass0 (pa_cons (pe_ix ix_tup (pv 2) pe_int (fun _ _ => rfl)) pa_nil))) (blkOk_by (N := nCv) (sc := defScope s_clause_variables) (by decide +kernel))
              (fun _ _ _ _ _ => pg_name (i := 3) sc_cv.nd rfl (Or.inl rfl)) (fun _ _ _ _ _ => pts_one (pt_cmpR op_notIn_seq (pv 3) (pv 1) (by rfl))) (fun _ _ _ _ _ => pv 3)) pa_nil)))))
        (pss_one (ps_ret (pv 1)))), ?_⟩
    have hul : us.length = ls.length := by rw [hov.length, List.length_map]
    refine q_asgL (el_lst ea_nil (by show 0 ≤ 100000; decide)) fun p H1 hp0 e1 h1 => ?_
    refine q_forL (xs := us) (ev_var rfl) (sq_of (e1 _ _ ha)) (fun i σ' H' => Ex H H' ∧ (∃ b : Option V, σ' = [some (.ref a), some (.ref p), b, none]) ∧ H' p = some (.lst (sVs (lvars (ls.take i))))) ?_ ?_ ?_ ?_
    · intro H2 e2
      exact ⟨e1.trans e2, ⟨none, rfl⟩, e2 _ _ h1⟩
    · rintro i σ' H' hi ⟨e, _⟩
      exact sq_of (e _ _ ha)
    · rintro i x σ' H' hx ⟨e3, ⟨b, rfl⟩, h3⟩
      obtain ⟨l, t, y, hl', rfl, ht0, hy⟩ := lit_at (hov.ext e3) hx
      have hm := hlg l (List.mem_of_getElem? hl')
      have hd := hm.dp
      have hs := hm.sz
      have hvl := W.vars_len l.2
      have hvl2 := lvars_len (lgs_take hlg i) (by have : (ls.take i).length ≤ ls.length := List.length_take_le' i ls; omega)
      refine s_extL (xs := sVs (lvars (ls.take i))) (zs := sVs (l.2.vars.filter fun s => !(lvars (ls.take i)).contains s)) h3 (ev_var rfl) (evl_notin (i := 1) (j := 3) (fun H4 e4 Q4 q4 => ⟨.ref t, rfl, t, _, 1, y, rfl, rfl, st_of (e4 _ _ ht0), atI_nat (j := 1) rfl, y, l.2, rfl, hy.ext e4, by omega, by omega, by omega, fun pq H5 hpq e5 h5 => q4 pq H5 hpq e5 h5⟩) h3 (fun _ => rfl) (fun _ => rfl) (fun _ => rfl) (by omega)) ?_ fun H4 e4 => ?_
      · have h5 := List.length_filter_le (fun s => !(lvars (ls.take i)).contains s) l.2.vars
        unfold sVs
        rw [List.length_map, List.length_map]
        omega
      · refine ⟨Ex.mut (e3.trans e4) hp0, ⟨_, rfl⟩, ?_⟩
        rw [upd_same, take_snoc hl']
        unfold lvars sVs
        rw [List.map_append, ← List.map_append]
        show _ = some (HO.lst (List.map V.str (W.varsL [] (List.map (·.2) (ls.take i) ++ [l.2]))))
        rw [W.varsL_snoc]
    · rintro σ' H' ⟨e3, ⟨b, rfl⟩, h3⟩
      rw [hul, List.take_length] at h3
      exact s_ret (ev_var rfl) fun H4 e4 => k p H4 hp0 (e3.trans e4) (e4 _ _ h3)
theorem ok_always (T : T17 P w K mg base) : Ok P w K mg base CX0 "is_always_true" ["literals"] 1 spAt := by
  refine T.ok 6 rfl sc_at (fun vs H Q E h => ?_) (fun kV doc pm an cdv ct us hl => match us, hl with | [_], _ => rfl) (fun f cdv A outer s H vs Q E hr h => ?_)
  · obtain ⟨a, us, ls, rfl, _⟩ := h
    rfl
  · obtain ⟨a, us, ls, rfl, ha, hov, hlg, hlen, k⟩ := h
    refine ⟨_, pss_cons (ps_for PassesOwn.never rfl (pi_list (pv 0)) (pg_tup rfl (pgs_cons (pg_name (i := 1) sc_at.nd rfl (Or.inl rfl)) (pgs_cons (pg_name (i := 2) sc_at.nd rfl (Or.inl rfl)) pgs_nil)))
        (pss_one (ps_if (PW.pt (pw_or (pt_cmpR (op_inD (u65 hr)) (pe_tup (pa_cons (pe_not (pv 1)) (pa_cons (pv 2) pa_nil))) (pv 0) (by rfl))
          (pw_or1 (PW.pt (pw_and (pt_val (pv 1)) (pw_and (pt_cmpR op_eq (pe_ix ix_tup (pv 2) pe_int (fun _ _ => rfl)) pe_str (nomark _))
            (pw_and1 (pt_cmpR (op_eqD hr.units) (pe_ix ix_tup (pv 2) pe_int (fun _ _ => rfl)) (pe_ix ix_tup (pv 2) pe_int (fun _ _ => rfl)) (nomark _))))))))) (pss_one (ps_ret pe_bl)) pss_nil)))
      (pss_one (ps_ret pe_bl)), ?_⟩
    have hul : us.length = ls.length := by rw [hov.length, List.length_map]
    refine q_forL (xs := us) (ev_var rfl) (sq_of ha) (fun i σ' H' => Ex H H' ∧ (∃ b c : Option V, σ' = [some (.ref a), b, c]) ∧ (ls.take i).any (bad ls) = false) ?_ ?_ ?_ ?_
    · intro H2 e2
      exact ⟨e2, ⟨none, none, rfl⟩, rfl⟩
    · rintro i σ' H' hi ⟨e, _⟩
      exact sq_of (e _ _ ha)
    · rintro i x σ' H' hx ⟨e3, ⟨b, c, rfl⟩, h3⟩
      obtain ⟨l, t, y, hl', rfl, ht0, hy⟩ := lit_at (hov.ext e3) hx
      have hlm := List.mem_of_getElem? hl'
      have hm := hlg l hlm
      refine ⟨t, _, rfl, st_of ht0, rfl, _, _, rfl, _, _, rfl, rfl, ?_⟩
      obtain ⟨s, as, ea, hs⟩ := hm.at_
      have hy2 := hy
      rw [ea] at hy2
      obtain ⟨r, zs, rfl, hr1, hzs⟩ := hy2.tup
      refine s_when (b := bad ls l) (et_or (et_is (a := (ls.map litO).any fun o => o.eqv (litO (!l.1, l.2))) (et_test (ev_opO (a := litO (!l.1, l.2)) (b := .lst (ls.map litO)) (eo_tup (eao_cons (eo_of (ev_notV (ev_var rfl)) rfl) (eao_cons (eo_var rfl hy) eao_nil)) (by show 2 ≤ 1000; decide)) (eo_var rfl ⟨a, us, rfl, e3 _ _ ha, hov.ext e3⟩) fun u w G eG hu hw' => ?_)) ?_) fun _ => ?_) (fun hb J eJ => ?_) fun hb J eJ => ?_
      · obtain ⟨a2, us2, rfl, ha2, hov2⟩ := hw'
        exact rv_inO hu ha2 hov2 (wd_ed _ (lit_wd ⟨hm.at_, hm.dp, hm.sz, hm.wd⟩)) (lits_eds hlg) (by have := lit_dp (l := (!l.1, l.2)) ⟨hm.at_, hm.dp, hm.sz, hm.wd⟩; omega) (by have := lits_dps hlg; omega)
      · exact (any_map lit_eqv ls (!l.1, l.2)).trans (decide_eq_decide.mpr Iff.rfl)
      · refine et_and (et_B (ev_var rfl)) fun _ => ?_
        rw [ea]
        refine et_and (a := decide (s = ("=" : Str))) (et_is (et_test (ev_op (ev_op (z := .str s) (ev_var rfl) ev_c (rv_ixT (st_of hr1) (atI_nat (j := 0) rfl))) ev_c (rv_eq rfl))) ?_) fun hse => ?_
        · by_cases q : s = ("=" : Str)
          · rw [decide_eq_true q, decide_eq_true (by rw [q])]
          · rw [decide_eq_false q, decide_eq_false (fun z => q (V.str.inj z))]
        · obtain ⟨x1, x2, rfl⟩ := hs (of_decide_eq_true hse)
          obtain ⟨v1, u1, rfl, w1, v2, u2, rfl, w2, hu3⟩ := hzs
          have hwd : (W.n s [x1, x2]).o.wd = true := by rw [← ea]; exact hm.wd
          have hwd' : (SS.contains s && (x1.o.wd && (x2.o.wd && true))) = true := hwd
          simp only [Bool.and_eq_true] at hwd'
          have hdp : (W.n s [x1, x2]).dp ≤ 8 := by rw [← ea]; exact hm.dp
          have hdp' : max x1.dp (max x2.dp 0) + 1 ≤ 8 := hdp
          have o1 := W.odp x1
          have o2 := W.odp x2
          exact et_is (et_test (ev_op (ev_op (z := v1) (ev_var rfl) ev_c (rv_ixT (st_of hr1) (atI_nat (j := 1) rfl))) (ev_op (z := v2) (ev_var rfl) ev_c (rv_ixT (st_of hr1) (atI_nat (j := 2) rfl))) (rv_eqO w1 w2 (wd_ed _ hwd'.2.1) (wd_ed _ hwd'.2.2.1) (by omega) (by omega)))) (eqv_W x1 x2)
      · refine s_ret ev_c fun H4 e4 => ?_
        have : alw ls = true := List.any_eq_true.mpr ⟨l, hlm, hb⟩
        rw [← this]
        exact k H4 ((e3.trans eJ).trans e4)
      · refine ⟨e3.trans eJ, ⟨_, _, rfl⟩, ?_⟩
        rw [take_snoc hl', List.any_append, h3]
        simp [hb]
    · rintro σ' H' ⟨e3, ⟨b, c, rfl⟩, h3⟩
      rw [hul, List.take_length] at h3
      refine s_ret ev_c fun H4 e4 => ?_
      rw [← show alw ls = false from h3]
      exact k H4 (e3.trans e4)
end
end K17

set_option Elab.async false
set_option linter.all false
set_option maxRecDepth 100000
set_option maxHeartbeats 4000000
/-! trimmed, told_clause. -/
namespace K17
open PySem PySem.Spec PyProof.Rows L2 Evl
def trimL (ls : List Lit) : Option (List Lit) := if alw (dd [] ls) = true then none else some ((dd [] ls).filter fun l => !same l.2)
abbrev nTr : List Str := ["literals", "told", "is_so", "atom"]
theorem sc_tr : FnScope nTr ["literals"] (defScope s_trimmed) := ⟨rfl, rfl, rfl, by decide +kernel, rfl, by decide +kernel, by decide +kernel⟩
def optL (H : Hp) (Q : VK) : Option (List Lit) → Prop
  | none => ∀ G, Ex H G → Q .non G
  | some ms => ∀ p us G, H p = none → Ex H G → G p = some (.lst us) → OVs G us (ms.map litO) → Q (.ref p) G
structure Given (H : Hp) (v : V) (o : O) (ls : List Lit) : Prop where
  ov : OV H v o
  st : o.strip = .tup (ls.map litO)
  sz : o.sz ≤ 9000
  nd : o.nod = true
  lg : Lgs ls
  len : ls.length ≤ 40
theorem Given.ext {H G : Hp} {v : V} {o : O} {ls : List Lit} (h : Given H v o ls) (e : Ex H G) : Given G v o ls := ⟨h.ov.ext e, h.st, h.sz, h.nd, h.lg, h.len⟩
def spTr : Sp := fun vs H Q _ => ∃ v o ls, vs = [v] ∧ Given H v o ls ∧ optL H Q (trimL ls)
section
variable {K : PySem.W.Frag} {H : Hp} {σ : L2.St} {te : TE}
/-- atom[0] != '=' or atom[1] != atom[2] -/
theorem et_keep {i : Nat} {l : Lit} {y : V} (hs : σ[i]? = some (some y)) (hy : WV H y l.2) (hm : Lg l) :
    EvT (tOr (tTest (tOp rNe (tOp (rIxT K) (tVar i) (tC (.int 0))) (tC (.str "=")))) (tTest (tOp (rNeD K) (tOp (rIxT K) (tVar i) (tC (.int 1))) (tOp (rIxT K) (tVar i) (tC (.int 2)))))) σ H (!same l.2) := by
  obtain ⟨s, as, ea, hse⟩ := hm.at_
  have hy2 := hy
  rw [ea] at hy2
  obtain ⟨r, zs, rfl, hr1, hzs⟩ := hy2.tup
  have e0 : (!same l.2) = (!decide (s = ("=" : Str)) || !same2 as) := by
    rw [ea]
    show (!(decide (s = ("=" : Str)) && same2 as)) = _
    rw [Bool.not_and]
  rw [e0]
  refine et_or (a := !decide (s = ("=" : Str))) (et_is (et_test (ev_op (ev_op (z := .str s) (ev_var hs) ev_c (rv_ixT (st_of hr1) (atI_nat (j := 0) rfl))) ev_c (rv_ne rfl))) ?_) fun hq => ?_
  · by_cases q : s = ("=" : Str)
    · rw [decide_eq_true q, decide_eq_true (by rw [q])]
    · rw [decide_eq_false q, decide_eq_false (fun z => q (V.str.inj z))]
  · have hq' : s = ("=" : Str) := by
      have : decide (s = ("=" : Str)) = true := by
        cases h : decide (s = ("=" : Str)) with
        | true => rfl
        | false => rw [h] at hq; cases hq
      exact of_decide_eq_true this
    obtain ⟨x1, x2, rfl⟩ := hse hq'
    obtain ⟨v1, u1, rfl, w1, v2, u2, rfl, w2, hu3⟩ := hzs
    have hwd : (W.n s [x1, x2]).o.wd = true := by rw [← ea]; exact hm.wd
    have hwd' : (SS.contains s && (x1.o.wd && (x2.o.wd && true))) = true := hwd
    simp only [Bool.and_eq_true] at hwd'
    have hdp : (W.n s [x1, x2]).dp ≤ 8 := by rw [← ea]; exact hm.dp
    have hdp' : max x1.dp (max x2.dp 0) + 1 ≤ 8 := hdp
    have o1 := W.odp x1
    have o2 := W.odp x2
    refine et_is (et_test (ev_op (ev_op (z := v1) (ev_var hs) ev_c (rv_ixT (st_of hr1) (atI_nat (j := 1) rfl))) (ev_op (z := v2) (ev_var hs) ev_c (rv_ixT (st_of hr1) (atI_nat (j := 2) rfl))) (rv_neO w1 w2 (wd_ed _ hwd'.2.1) (wd_ed _ hwd'.2.2.1) (by omega) (by omega)))) ?_
    rw [eqv_W]
    rfl
theorem s_asgLP {D : Ends} {i : Nat} {P : List V → Hp → Prop} (h : EvLP te σ H P) (k : ∀ p xs H1, H p = none → Ex H H1 → H1 p = some (.lst xs) → P xs H1 → D.nx (σ.set i (some (.ref p))) H1) : tAsg te (gName i) D σ H := h H (Ex.refl H) _ k
theorem s_retLP {D : Ends} {P : List V → Hp → Prop} (h : EvLP te σ H P) (k : ∀ p xs H1, H p = none → Ex H H1 → H1 p = some (.lst xs) → P xs H1 → D.rt (.ref p) H1) : tRet te D σ H := h H (Ex.refl H) _ k
theorem q_asgLP {D : Ends} {tz : TS} {i : Nat} {P : List V → Hp → Prop} (h : EvLP te σ H P) (k : ∀ p xs H1, H p = none → Ex H H1 → H1 p = some (.lst xs) → P xs H1 → tz D (σ.set i (some (.ref p))) H1) : tSeq (tAsg te (gName i)) tz D σ H := h H (Ex.refl H) _ k
end
section
variable {P : Program} {w : World} {K : PySem.W.Frag} {mg : Str → Option Value} {base : Heap}
/-- unlike(frozen(literals)) -/
theorem elp_once {σ : L2.St} {H : Hp} {v : V} {o : O} {ls : List Lit} (hs : σ[0]? = some (some v)) (g : Given H v o ls) : EvLP (tCall spOn [] E0 (tCons (tCall spFz [] E0 (tCons (tVar 0) tNil)) tNil)) σ H (fun xs G => OVs G xs ((dd [] ls).map litO)) := fun H1 e Q q =>
  ⟨v, hs, v, o, rfl, g.ov.ext e, g.sz, g.nd, fun u G eG ovu => by
    rw [g.st] at ovu
    obtain ⟨a, us, rfl, ha, hus⟩ := ovu
    refine ⟨false, a, us, ls.map litO, rfl, ha, hus, lits_pls g.lg, by rw [List.length_map]; have := g.len; omega, fun p ys G2 hp e2 h2 hy => q p ys G2 (fresh_back eG hp) (eG.trans e2) h2 ?_⟩
    rw [← show eoO [] (ls.map litO) = (dd [] ls).map litO from eoO_map lit_eqv ls []]
    exact hy⟩
theorem ok_trimmed (T : T17 P w K mg base) : Ok P w K mg base CX0 "trimmed" ["literals"] 4 spTr := by
  obtain ⟨fU, dU, GU, bU, kU, mU⟩ := (ok_unlike T).ex
  obtain ⟨fF, dF, GF, bF, kF, mF⟩ := (ok_frozen T).ex
  obtain ⟨fA, dA, GA, bA, kA, mA⟩ := (ok_always T).ex
  refine T.ok 7 rfl sc_tr (fun vs H Q E h => ?_) (fun kV doc pm an cdv ct us hl => match us, hl with | [_], _ => rfl) (fun f cdv A outer s H vs Q E hr h => ?_)
  · obtain ⟨v, o, ls, rfl, _⟩ := h
    rfl
  · obtain ⟨v, o, ls, rfl, g, k⟩ := h
    refine ⟨_, pss_cons (ps_set (i := 1) sc_tr.nd rfl (Or.inl rfl) (pe_call GU (hr.mono (by decide)) (by rfl) mU kU bU .nil pass0 (pa_cons (pe_call GF (hr.mono (by decide)) (by rfl) mF kF bF .nil pass0 (pa_cons (pv 0) pa_nil)) pa_nil)))
      (pss_cons (ps_if (pt_val (pe_call GA (hr.mono (by decide)) (by rfl) mA kA bA .nil pass0 (pa_cons (pv 1) pa_nil))) (pss_one (ps_ret pe_non)) pss_nil)
      (pss_one (ps_ret (pe_lc (own := [("is_so", 2), ("atom", 3)]) (g := gPair K 2 3) (tt := tOr (tTest (tOp rNe (tOp (rIxT K) (tVar 3) (tC (.int 0))) (tC (.str "=")))) (tTest (tOp (rNeD K) (tOp (rIxT K) (tVar 3) (tC (.int 1))) (tOp (rIxT K) (tVar 3) (tC (.int 2)))))) (te := tTup (tCons (tVar 2) (tCons (tVar 3) tNil))) rfl sc_tr.nd (pi_list (pv 1)) (blkOk_by (N := nTr) (sc := defScope s_trimmed) (by decide +kernel))
        (fun _ _ _ _ _ => pg_tup rfl (pgs_cons (pg_name (i := 2) sc_tr.nd rfl (Or.inl rfl)) (pgs_cons (pg_name (i := 3) sc_tr.nd rfl (Or.inl rfl)) pgs_nil)))
        (fun _ _ _ _ _ => pts_one (PW.pt (pw_or (pt_cmpR op_ne (pe_ix ix_tup (pv 3) pe_int (fun _ _ => rfl)) pe_str (nomark _)) (pw_or1 (pt_cmpR (op_neD hr.units) (pe_ix ix_tup (pv 3) pe_int (fun _ _ => rfl)) (pe_ix ix_tup (pv 3) pe_int (fun _ _ => rfl)) (nomark _))))))
        (fun _ _ _ _ _ => pe_tup (pa_cons (pv 2) (pa_cons (pv 3) pa_nil))))))), ?_⟩
    refine q_asgLP (elp_once rfl g) fun p us G hp eG hpG hus => ?_
    have hlg := dd_lgs g.lg
    have hlen : (dd [] ls).length ≤ 40 := by have h1 : (dd [] ls).length ≤ 0 + ls.length := dd_len ls []; have h2 := g.len; omega
    unfold trimL at k
    refine q_when (b := alw (dd [] ls)) (et_B (ev_call (ea_cons (ev_var rfl) ea_nil) fun H1 e Q q E => ⟨p, us, dd [] ls, rfl, e _ _ hpG, hus.ext e, hlg, hlen, q⟩)) (fun hb J eJ => ?_) fun hb J eJ => ?_
    · rw [if_pos hb] at k
      exact s_ret ev_c fun H4 e4 => k H4 ((eG.trans eJ).trans e4)
    · rw [if_neg (by rw [hb]; decide)] at k
      refine s_retLP (lcO (fun l => !same l.2) litO (ev_var rfl) (eJ _ _ hpG) (hus.ext eJ) (by omega) (fun _ _ => rfl) (fun l y G2 hl e2 hy => et_keep rfl hy (hlg l hl)) (fun l y G2 hl e2 hy _ => eo_tup (eao_cons (eo_var rfl rfl) (eao_cons (eo_var rfl hy) eao_nil)) (by show 2 ≤ 1000; decide)) fun l _ => ⟨lit_noL l, lit_nod l⟩) fun q xs H1 hq e1 h1 hx => ?_
      exact k q xs H1 (fresh_back (eG.trans eJ) hq) ((eG.trans eJ).trans e1) h1 hx
end
end K17

set_option Elab.async false
set_option linter.all false
set_option maxRecDepth 100000
set_option maxHeartbeats 4000000
/-! told_clause. -/
namespace K17
open PySem PySem.Spec PyProof.Rows L2 Evl
theorem putKn {kvs : List (Key × V)} {k : Key} {v : V} (h : k ∉ kvs.map (·.1)) : putK kvs k v = kvs ++ [(k, v)] := by
  unfold putK
  have q : (kvs.any fun kv => decide (kv.1 = k)) = false := by
    rw [List.any_eq_false]
    intro p hp e
    exact h (List.mem_map.mpr ⟨p, hp, of_decide_eq_true e⟩)
  rw [q]
  rfl
def xn (i : Nat) : Str := ("X" : Str) ++ Str.ofString (toString ((i : Int) + 1))
theorem xn_len : ∀ i < 20, (xn i).length ≤ 1000 := by decide +kernel
def called : Nat → List Str → List (Str × W)
  | _, [] => []
  | n, v :: vs => (v, .v (xn n)) :: called (n + 1) vs
theorem called_snoc : ∀ (vs : List Str) (v : Str) (n : Nat), called n (vs ++ [v]) = called n vs ++ [(v, .v (xn (n + vs.length)))]
  | [], v, n => rfl
  | x :: xs, v, n => by
    show (x, W.v (xn n)) :: called (n + 1) (xs ++ [v]) = _
    rw [called_snoc xs v (n + 1), List.length_cons, show n + 1 + xs.length = n + (xs.length + 1) by omega]
    rfl
theorem called_keys : ∀ (vs : List Str) (n : Nat), (called n vs).map (·.1) = vs
  | [], _ => rfl
  | x :: xs, n => congrArg (x :: ·) (called_keys xs (n + 1))
theorem called_len (vs : List Str) (n : Nat) : (called n vs).length = vs.length := by rw [← List.length_map (f := (·.1)), called_keys]
def kvC (ps : List (Str × W)) : List (Key × V) := ps.map fun p => (.inr p.1, match p.2 with | .v s => .str s | .n _ _ => .non)
theorem called_ov (H : Hp) : ∀ (vs : List Str) (n : Nat), OVs H ((kvC (called n vs)).map (·.2)) (((called n vs).map keyW).map (·.2))
  | [], _ => .nil
  | x :: xs, n => .cons rfl (called_ov H xs (n + 1))
theorem eo_nodup' : ∀ (xs acc : List Str), acc.Nodup → (eo acc xs).Nodup
  | [], acc, h => h
  | x :: xs, acc, h => by
    show (eo (if acc.contains x then acc else acc ++ [x]) xs).Nodup
    refine eo_nodup' xs _ ?_
    by_cases c : acc.contains x = true
    · rw [if_pos c]
      exact h
    · rw [if_neg c]
      refine List.nodup_append.mpr ⟨h, List.nodup_cons.mpr ⟨by simp, List.nodup_nil⟩, fun a ha b hb => ?_⟩
      rw [List.mem_singleton.mp hb]
      rintro rfl
      exact c (List.contains_iff_mem.mpr ha)
theorem lvars_nodup (ls : List Lit) : (lvars ls).Nodup := by
  unfold lvars
  rw [W.varsL_eo]
  exact eo_nodup' _ _ List.nodup_nil
theorem nd_map {α β : Type} {f : α → β} (hf : ∀ a b, f a = f b → a = b) : ∀ {l : List α}, l.Nodup → (l.map f).Nodup
  | [], _ => List.nodup_nil
  | a :: l, h => by
    obtain ⟨h1, h2⟩ := List.nodup_cons.mp h
    refine List.nodup_cons.mpr ⟨fun z => ?_, nd_map hf h2⟩
    obtain ⟨b, hb, e⟩ := List.mem_map.mp z
    rw [hf _ _ e] at hb
    exact h1 hb
theorem kvC_keys (ps : List (Str × W)) : (kvC ps).map (·.1) = ps.map fun p => (Sum.inr p.1 : Key) := by
  unfold kvC
  rw [List.map_map]
  rfl
theorem subV_called {H : Hp} {d : Addr} {vs : List Str} {n : Nat} (h : H d = some (.dK (kvC (called n vs)))) (nd : vs.Nodup) : SubV H d (called n vs) := by
  refine ⟨⟨_, h, ?_, called_ov H vs n⟩, ?_⟩
  · rw [kvC_keys, List.map_map]
    rfl
  · rw [List.map_map]
    have : ((called n vs).map ((fun x => x.1) ∘ keyW)) = vs.map fun s => (Sum.inr s : Key) := by
      rw [show ((fun x : Key × O => x.1) ∘ keyW) = (fun s : Str => (Sum.inr s : Key)) ∘ (fun p : Str × W => p.1) from rfl, ← List.map_map, called_keys]
    rw [this]
    exact nd_map (fun a b e => Sum.inr.inj e) nd
abbrev subL (ps : List (Str × W)) (l : Lit) : Lit := (l.1, l.2.sub (lk ps))
def toldL (ls : List Lit) : List Lit := (dd [] ls).map (subL (called 0 (lvars (dd [] ls))))
abbrev nTd : List Str := ["literals", "told", "called", "at", "variable", "is_so", "atom"]
theorem sc_td : FnScope nTd ["literals"] (defScope s_told_clause) := ⟨rfl, rfl, rfl, by decide +kernel, rfl, by decide +kernel, by decide +kernel⟩
def spTd : Sp := fun vs H Q _ => ∃ v o ls, vs = [v] ∧ Given H v o ls ∧ (lvars (dd [] ls)).length ≤ 19 ∧ ∀ p us G, H p = none → Ex H G → G p = some (.lst us) → OVs G us ((toldL ls).map litO) → Q (.ref p) G
section
variable {P : Program} {w : World} {K : PySem.W.Frag} {mg : Str → Option Value} {base : Heap}
abbrev tCld (K : PySem.W.Frag) (tl : TE) : TE := tDc (iEnum K (tCons tl tNil)) (gPair K 3 4) tYes (tVar 4) (tFmt "X" (tOp (rI0 fun i j => .int (i + j)) (tVar 3) (tC (.int 1)))) [3, 4]
theorem ed_called {σ : L2.St} {H : Hp} {tl : TE} {vs : List Str} (h : EvL tl σ H (sVs vs)) (nd : vs.Nodup) (hl : vs.length ≤ 19) (hw : ∀ x y, wipe (((wipe σ [3, 4]).set 3 (some x)).set 4 (some y)) [3, 4] = wipe σ [3, 4])
    (h3 : ∀ x y, (((wipe σ [3, 4]).set 3 (some x)).set 4 (some y))[3]? = some (some x)) (h4 : ∀ x y, (((wipe σ [3, 4]).set 3 (some x)).set 4 (some y))[4]? = some (some y)) {Q : VK} {H1 : Hp} (e : Ex H H1) (q : ∀ d G, H1 d = none → Ex H1 G → SubV G d (called 0 vs) → Q (.ref d) G) : tCld K tl σ H1 Q :=
  h H1 e _ fun p H2 hp e2 h2 => ⟨p, _, rfl, sq_of h2, fun Dl hD => by
    refine dc_it (walk_enum (K := K) (a := p) (xs := sVs vs)) (fun i G => Ex H2 G ∧ G Dl = some (.dK (kvC (called 0 (vs.take i))))) ⟨Ex.new hD, upd_same⟩ (fun i G _ p => sq_of (p.1 _ _ h2)) (fun i x G G' hi p y => ?_) (fun G p => ?_)
    · obtain ⟨T, x1, z, rfl, hT, rfl, e1, e2'⟩ := y
      obtain rfl := Option.some.inj e1
      obtain ⟨s, hs, rfl⟩ := sVs_get e2'
      have hi' := (List.getElem?_eq_some_iff.mp hs).1
      refine ⟨T, _, rfl, SqT.of upd_same, rfl, _, _, rfl, _, _, rfl, rfl, hw _ _, ?_⟩
      unfold tYes
      dsimp only
      rw [if_pos rfl]
      refine ⟨_, h4 _ _, _, h3 _ _, _, _, rfl, rfl, _, rfl, by omega, xn_len i (by omega), kvC (called 0 (vs.take i)), Sum.inr s, rfl, ?_, ?_, Ex.mut (p.1.trans (Ex.new hT)) hD, ?_⟩
      · rw [upd_ne (ne_of_none p.2 hT)]
        exact p.2
      · unfold kvC
        rw [List.length_map, called_len, List.length_take]
        exact sz_lt (by omega)
      · rw [upd_same, take_snoc hs, called_snoc, putKn]
        · unfold kvC
          rw [List.map_append, List.length_take, Nat.min_eq_left (by omega), Nat.zero_add]
          rfl
        · rw [kvC_keys]
          intro hc
          obtain ⟨pr, hpr, er⟩ := List.mem_map.mp hc
          have h5 : s ∈ vs.take i := by
            rw [← called_keys (vs.take i) 0]
            exact List.mem_map.mpr ⟨pr, hpr, Sum.inr.inj er⟩
          have h6 : (vs.take (i + 1)).Nodup := nd.sublist (List.take_sublist _ _)
          rw [take_snoc hs] at h6
          exact (List.nodup_append.mp h6).2.2 s h5 s (by simp) rfl
    · obtain ⟨p1, p2⟩ := p
      rw [sVs_len, List.take_length] at p2
      exact q Dl G (fresh_back e2 hD) (e2.trans p1) (subV_called p2 nd)⟩
theorem q_called {σ : L2.St} {H : Hp} {tl : TE} {vs : List Str} {D : Ends} {tz : TS} (h : EvL tl σ H (sVs vs)) (nd : vs.Nodup) (hl : vs.length ≤ 19) (hw : ∀ x y, wipe (((wipe σ [3, 4]).set 3 (some x)).set 4 (some y)) [3, 4] = wipe σ [3, 4])
    (h3 : ∀ x y, (((wipe σ [3, 4]).set 3 (some x)).set 4 (some y))[3]? = some (some x)) (h4 : ∀ x y, (((wipe σ [3, 4]).set 3 (some x)).set 4 (some y))[4]? = some (some y)) (q : ∀ d G, H d = none → Ex H G → SubV G d (called 0 vs) → tz D (σ.set 2 (some (.ref d))) G) : tSeq (tAsg (tCld K tl) (gName 2)) tz D σ H :=
  show tCld K tl σ H (fun x H1 => tz D (σ.set 2 (some x)) H1) from ed_called h nd hl hw h3 h4 (Ex.refl _) fun d G hd e s => q d G hd e s
theorem ok_told (T : T17 P w K mg base) : Ok P w K mg base CX0 "told_clause" ["literals"] 24 spTd := by
  obtain ⟨fU, dU, GU, bU, kU, mU⟩ := (ok_unlike T).ex
  obtain ⟨fF, dF, GF, bF, kF, mF⟩ := (ok_frozen T).ex
  obtain ⟨fC, dC, GC, bC, kC, mC⟩ := (ok_clause_variables T).ex
  obtain ⟨fE, dE, GE, bE, kE, mE⟩ := (ok_exchanged T 20).ex
  refine T.ok 8 rfl sc_td (fun vs H Q E h => ?_) (fun kV doc pm an cdv ct us hl => match us, hl with | [_], _ => rfl) (fun f cdv A outer s H vs Q E hr h => ?_)
  · obtain ⟨v, o, ls, rfl, _⟩ := h
    rfl
  · obtain ⟨v, o, ls, rfl, g, hv, k⟩ := h
    refine ⟨_, pss_cons (ps_set (i := 1) sc_td.nd rfl (Or.inl rfl) (pe_call GU (hr.mono (by decide)) (by rfl) mU kU bU .nil pass0 (pa_cons (pe_call GF (hr.mono (by decide)) (by rfl) mF kF bF .nil pass0 (pa_cons (pv 0) pa_nil)) pa_nil)))
      (pss_cons (ps_set (i := 2) sc_td.nd rfl (Or.inr rfl) (pe_dc (own := [("at", 3), ("variable", 4)]) (g := gPair K 3 4) (tt := tYes) (tk := tVar 4) (tv := tFmt "X" (tOp (rI0 fun i j => .int (i + j)) (tVar 3) (tC (.int 1)))) rfl sc_td.nd (pi_enum (by rfl) T.enumerate (pa_cons (pe_call GC (hr.mono (by decide)) (by rfl) mC kC bC .nil pass0 (pa_cons (pv 1) pa_nil)) pa_nil)) (blkOk_by (N := nTd) (sc := defScope s_told_clause) (by decide +kernel))
        (fun _ _ _ _ _ => pg_tup rfl (pgs_cons (pg_name (i := 3) sc_td.nd rfl (Or.inl rfl)) (pgs_cons (pg_name (i := 4) sc_td.nd rfl (Or.inl rfl)) pgs_nil))) (fun _ _ _ _ _ => pts_nil) (fun _ _ _ _ _ => pv 4) (fun _ _ _ _ _ => pe_fmt (pe_op op_add (pv 3) pe_int) (by decide) rfl)))
      (pss_one (ps_ret (pe_lc (own := [("is_so", 5), ("atom", 6)]) (g := gPair K 5 6) (tt := tYes) (te := tTup (tCons (tVar 5) (tCons (tCall (spEx 20) [] E0 (tCons (tVar 6) (tCons (tVar 2) tNil))) tNil))) rfl sc_td.nd (pi_list (pv 1)) (blkOk_by (N := nTd) (sc := defScope s_told_clause) (by decide +kernel))
        (fun _ _ _ _ _ => pg_tup rfl (pgs_cons (pg_name (i := 5) sc_td.nd rfl (Or.inl rfl)) (pgs_cons (pg_name (i := 6) sc_td.nd rfl (Or.inl rfl)) pgs_nil)))
        (fun _ _ _ _ _ => pts_nil)
        (fun _ _ _ _ _ => pe_tup (pa_cons (pv 5) (pa_cons (pe_call GE (hr.mono (by decide)) (by rfl) mE kE bE .nil pass0 (pa_cons (pv 6) (pa_cons (pv 2) pa_nil))) pa_nil))))))), ?_⟩
    refine q_asgLP (elp_once rfl g) fun p us G hp eG hpG hus => ?_
    have hlg := dd_lgs g.lg
    have hlen : (dd [] ls).length ≤ 40 := by have h1 : (dd [] ls).length ≤ 0 + ls.length := dd_len ls []; have h2 := g.len; omega
    refine q_called (vs := lvars (dd [] ls)) (fun H1 e Q q => ⟨.ref p, rfl, p, us, dd [] ls, rfl, e _ _ hpG, hus.ext e, hlg, hlen, q⟩) (lvars_nodup _) hv (fun _ _ => rfl) (fun _ _ => rfl) (fun _ _ => rfl) fun d J hd eJ hsv => ?_
    refine s_retLP (lcO (fun _ => true) (fun l => litO (subL (called 0 (lvars (dd [] ls))) l)) (ev_var rfl) (eJ _ _ hpG) (hus.ext eJ) (by omega) (fun _ _ => rfl) (fun l y G2 hl e2 hy => et_yes) (fun l y G2 hl e2 hy _ => eo_tup (eao_cons (eo_var rfl rfl) (eao_cons (fun H1 e Q q => ⟨y, rfl, .ref d, rfl, y, d, l.2, _, rfl, hy.ext e, (hsv.ext e2).ext e, by have := (hlg l hl).dp; omega, by decide, by have := (hlg l hl).sz; omega, fun r G3 e3 h3 => q r G3 e3 h3⟩) eao_nil)) (by show 2 ≤ 1000; decide)) fun l _ => ⟨lit_noL _, lit_nod _⟩) fun q xs H1 hq e1 h1 hx => ?_
    refine k q xs H1 (fresh_back (eG.trans eJ) hq) ((eG.trans eJ).trans e1) h1 ?_
    unfold toldL
    rw [List.map_map]
    rw [List.filter_eq_self.mpr (fun _ _ => rfl)] at hx
    exact hx
end
end K17

set_option Elab.async false
set_option linter.all false
set_option maxRecDepth 100000
set_option maxHeartbeats 4000000
/-! _law_c_stand, _law_c_variables, _law_c_put. -/
namespace K17
open PySem PySem.Spec PyProof.Rows L2 Evl
section
variable {K : PySem.W.Frag} {H G : Hp} {σ : L2.St} {te tl ta tb : TE} {tt : TT} {v : V} {vs : List Nat}
theorem el_if2 {xs : List V} {b : Bool} (h : EvT tt σ H b) (h1 : b = true → EvL ta σ H xs) (h2 : b = false → EvL tb σ H xs) : EvL (tIf tt ta tb) σ H xs := fun H1 e Q q =>
  h H1 e _ fun H2 e2 => by
    cases b with
    | true => exact h1 rfl H2 (e.trans e2) _ fun p H3 hp e3 h3 => q p H3 (fresh_back e2 hp) (e2.trans e3) h3
    | false => exact h2 rfl H2 (e.trans e2) _ fun p H3 hp e3 h3 => q p H3 (fresh_back e2 hp) (e2.trans e3) h3
theorem W.allvs_len : ∀ as : List W, (W.allvs as).length ≤ W.szs as := by
  have h1 : ∀ z : W, z.allv.length ≤ z.sz := by
    intro z
    induction z using W.rec (motive_2 := fun as => (W.allvs as).length ≤ W.szs as) with
    | v s => exact Nat.le_refl _
    | n s as ih => exact Nat.le_trans ih (by show W.szs as ≤ W.szs as + 2; omega)
    | nil => exact Nat.zero_le _
    | cons z zs h1 h2 =>
      show (z.allv ++ W.allvs zs).length ≤ z.sz + W.szs zs
      rw [List.length_append]
      omega
  intro as
  induction as with
  | nil => exact Nat.zero_le _
  | cons z zs ih =>
    have := h1 z
    show (z.allv ++ W.allvs zs).length ≤ z.sz + W.szs zs
    rw [List.length_append]
    omega
theorem W.allvs_app : ∀ (as bs : List W), W.allvs (as ++ bs) = W.allvs as ++ W.allvs bs
  | [], bs => rfl
  | a :: as, bs => by
    show a.allv ++ W.allvs (as ++ bs) = (a.allv ++ W.allvs as) ++ W.allvs bs
    rw [W.allvs_app as bs, List.append_assoc]
theorem W.allvs_one (z : W) : W.allvs [z] = z.allv := by show z.allv ++ [] = _; rw [List.append_nil]
end
abbrev nSt : List Str := ["_law_thing", "_law_found", "_law_part"]
theorem sc_st : FnScope nSt ["_law_thing"] (defScope s__law_c_stand) := ⟨rfl, rfl, rfl, by decide +kernel, rfl, by decide +kernel, by decide +kernel⟩
def spSt (m : Nat) : Sp := fun vs H Q _ => ∃ v s as, vs = [v] ∧ WV H v (.n s as) ∧ (W.n s as).dp < m ∧ (W.n s as).sz ≤ 9000 ∧ ∀ p G, H p = none → Ex H G → G p = some (.lst (sVs (W.allvs as))) → Q (.ref p) G
abbrev nCva : List Str := ["_law_literals", "_law_found", "_law_is_so", "_law_atom"]
theorem sc_cva : FnScope nCva ["_law_literals"] (defScope s__law_c_variables) := ⟨rfl, rfl, rfl, by decide +kernel, rfl, by decide +kernel, by decide +kernel⟩
section
variable {P : Program} {w : World} {K : PySem.W.Frag} {mg : Str → Option Value} {base : Heap}
theorem ok_stand (T : T17 P w K mg base) : ∀ m, Ok P w K mg base CX0 "_law_c_stand" ["_law_thing"] (m + 1) (spSt m)
  | 0 => T.ok 25 rfl sc_st (fun vs H Q E h => by obtain ⟨v, s, as, rfl, _⟩ := h; rfl) (fun kV doc pm an cdv ct us hl => match us, hl with | [_], _ => rfl) (fun f cdv A outer s H vs Q E hr h => by obtain ⟨v, s, as, _, _, h0, _⟩ := h; exact absurd h0 (Nat.not_lt_zero _))
  | m + 1 => by
    obtain ⟨fR, dR, GR, bR, kR, mR⟩ := (ok_stand T m).ex
    refine T.ok 25 rfl sc_st (fun vs H Q E h => ?_) (fun kV doc pm an cdv ct us hl => match us, hl with | [_], _ => rfl) (fun f cdv A outer s H vs Q E hr h => ?_)
    · obtain ⟨v, s, as, rfl, _⟩ := h
      rfl
    · obtain ⟨v, sn, as, rfl, hw, hz, hs, k⟩ := h
      refine ⟨_, pss_cons (ps_set (i := 1) sc_st.nd rfl (Or.inl rfl) (pe_lst pa_nil))
        (pss_cons (ps_for PassesOwn.never rfl (pi_tup (pe_slice sl_tup (pv 0) (po_some pe_int) po_none)) (pg_name (i := 2) sc_st.nd rfl (Or.inl rfl))
          (pss_one (ps_expr (pe_bm PySem.F.plainAttrs_list PySem.F.slot_list_extend PySem.F.type_list_extend mt_extend (pv 1) (pa_cons
            (pe_ifExp (pt_val (pe_isiB T.isi T.str PyProof.Rows.boot_str (pv 2))) (pe_lst (pa_cons (pv 2) pa_nil)) (pe_call GR hr (by rfl) mR kR bR .nil pass0 (pa_cons (pv 2) pa_nil))) pa_nil)))))
        (pss_one (ps_ret (pv 1)))), ?_⟩
      obtain ⟨r, us, rfl, hr1, hu⟩ := hw.tup
      have hul := hu.length
      have hdp : W.dps as < m := by have : (W.n sn as).dp = W.dps as + 1 := rfl; omega
      have hsz : W.szs as + 2 ≤ 9000 := hs
      refine q_asgL (el_lst ea_nil (by show 0 ≤ 100000; decide)) fun p H1 hp0 e1 h1 => ?_
      refine q_forNT (eu_tail (ev_var rfl) (st_of (e1 _ _ hr1))) (fun c i σ' H' => Ex H H' ∧ H' c = some (.tup us) ∧ (∃ a : Option V, σ' = [some (.ref r), some (.ref p), a]) ∧ H' p = some (.lst (sVs (W.allvs (as.take i))))) ?_ ?_ ?_ ?_
      · intro c H3 hc e3 h3
        exact ⟨e1.trans e3, h3, ⟨none, rfl⟩, e3 _ _ h1⟩
      · rintro c i σ' H' hi ⟨_, hc, _⟩
        exact st_of hc
      · rintro c i x σ' H' hx ⟨e3, hc, ⟨a, rfl⟩, h3⟩
        obtain ⟨y, hy, hwy⟩ := (hu.ext e3).getv hx
        have h1' := W.lt_dp hy
        have h2' := W.lt_sz hy
        have hcp : c ≠ p := ne_of hc h3 (by intro z; cases z)
        have htk := W.allvs_len (as.take i)
        have htk2 := szs_take as i
        have hy1 := W.allvs_len [y]
        have hy2 : W.szs [y] = y.sz := by show y.sz + 0 = y.sz; omega
        rw [W.allvs_one] at hy1
        refine s_extL (xs := sVs (W.allvs (as.take i))) (zs := sVs y.allv) h3 (ev_var rfl) ?_ (by unfold sVs; rw [List.length_map, List.length_map]; omega) fun H4 e4 => ?_
        · cases y with
          | v sv =>
            obtain rfl : x = .str sv := hwy
            exact el_if2 (b := true) (et_B (ev_isStr (o := .str sv) (ev_var rfl) rfl)) (fun _ => el_lst (ea_cons (ev_var rfl) ea_nil) (by show 1 ≤ 100000; decide)) fun z => nomatch z
          | n s2 bs =>
            exact el_if2 (b := false) (et_B (ev_isStr (o := (W.n s2 bs).o) (ev_var rfl) hwy)) (fun z => nomatch z) fun _ H5 e5 Q5 q5 => ⟨x, rfl, x, s2, bs, rfl, hwy.ext e5, by omega, by omega, q5⟩
        · refine ⟨Ex.mut (e3.trans e4) hp0, ?_, ⟨_, rfl⟩, ?_⟩
          · rw [upd_ne hcp]
            exact e4 _ _ hc
          · rw [upd_same, take_snoc hy, W.allvs_app, W.allvs_one]
            unfold sVs
            rw [List.map_append]
      · rintro c σ' H' ⟨e3, _, ⟨a, rfl⟩, h3⟩
        rw [hul, List.take_length] at h3
        exact s_ret (ev_var rfl) fun H4 e4 => k p H4 hp0 (e3.trans e4) (e4 _ _ h3)
theorem atm_allv {l : Lit} (h : Lg l) : ∃ s as, l.2 = .n s as ∧ l.2.allv = W.allvs as := by
  obtain ⟨s, as, e, _⟩ := h.at_
  exact ⟨s, as, e, by rw [e]; rfl⟩
theorem lvars_all (ls : List Lit) : lvars ls = eo [] (W.allvs (ls.map (·.2))) := W.varsL_eo _ _
theorem allvs_len {ls : List Lit} (h : Lgs ls) (hl : ls.length ≤ 40) : (W.allvs (ls.map (·.2))).length ≤ 8000 := by
  have h1 := W.allvs_len (ls.map (·.2))
  have h2 := szs_all (m := 200) (zs := ls.map (·.2)) fun z hz => by obtain ⟨l, hl, rfl⟩ := List.mem_map.mp hz; exact (h l hl).sz
  rw [List.length_map] at h2
  have h3 : 200 * ls.length ≤ 200 * 40 := Nat.mul_le_mul_left _ hl
  omega
theorem ok_cvars (T : T17 P w K mg base) : Ok P w K mg base CX0 "_law_c_variables" ["_law_literals"] 21 spCv := by
  obtain ⟨fR, dR, GR, bR, kR, mR⟩ := (ok_stand T 19).ex
  obtain ⟨fO, dO, GO, bO, kO, mO⟩ := (ok_each T).ex
  refine T.ok 26 rfl sc_cva (fun vs H Q E h => ?_) (fun kV doc pm an cdv ct us hl => match us, hl with | [_], _ => rfl) (fun f cdv A outer s H vs Q E hr h => ?_)
  · obtain ⟨a, us, ls, rfl, _⟩ := h
    rfl
  · obtain ⟨a, us, ls, rfl, ha, hov, hlg, hlen, k⟩ := h
    refine ⟨_, pss_cons (ps_set (i := 1) sc_cva.nd rfl (Or.inl rfl) (pe_lst pa_nil))
        (pss_cons (ps_for PassesOwn.never rfl (pi_list (pv 0)) (pg_tup rfl (pgs_cons (pg_name (i := 2) sc_cva.nd rfl (Or.inl rfl)) (pgs_cons (pg_name (i := 3) sc_cva.nd rfl (Or.inl rfl)) pgs_nil)))
          (pss_one (ps_expr (pe_bm PySem.F.plainAttrs_list PySem.F.slot_list_extend PySem.F.type_list_extend mt_extend (pv 1) (pa_cons (pe_call GR hr (by rfl) mR kR bR .nil pass0 (pa_cons (pv 3) pa_nil)) pa_nil)))))
        (pss_one (ps_ret (pe_call GO (hr.mono (by decide)) (by rfl) mO kO bO .nil pass0 (pa_cons (pv 1) pa_nil))))), ?_⟩
    have hul : us.length = ls.length := by rw [hov.length, List.length_map]
    refine q_asgL (el_lst ea_nil (by show 0 ≤ 100000; decide)) fun p H1 hp0 e1 h1 => ?_
    refine q_forL (xs := us) (ev_var rfl) (sq_of (e1 _ _ ha)) (fun i σ' H' => Ex H H' ∧ (∃ b c : Option V, σ' = [some (.ref a), some (.ref p), b, c]) ∧ H' p = some (.lst (sVs (W.allvs ((ls.take i).map (·.2)))))) ?_ ?_ ?_ ?_
    · intro H2 e2
      exact ⟨e1.trans e2, ⟨none, none, rfl⟩, e2 _ _ h1⟩
    · rintro i σ' H' hi ⟨e, _⟩
      exact sq_of (e _ _ ha)
    · rintro i x σ' H' hx ⟨e3, ⟨b, c, rfl⟩, h3⟩
      obtain ⟨l, t, y, hl', rfl, ht0, hy⟩ := lit_at (hov.ext e3) hx
      have hm := hlg l (List.mem_of_getElem? hl')
      obtain ⟨sn, as, ea, eb⟩ := atm_allv hm
      have hd := hm.dp
      have hs := hm.sz
      rw [ea] at hd hs hy
      refine ⟨t, _, rfl, st_of ht0, rfl, _, _, rfl, _, _, rfl, rfl, ?_⟩
      have hle := allvs_len (lgs_take hlg i) (by have : (ls.take i).length ≤ ls.length := List.length_take_le' i ls; omega)
      have hle2 := W.allvs_len as
      have hsz : W.szs as + 2 ≤ 200 := hs
      refine s_extL (xs := sVs (W.allvs ((ls.take i).map (·.2)))) (zs := sVs (W.allvs as)) h3 (ev_var rfl) (fun H4 e4 Q4 q4 => ⟨y, rfl, y, sn, as, rfl, hy.ext e4, by omega, by omega, q4⟩) (by unfold sVs; rw [List.length_map, List.length_map]; omega) fun H4 e4 => ?_
      refine ⟨Ex.mut (e3.trans e4) hp0, ⟨_, _, rfl⟩, ?_⟩
      rw [upd_same, take_snoc hl', List.map_append, W.allvs_app]
      show _ = some (HO.lst (sVs (W.allvs (List.map (·.2) (ls.take i)) ++ W.allvs [l.2])))
      rw [W.allvs_one, eb]
      unfold sVs
      rw [List.map_append]
    · rintro σ' H' ⟨e3, ⟨b, c, rfl⟩, h3⟩
      rw [hul, List.take_length] at h3
      refine s_retL (xs := sVs (lvars ls)) (fun H4 e4 Q4 q4 => ⟨.ref p, rfl, p, _, rfl, e4 _ _ h3, by have := allvs_len hlg hlen; omega, fun pq G hpq eG hG => q4 pq G hpq eG (by rw [lvars_all]; exact hG)⟩) fun q G hq eG hG => k q G (fresh_back e3 hq) (e3.trans eG) hG
end
end K17

set_option Elab.async false
set_option linter.all false
set_option maxRecDepth 100000
set_option maxHeartbeats 4000000
/-! _law_c_put, _law_c_told, _law_c_short. -/
namespace K17
open PySem PySem.Spec PyProof.Rows L2 Evl
section
variable {K : PySem.W.Frag} {H G : Hp} {σ : L2.St} {te tl ta tb : TE} {tt : TT} {v : V} {vs : List Nat}
theorem ev_orV {a b : Bool} (h1 : Ev ta σ H (.bl a)) (h2 : a = false → Ev tb σ H (.bl b)) : Ev (tOrV ta tb) σ H (.bl (a || b)) := fun H1 e Q q =>
  h1 H1 e _ fun H2 e2 => ⟨a, rfl, by
    cases a with
    | true => rw [if_pos rfl]; exact q H2 e2
    | false => rw [if_neg (by decide)]; exact h2 rfl H2 (e.trans e2) _ fun H3 e3 => q H3 (e2.trans e3)⟩
theorem ev_andV {a b : Bool} (h1 : Ev ta σ H (.bl a)) (h2 : a = true → Ev tb σ H (.bl b)) : Ev (tAndV ta tb) σ H (.bl (a && b)) := fun H1 e Q q =>
  h1 H1 e _ fun H2 e2 => ⟨a, rfl, by
    cases a with
    | false => rw [if_neg (by decide)]; exact q H2 e2
    | true => rw [if_pos rfl]; exact h2 rfl H2 (e.trans e2) _ fun H3 e3 => q H3 (e2.trans e3)⟩
theorem ev_is {a b : V} (h : Ev te σ H a) (e : a = b) : Ev te σ H b := e ▸ h
theorem range_get {n i : Nat} {α : Type} (h : i < n) : (List.range n)[i]? = some i := by
  rw [List.getElem?_eq_getElem (by rw [List.length_range]; exact h), List.getElem_range]
theorem cwp_all {H2 G : Hp} {n : Nat} {g : Nat → O} {Dl : Addr} (p : Cwp H2 (fun i => (((List.range n)[i]?).map fun _ => true).getD false) (fun i v G => ∃ l, (List.range n)[i]? = some l ∧ OV G v (g l)) Dl n G) : H2 Dl = none ∧ Ex H2 G ∧ ∃ acc, G Dl = some (.lst acc) ∧ OVs G acc ((List.range n).map g) := by
  obtain ⟨p1, p2, acc, p3, p4, p5⟩ := p
  refine ⟨p1, p2, acc, p3, ?_⟩
  have := a2_ovs (f := fun _ => true) (g := g) n acc (by rw [List.length_range]; exact Nat.le_refl _) p5
  rw [List.filter_eq_self.mpr fun _ _ => rfl, List.take_of_length_le (by rw [List.length_range]; exact Nat.le_refl _)] at this
  exact this
/-- a comprehension over a new tuple -/
theorem lcW {xs : List V} {j : Nat} (g : Nat → O) (h : EvU tl σ H xs) (hz : xs.length ≤ 30000) (hw : ∀ x, wipe ((wipe σ vs).set j (some x)) vs = wipe σ vs)
    (he : ∀ (i : Nat) (x : V) G, Ex H G → xs[i]? = some x → EvO te ((wipe σ vs).set j (some x)) G (g i)) (hp : ∀ i, (g i).hasL = false ∧ (g i).nod = true) : EvLP (tLc (iTup K tl) (gName j) tYes te vs) σ H (fun ys G => OVs G ys ((List.range xs.length).map g)) := fun H1 e Q q =>
  h H1 e _ fun a H2 ha e2 hx => ⟨a, rfl, ⟨xs, st_of hx⟩, fun Dl hD => by
    refine lc_tup (xs := xs) (Cwp H2 (fun i => (((List.range xs.length)[i]?).map fun _ => true).getD false) (fun i v G => ∃ l, (List.range xs.length)[i]? = some l ∧ OV G v (g l)) Dl) (cwp0 hD) (fun i G _ p => st_of (p.2.1 _ _ hx)) (fun i x G hx' p => ⟨hw x, cwp_turn (fun i v => ?_) p (Ex.refl _) (by have := (List.getElem?_eq_some_iff.mp hx').1; omega) ?_ fun hf G3 g3 => ?_⟩) (fun G p => ?_)
    · intro A B ys hA eA eB kp ⟨l, hl, ov⟩
      exact ⟨l, hl, upd_ov (hp l).1 (hp l).2 A B ys hA eA eB kp ov⟩
    · rw [range_get (α := Nat) (List.getElem?_eq_some_iff.mp hx').1]
      exact et_yes
    · exact fun G4 g4 Q4 q4 => he i x G ((e.trans e2).trans p.2.1) hx' G4 (g3.trans g4) Q4 fun v G5 g5 ov => q4 v G5 g5 ⟨i, range_get (α := Nat) (List.getElem?_eq_some_iff.mp hx').1, ov⟩
    · obtain ⟨p1, p2, acc, p3, p4⟩ := cwp_all p
      exact q Dl acc G (fresh_back e2 p1) (e2.trans p2) p3 p4⟩
/-- a comprehension over enumerate of a new list -/
theorem lcEn {xs : List V} {j1 j2 : Nat} (g : Nat → O) (h : EvL tl σ H xs) (hz : xs.length ≤ 30000) (hw : ∀ x y, wipe (((wipe σ vs).set j1 (some x)).set j2 (some y)) vs = wipe σ vs)
    (he : ∀ (i : Nat) (x : V) G, Ex H G → xs[i]? = some x → EvO te (((wipe σ vs).set j1 (some (.int i))).set j2 (some x)) G (g i)) (hp : ∀ i, (g i).hasL = false ∧ (g i).nod = true) : EvLP (tLc (iEnum K (tCons tl tNil)) (gPair K j1 j2) tYes te vs) σ H (fun ys G => OVs G ys ((List.range xs.length).map g)) := fun H1 e Q q =>
  h H1 e _ fun a H2 ha e2 hx => ⟨a, xs, rfl, sq_of hx, fun Dl hD => by
    refine lc_it (walk_enum (K := K) (a := a) (xs := xs)) (Cwp H2 (fun i => (((List.range xs.length)[i]?).map fun _ => true).getD false) (fun i v G => ∃ l, (List.range xs.length)[i]? = some l ∧ OV G v (g l)) Dl) (cwp0 hD) (fun i G _ p => sq_of (p.2.1 _ _ hx)) (fun i x G G' hi p y => ?_) (fun G p => ?_)
    · obtain ⟨T, x1, z, rfl, hT, rfl, e1, e2'⟩ := y
      obtain rfl := Option.some.inj e1
      have eT : Ex G (upd G T (.tup [.int (i : Nat), z])) := Ex.new hT
      refine ⟨T, _, rfl, SqT.of upd_same, rfl, _, _, rfl, _, _, rfl, rfl, hw _ _, cwp_turn (fun i v => ?_) p eT (by omega) ?_ fun hf G3 g3 => ?_⟩
      · intro A B ys hA eA eB kp ⟨l, hl, ov⟩
        exact ⟨l, hl, upd_ov (hp l).1 (hp l).2 A B ys hA eA eB kp ov⟩
      · rw [range_get (α := Nat) hi]
        exact et_yes
      · exact fun G4 g4 Q4 q4 => he i z _ (((e.trans e2).trans p.2.1).trans eT) e2' G4 (g3.trans g4) Q4 fun v G5 g5 ov => q4 v G5 g5 ⟨i, range_get (α := Nat) hi, ov⟩
    · obtain ⟨p1, p2, acc, p3, p4⟩ := cwp_all p
      exact q Dl acc G (fresh_back e2 p1) (e2.trans p2) p3 p4⟩
theorem ev_anyLP {α : Type} {ls : List α} {f : α → Bool} (h : EvLP te σ H (fun xs G => OVs G xs (ls.map fun l => O.bl (f l)))) : Ev (tCB (rAny K) (tCons te tNil)) σ H (.bl (ls.any f)) := fun H1 e Q q =>
  h H1 e _ fun p xs H2 hp e2 h2 hx => ⟨p, ls.map f, rfl, by
    have : ∀ (ls : List α) (xs : List V), OVs H2 xs (ls.map fun l => O.bl (f l)) → xs = (ls.map f).map V.bl := by
      intro ls
      induction ls with
      | nil => intro xs h; exact h
      | cons l ls ih =>
        rintro xs ⟨x, us, rfl, hx, hu⟩
        rw [ih us hu, show x = V.bl (f l) from hx]
        rfl
    rw [this ls xs hx] at h2
    exact sq_of h2, by
    rw [List.any_map]
    exact q H2 e2⟩
theorem eup_tupLP {P : List V → Hp → Prop} (h : EvLP te σ H P) (up : ∀ xs, Up (P xs)) (hl : ∀ xs G, P xs G → True) : EvUP (tCB (rTupOf K) (tCons te tNil)) σ H P := fun H1 e Q q =>
  h H1 e _ fun p xs H2 hp e2 h2 hx => ⟨p, xs, rfl, .inl ⟨sq_of h2, fun l hl => q l xs _ (fresh_back e2 hl) (e2.trans (Ex.new hl)) upd_same (up _ _ _ (Ex.new hl) hx)⟩⟩
end
theorem up_ovs {xs : List V} {os : List O} : Up (fun G => OVs G xs os) := fun A B e h => h.ext e
abbrev nPt : List Str := ["_law_thing", "_law_words", "_law_part"]
theorem sc_pt : FnScope nPt ["_law_thing", "_law_words"] (defScope s__law_c_put) := ⟨rfl, rfl, rfl, by decide +kernel, rfl, by decide +kernel, by decide +kernel⟩
theorem range_map {α β : Type} (as : List α) (f : α → β) (d : β) : (List.range as.length).map (fun i => ((as[i]?).map f).getD d) = as.map f := by
  refine List.ext_getElem (by simp) fun i h1 h2 => ?_
  rw [List.length_map, List.length_range] at h1
  rw [List.getElem_map, List.getElem_range, List.getElem_map, List.getElem?_eq_getElem h1]
  rfl
section
variable {P : Program} {w : World} {K : PySem.W.Frag} {mg : Str → Option Value} {base : Heap}
theorem ok_put (T : T17 P w K mg base) : ∀ m, Ok P w K mg base CX0 "_law_c_put" ["_law_thing", "_law_words"] (m + 1) (spEx m)
  | 0 => T.ok 30 rfl sc_pt (fun vs H Q E h => by obtain ⟨u, d, z, ps, rfl, _⟩ := h; rfl) (fun kV doc pm an cdv ct us hl => match us, hl with | [_, _], _ => rfl) (fun f cdv A outer s H vs Q E hr h => by obtain ⟨u, d, z, ps, _, _, _, h0, _⟩ := h; exact absurd h0 (Nat.not_lt_zero _))
  | m + 1 => by
    obtain ⟨fR, dR, GR, bR, kR, mR⟩ := (ok_put T m).ex
    refine T.ok 30 rfl sc_pt (fun vs H Q E h => ?_) (fun kV doc pm an cdv ct us hl => match us, hl with | [_, _], _ => rfl) (fun f cdv A outer s H vs Q E hr h => ?_)
    · obtain ⟨u, d, z, ps, rfl, _⟩ := h
      rfl
    · obtain ⟨u, d, z, ps, rfl, hw, hd, hz, hm, hs, k⟩ := h
      refine ⟨_, pss_cons (ps_if (pt_val (pe_isiB T.isi T.str PyProof.Rows.boot_str (pv 0))) (pss_one (ps_ret (pe_dget2 (hu_of hr) (pv 1) (pv 0) (pv 0) ⟨rfl, rfl, rfl, rfl⟩))) pss_nil)
        (pss_one (ps_ret (pe_callTy call_tuple_of (by rfl) T.tuple PyProof.Rows.boot_tuple (pa_cons (pe_op op_cat (pe_lst (pa_cons (pe_ix ix_tup (pv 0) pe_int (fun _ _ => rfl)) pa_nil))
          (pe_lc (own := [("_law_part", 2)]) (g := gName 2) (tt := tYes) (te := tCall (spEx m) [] E0 (tCons (tVar 2) (tCons (tVar 1) tNil))) rfl sc_pt.nd (pi_tup (pe_slice sl_tup (pv 0) (po_some pe_int) po_none)) (blkOk_by (N := nPt) (sc := defScope s__law_c_put) (by decide +kernel))
            (fun _ _ _ _ _ => pg_name (i := 2) sc_pt.nd rfl (Or.inl rfl)) (fun _ _ _ _ _ => pts_nil) (fun _ _ _ _ _ => pe_call GR hr (by rfl) mR kR bR .nil pass0 (pa_cons (pv 2) (pa_cons (pv 1) pa_nil))))) pa_nil)))), ?_⟩
      obtain ⟨kvs, hk1, hk2, hk3, hk4, hk5, hk6⟩ := hd.get
      cases z with
      | v sv =>
        obtain rfl : u = .str sv := hw
        refine q_when (b := true) (et_B (ev_isStr (o := .str sv) (ev_var rfl) rfl)) (fun _ H1 e1 => ?_) fun z => nomatch z
        refine ⟨.ref d, rfl, d, rfl, .inl ⟨kvs, .inl (e1 _ _ hk1)⟩, .str sv, rfl, .str sv, rfl, valV kvs (Sum.inr sv : Key), .inl ⟨kvs, Sum.inr sv, .inl (e1 _ _ hk1), rfl, rfl⟩, k _ H1 e1 ?_⟩
        show WV H1 _ ((lk ps sv).getD (.v sv))
        cases hl : lk ps sv with
        | some x =>
          obtain ⟨v, hv, hwv⟩ := hk5 sv x hl
          rw [hv]
          exact hwv.ext e1
        | none =>
          rw [hk6 sv hl]
          rfl
      | n sn as =>
        obtain ⟨r, us, rfl, hr1, hu⟩ := hw.tup
        have hul := hu.length
        have hdp : W.dps as < m := by have : (W.n sn as).dp = W.dps as + 1 := rfl; omega
        have hsz : W.szs as + 2 ≤ 9000 := hs
        have hasl := W.len_szs as
        refine q_when (b := false) (et_B (ev_isStr (o := (W.n sn as).o) (ev_var rfl) hw)) (fun z => nomatch z) fun _ H1 e1 => ?_
        refine s_retUP (eup_tupLP (elp_cat (EvLP.of (el_lst (ea_cons (ev_op (z := .str sn) (ev_var rfl) ev_c (rv_ixT (st_of (e1 _ _ hr1)) (atI_nat (j := 0) rfl))) ea_nil) (by show 1 ≤ 100000; decide)))
          (lcW (fun i => ((as[i]?).map fun y => (y.sub (lk ps)).o).getD .non) (eu_tail (ev_var rfl) (st_of (e1 _ _ hr1))) (by omega) (fun _ => rfl) (fun i x G eG hx H5 e5 Q5 q5 => ?_) (fun i => ?_)) (fun _ A B _ h => h) (fun _ => up_ovs) ?_) (fun xs A B e => ?_) fun _ _ _ => trivial) fun q xs G hq eG hG hP => ?_
        · obtain ⟨y, hy, hwy⟩ := (hu.ext (e1.trans (eG.trans e5))).getv hx
          have h1 := W.lt_dp hy
          have h2' := W.lt_sz hy
          rw [hy] at q5
          exact ⟨x, rfl, .ref d, rfl, x, d, y, ps, rfl, hwy, hd.ext (e1.trans (eG.trans e5)), by omega, by omega, by omega, fun r5 G5 e6 h5 => q5 r5 G5 e6 h5⟩
        · cases as[i]? with
          | none => exact ⟨rfl, rfl⟩
          | some y => exact ⟨W.noL _, W.nod _⟩
        · rintro xs ys G rfl h
          have := h.length
          rw [List.length_map, List.length_range] at this
          simp
          omega
        · rintro ⟨ys, zs, a1, a2, a3⟩
          exact ⟨ys, zs, a1, a2, a3.ext e⟩
        · obtain ⟨ys, zs, rfl, rfl, h3⟩ := hP
          rw [hul, range_map as (fun y => (y.sub (lk ps)).o) .non] at h3
          refine k (.ref q) G (e1.trans eG) (WV.of hG ?_)
          show OVs G zs (W.os (W.subs (lk ps) as))
          rw [W.os_map, subs_map, List.map_map]
          exact h3
end
end K17

set_option Elab.async false
set_option linter.all false
set_option maxRecDepth 100000
set_option maxHeartbeats 4000000
/-! _law_c_told, _law_c_short. -/
namespace K17
open PySem PySem.Spec PyProof.Rows L2 Evl
theorem mergeK_new : ∀ {kvs acc : List (Key × V)}, ((acc ++ kvs).map (·.1)).Nodup → mergeK acc kvs = acc ++ kvs
  | [], acc, _ => by rw [List.append_nil]; rfl
  | kv :: kvs, acc, h => by
    show mergeK (putK acc kv.1 kv.2) kvs = _
    rw [putKn (v := kv.2), mergeK_new, List.append_assoc]
    · rfl
    · rw [List.append_assoc]
      exact h
    · rw [List.map_append, List.map_cons] at h
      intro hc
      exact (List.nodup_append.mp h).2.2 _ hc _ List.mem_cons_self rfl
theorem kvC_nd {vs : List Str} {n : Nat} (nd : vs.Nodup) : ((kvC (called n vs)).map (·.1)).Nodup := by
  rw [kvC_keys, show (fun p : Str × W => (Sum.inr p.1 : Key)) = (fun s : Str => (Sum.inr s : Key)) ∘ (fun p : Str × W => p.1) from rfl, ← List.map_map, called_keys]
  exact nd_map (fun a b e => Sum.inr.inj e) nd
def pairO (n : Nat) (s : Str) : O := .tup [.str s, .str (xn n)]
def pairsO : Nat → List Str → List O
  | _, [] => []
  | n, v :: vs => pairO n v :: pairsO (n + 1) vs
theorem pairsO_paired {K : PySem.W.Frag} {G : Hp} : ∀ {vs : List Str} {n : Nat} {xs : List V}, OVs G xs (pairsO n vs) → ∃ ps : List Addr, xs = ps.map V.ref ∧ PySem.Paired (fun p kv => SqT K G p [kV kv.1, kv.2]) ps (kvC (called n vs))
  | [], n, xs, h => ⟨[], h, .nil⟩
  | v :: vs, n, xs, h => by
    obtain ⟨x, us, rfl, ⟨t, zs, rfl, ht, z1, r1, rfl, h1, z2, r2, rfl, h2, h3⟩, hu⟩ := h
    obtain ⟨ps, rfl, hp⟩ := pairsO_paired (n := n + 1) hu
    obtain rfl : r2 = [] := h3
    obtain rfl : z1 = .str v := h1
    obtain rfl : z2 = .str (xn n) := h2
    exact ⟨t :: ps, rfl, .cons (st_of ht) hp⟩
theorem range_pairs : ∀ (vs : List Str) (n : Nat), (List.range vs.length).map (fun i => pairO (n + i) ((vs[i]?).getD (xn 0))) = pairsO n vs
  | [], n => rfl
  | v :: vs, n => by
    rw [List.length_cons, List.range_succ_eq_map, List.map_cons, List.map_map]
    show pairO (n + 0) v :: _ = pairO n v :: pairsO (n + 1) vs
    rw [← range_pairs vs (n + 1)]
    refine congrArg _ (List.map_congr_left fun i _ => ?_)
    show pairO (n + (i + 1)) (((v :: vs)[i + 1]?).getD (xn 0)) = _
    rw [List.getElem?_cons_succ, show n + (i + 1) = n + 1 + i by omega]
theorem xs_len : ∀ i : Nat, i < 20 → ("X" : Str).length + (Str.ofString (toString ((i : Int) + 1))).length ≤ 1000 := by decide +kernel
def ctold (ls : List Lit) : List Lit := dd [] (ls.map (subL (called 0 (lvars ls))))
abbrev nCt : List Str := ["_law_literals", "_law_words", "_law_at", "_law_one", "_law_is_so", "_law_atom"]
theorem sc_ct : FnScope nCt ["_law_literals"] (defScope s__law_c_told) := ⟨rfl, rfl, rfl, by decide +kernel, rfl, by decide +kernel, by decide +kernel⟩
def spCt : Sp := fun vs H Q _ => ∃ a us ls, vs = [.ref a] ∧ H a = some (.lst us) ∧ OVs H us (ls.map litO) ∧ Lgs ls ∧ ls.length ≤ 40 ∧ (lvars ls).length ≤ 19 ∧ Lgs (ls.map (subL (called 0 (lvars ls)))) ∧ ∀ p ys G, H p = none → Ex H G → G p = some (.lst ys) → OVs G ys ((ctold ls).map litO) → Q (.ref p) G
abbrev nCs : List Str := ["_law_literals", "_law_found", "_law_is_so", "_law_atom"]
theorem sc_cs : FnScope nCs ["_law_literals"] (defScope s__law_c_short) := ⟨rfl, rfl, rfl, by decide +kernel, rfl, by decide +kernel, by decide +kernel⟩
def spCs : Sp := fun vs H Q _ => ∃ a us ls, vs = [.ref a] ∧ H a = some (.lst us) ∧ OVs H us (ls.map litO) ∧ Lgs ls ∧ ls.length ≤ 40 ∧ optL H Q (trimL ls)
section
variable {K : PySem.W.Frag} {H : Hp} {σ : L2.St} {te : TE}
theorem q_asgCB {D : Ends} {tz : TS} {i : Nat} {r : List V → Hp → VK → Prop} {P : List V → Hp → Prop} (h : EvLP te σ H P) (k : ∀ p xs G, H p = none → Ex H G → G p = some (.lst xs) → P xs G → r [.ref p] G (fun v G2 => tz D (σ.set i (some v)) G2)) : tSeq (tAsg (tCB r (tCons te tNil)) (gName i)) tz D σ H := h H (Ex.refl H) _ k
theorem elp_callLP {sp : Sp} {dvs : List V} {E : XK} {P P2 : List V → Hp → Prop} (h : EvLP te σ H P) (k : ∀ p xs G, Ex H G → G p = some (.lst xs) → P xs G → ∀ Q : VK, (∀ q ys G2, G q = none → Ex G G2 → G2 q = some (.lst ys) → P2 ys G2 → Q (.ref q) G2) → sp ([.ref p] ++ dvs) G Q E) : EvLP (tCall sp dvs E (tCons te tNil)) σ H P2 := fun H1 e Q q =>
  h H1 e _ fun p xs G hp e2 h2 hx => k p xs G (e.trans e2) h2 hx Q fun q' ys G2 hq e3 h3 hy => q q' ys G2 (fresh_back e2 hq) (e2.trans e3) h3 hy
/-- (not is_so, atom) in ls or is_so and atom[0] == '=' and atom[1] == atom[2] -/
theorem ev_bad {i j k : Nat} {a : Addr} {us : List V} {ls : List Lit} {l : Lit} {y : V} (h1 : σ[i]? = some (some (.bl l.1))) (h2 : σ[j]? = some (some y)) (h3 : σ[k]? = some (some (.ref a))) (hy : WV H y l.2) (hm : Lg l) (ha : H a = some (.lst us)) (hov : OVs H us (ls.map litO)) (hlg : Lgs ls) :
    Ev (tOrV (tOp (rInD K) (tTup (tCons (tNotV (tVar i)) (tCons (tVar j) tNil))) (tVar k)) (tAndV (tVar i) (tAndV (tOp rEq (tOp (rIxT K) (tVar j) (tC (.int 0))) (tC (.str "="))) (tOp (rEqD K) (tOp (rIxT K) (tVar j) (tC (.int 1))) (tOp (rIxT K) (tVar j) (tC (.int 2))))))) σ H (.bl (bad ls l)) := by
  obtain ⟨s, as, ea, hs⟩ := hm.at_
  have hy2 := hy
  rw [ea] at hy2
  obtain ⟨r, zs, rfl, hr1, hzs⟩ := hy2.tup
  refine ev_orV (a := decide ((!l.1, l.2) ∈ ls)) (b := l.1 && same l.2) (ev_is (ev_opO (a := litO (!l.1, l.2)) (b := .lst (ls.map litO)) (z := .bl ((ls.map litO).any fun o => o.eqv (litO (!l.1, l.2)))) (eo_tup (eao_cons (eo_of (ev_notV (ev_var h1)) rfl) (eao_cons (eo_var h2 hy) eao_nil)) (by show 2 ≤ 1000; decide)) (eo_var h3 ⟨a, us, rfl, ha, hov⟩) fun u w G eG hu hw' => ?_) ?_) fun _ => ?_
  · obtain ⟨a2, us2, rfl, ha2, hov2⟩ := hw'
    exact rv_inO hu ha2 hov2 (wd_ed _ (lit_wd ⟨hm.at_, hm.dp, hm.sz, hm.wd⟩)) (lits_eds hlg) (by have := lit_dp (l := (!l.1, l.2)) ⟨hm.at_, hm.dp, hm.sz, hm.wd⟩; omega) (by have := lits_dps hlg; omega)
  · exact congrArg V.bl ((any_map lit_eqv ls (!l.1, l.2)).trans (decide_eq_decide.mpr Iff.rfl))
  · refine ev_andV (ev_var h1) fun _ => ?_
    rw [ea]
    refine ev_andV (a := decide (s = ("=" : Str))) (ev_is (ev_op (ev_op (z := .str s) (ev_var h2) ev_c (rv_ixT (st_of hr1) (atI_nat (j := 0) rfl))) ev_c (rv_eq rfl)) ?_) fun hse => ?_
    · by_cases q : s = ("=" : Str)
      · rw [decide_eq_true q, decide_eq_true (by rw [q])]
      · rw [decide_eq_false q, decide_eq_false (fun z => q (V.str.inj z))]
    · obtain ⟨x1, x2, rfl⟩ := hs (of_decide_eq_true hse)
      obtain ⟨v1, u1, rfl, w1, v2, u2, rfl, w2, hu3⟩ := hzs
      have hwd : (W.n s [x1, x2]).o.wd = true := by rw [← ea]; exact hm.wd
      have hwd' : (SS.contains s && (x1.o.wd && (x2.o.wd && true))) = true := hwd
      simp only [Bool.and_eq_true] at hwd'
      have hdp : (W.n s [x1, x2]).dp ≤ 8 := by rw [← ea]; exact hm.dp
      have hdp' : max x1.dp (max x2.dp 0) + 1 ≤ 8 := hdp
      have o1 := W.odp x1
      have o2 := W.odp x2
      exact ev_is (ev_op (ev_op (z := v1) (ev_var h2) ev_c (rv_ixT (st_of hr1) (atI_nat (j := 1) rfl))) (ev_op (z := v2) (ev_var h2) ev_c (rv_ixT (st_of hr1) (atI_nat (j := 2) rfl))) (rv_eqO w1 w2 (wd_ed _ hwd'.2.1) (wd_ed _ hwd'.2.2.1) (by omega) (by omega))) (congrArg V.bl (eqv_W x1 x2))
end
section
variable {P : Program} {w : World} {K : PySem.W.Frag} {mg : Str → Option Value} {base : Heap}
theorem ok_ctold (T : T17 P w K mg base) : Ok P w K mg base CX0 "_law_c_told" ["_law_literals"] 24 spCt := by
  obtain ⟨fV, dV, GV, bV, kV', mV⟩ := (ok_cvars T).ex
  obtain ⟨fP, dP, GP, bP, kP, mP⟩ := (ok_put T 20).ex
  obtain ⟨fO, dO, GO, bO, kO, mO⟩ := (ok_once T).ex
  refine T.ok 32 rfl sc_ct (fun vs H Q E h => ?_) (fun kV doc pm an cdv ct us hl => match us, hl with | [_], _ => rfl) (fun f cdv A outer s H vs Q E hr h => ?_)
  · obtain ⟨a, us, ls, rfl, _⟩ := h
    rfl
  · obtain ⟨a, us, ls, rfl, ha, hov, hlg, hlen, hvl, hlg2, k⟩ := h
    refine ⟨_, pss_cons (ps_set (i := 1) sc_ct.nd rfl (Or.inr rfl) (pe_callTy (call_dictP rfl) (by rfl) T.dict boot_dict23 (pa_cons
        (pe_lc (own := [("_law_at", 2), ("_law_one", 3)]) (g := gPair K 2 3) (tt := tYes) (te := tTup (tCons (tVar 3) (tCons (tOp (fun x y H Q => ∃ i j, x = V.str i ∧ y = V.str j ∧ i.length + j.length ≤ PySem.sizeLine ∧ Q (V.str (i ++ j)) H) (tC (.str "X")) (tCB (fun xs H Q => ∃ i, xs = [V.int i] ∧ i.natAbs.log2 < 1920 ∧ Q (V.str (PySem.Str.ofString (toString i))) H) (tCons (tOp (rI0 fun i j => .int (i + j)) (tVar 2) (tC (.int 1))) tNil))) tNil))) rfl sc_ct.nd (pi_enum (by rfl) T.enumerate (pa_cons (pe_call GV (hr.mono (by decide)) (by rfl) mV kV' bV .nil pass0 (pa_cons (pv 0) pa_nil)) pa_nil)) (blkOk_by (N := nCt) (sc := defScope s__law_c_told) (by decide +kernel))
          (fun _ _ _ _ _ => pg_tup rfl (pgs_cons (pg_name (i := 2) sc_ct.nd rfl (Or.inl rfl)) (pgs_cons (pg_name (i := 3) sc_ct.nd rfl (Or.inl rfl)) pgs_nil))) (fun _ _ _ _ _ => pts_nil)
          (fun _ _ _ _ _ => pe_tup (pa_cons (pv 3) (pa_cons (pe_op op_add_str pe_str (pe_callTy call_str_int (by rfl) T.str PyProof.Rows.boot_str (pa_cons (pe_op op_add (pv 2) pe_int) pa_nil))) pa_nil)))) pa_nil)))
      (pss_one (ps_ret (pe_call GO (hr.mono (by decide)) (by rfl) mO kO bO .nil pass0 (pa_cons
        (pe_lc (own := [("_law_is_so", 4), ("_law_atom", 5)]) (g := gPair K 4 5) (tt := tYes) (te := tTup (tCons (tVar 4) (tCons (tCall (spEx 20) [] E0 (tCons (tVar 5) (tCons (tVar 1) tNil))) tNil))) rfl sc_ct.nd (pi_list (pv 0)) (blkOk_by (N := nCt) (sc := defScope s__law_c_told) (by decide +kernel))
          (fun _ _ _ _ _ => pg_tup rfl (pgs_cons (pg_name (i := 4) sc_ct.nd rfl (Or.inl rfl)) (pgs_cons (pg_name (i := 5) sc_ct.nd rfl (Or.inl rfl)) pgs_nil))) (fun _ _ _ _ _ => pts_nil)
          (fun _ _ _ _ _ => pe_tup (pa_cons (pv 4) (pa_cons (pe_call GP (hr.mono (by decide)) (by rfl) mP kP bP .nil pass0 (pa_cons (pv 5) (pa_cons (pv 1) pa_nil))) pa_nil)))) pa_nil)))), ?_⟩
    refine q_asgCB (lcEn (xs := sVs (lvars ls)) (fun i => pairO (0 + i) (((lvars ls)[i]?).getD (xn 0))) (fun H1 e Q q => ⟨.ref a, rfl, a, us, ls, rfl, e _ _ ha, hov.ext e, hlg, hlen, q⟩) (by rw [sVs_len]; omega) (fun _ _ => rfl) (fun i x G eG hx H1 e1 Q1 q1 => ?_) (fun i => ⟨rfl, rfl⟩)) fun q xs H1 hq e1 h1 hx => ?_
    · obtain ⟨s, hs, rfl⟩ := sVs_get hx
      have hi := (List.getElem?_eq_some_iff.mp hs).1
      rw [hs] at q1
      refine ⟨_, rfl, _, rfl, _, _, rfl, rfl, _, rfl, ?_, _, _, rfl, rfl, ?_, by show 2 ≤ sizeLine; decide, fun t ht => ?_⟩
      · rcases Nat.eq_zero_or_pos ((i : Int) + 1).natAbs with z | z
        · rw [z]; decide
        · refine Nat.lt_of_lt_of_le ((Nat.log2_lt (by omega)).mpr (show _ < 2 ^ 20 by omega)) (by decide)
      · exact Nat.le_trans (xs_len i (by omega)) (by decide)
      · refine q1 (.ref t) _ (Ex.new ht) ⟨t, _, rfl, upd_same, .cons rfl (.cons ?_ .nil)⟩
        show V.str _ = V.str (xn (0 + i))
        rw [Nat.zero_add]
        rfl
    rw [sVs_len, range_pairs] at hx
    obtain ⟨ps, rfl, hps⟩ := pairsO_paired (K := K) hx
    refine ⟨q, ps, _, rfl, sq_of h1, hps, fun d hd => ?_⟩
    rw [mergeK_new (acc := []) (kvs := kvC (called 0 (lvars ls))) (kvC_nd (lvars_nodup ls)), List.nil_append]
    have e2 : Ex H1 (upd H1 d (.dK (kvC (called 0 (lvars ls))))) := Ex.new hd
    have hsv : SubV (upd H1 d (.dK (kvC (called 0 (lvars ls))))) d (called 0 (lvars ls)) := subV_called upd_same (lvars_nodup ls)
    have e12 := e1.trans e2
    refine s_retLP (P := fun ys G => OVs G ys ((ctold ls).map litO)) (elp_callLP (lcO (fun _ => true) (fun l => litO (subL (called 0 (lvars ls)) l)) (ev_var rfl) (e12 _ _ ha) (hov.ext e12) (by omega) (fun _ _ => rfl) (fun l y G2 hl e2 hy => et_yes) (fun l y G2 hl e5 hy _ => eo_tup (eao_cons (eo_var rfl rfl) (eao_cons (fun H1 e Q q => ⟨y, rfl, .ref d, rfl, y, d, l.2, _, rfl, hy.ext e, (hsv.ext e5).ext e, by have := (hlg l hl).dp; omega, by decide, by have := (hlg l hl).sz; omega, fun r G3 e3 h3 => q r G3 e3 h3⟩) eao_nil)) (by show 2 ≤ 1000; decide)) (fun l _ => ⟨lit_noL _, lit_nod _⟩)) fun q xs H4 e4 h4 hx4 Q3 q3 => ?_) fun p ys G hp eG hG hy => k p ys G (fresh_back e12 hp) (e12.trans eG) hG hy
    rw [List.filter_eq_self.mpr (fun _ _ => rfl)] at hx4
    have em : (ls.map fun l => litO (subL (called 0 (lvars ls)) l)) = (ls.map (subL (called 0 (lvars ls)))).map litO := by rw [List.map_map]; rfl
    rw [em] at hx4
    refine ⟨true, q, xs, _, rfl, h4, hx4, lits_pls hlg2, by rw [List.length_map, List.length_map]; omega, fun p ys G hp eG hG hy => q3 p ys G hp eG hG ?_⟩
    rw [← show eoO [] ((ls.map (subL (called 0 (lvars ls)))).map litO) = (ctold ls).map litO from eoO_map lit_eqv _ []]
    exact hy
theorem ok_cshort (T : T17 P w K mg base) : Ok P w K mg base CX0 "_law_c_short" ["_law_literals"] 4 spCs := by
  obtain ⟨fO, dO, GO, bO, kO, mO⟩ := (ok_once T).ex
  refine T.ok 31 rfl sc_cs (fun vs H Q E h => ?_) (fun kV doc pm an cdv ct us hl => match us, hl with | [_], _ => rfl) (fun f cdv A outer s H vs Q E hr h => ?_)
  · obtain ⟨a, us, ls, rfl, _⟩ := h
    rfl
  · obtain ⟨a, us, ls, rfl, ha, hov, hlg0, hlen0, k⟩ := h
    refine ⟨_, pss_cons (ps_set (i := 1) sc_cs.nd rfl (Or.inr rfl) (pe_call GO (hr.mono (by decide)) (by rfl) mO kO bO .nil pass0 (pa_cons (pe_callTy call_list_of (by rfl) T.list PyProof.Rows.boot_list (pa_cons (pv 0) pa_nil)) pa_nil)))
      (pss_cons (ps_if (pt_val (pe_callB (cr_any rfl) (by rfl) T.any (by decide +kernel) (pa_cons
        (pe_lc (own := [("_law_is_so", 2), ("_law_atom", 3)]) (g := gPair K 2 3) (tt := tYes) (te := tOrV (tOp (rInD K) (tTup (tCons (tNotV (tVar 2)) (tCons (tVar 3) tNil))) (tVar 1)) (tAndV (tVar 2) (tAndV (tOp rEq (tOp (rIxT K) (tVar 3) (tC (.int 0))) (tC (.str "="))) (tOp (rEqD K) (tOp (rIxT K) (tVar 3) (tC (.int 1))) (tOp (rIxT K) (tVar 3) (tC (.int 2))))))) rfl sc_cs.nd (pi_list (pv 1)) (blkOk_by (N := nCs) (sc := defScope s__law_c_short) (by decide +kernel))
          (fun _ _ _ _ _ => pg_tup rfl (pgs_cons (pg_name (i := 2) sc_cs.nd rfl (Or.inl rfl)) (pgs_cons (pg_name (i := 3) sc_cs.nd rfl (Or.inl rfl)) pgs_nil))) (fun _ _ _ _ _ => pts_nil)
          (fun _ _ _ _ _ => pe_or (pe_cmpR (op_inD (u65 hr)) (pe_tup (pa_cons (pe_not (pv 2)) (pa_cons (pv 3) pa_nil))) (pv 1) (by rfl)) (pe_one (pe_and (pv 2) (pe_and (pe_cmpR op_eq (pe_ix ix_tup (pv 3) pe_int (fun _ _ => rfl)) pe_str (nomark _)) (pe_one (pe_cmpR (op_eqD hr.units) (pe_ix ix_tup (pv 3) pe_int (fun _ _ => rfl)) (pe_ix ix_tup (pv 3) pe_int (fun _ _ => rfl)) (nomark _)))))))) pa_nil))) (pss_one (ps_ret pe_non)) pss_nil)
      (pss_one (ps_ret (pe_lc (own := [("_law_is_so", 2), ("_law_atom", 3)]) (g := gPair K 2 3) (tt := tOr (tTest (tOp rNe (tOp (rIxT K) (tVar 3) (tC (.int 0))) (tC (.str "=")))) (tTest (tOp (rNeD K) (tOp (rIxT K) (tVar 3) (tC (.int 1))) (tOp (rIxT K) (tVar 3) (tC (.int 2)))))) (te := tTup (tCons (tVar 2) (tCons (tVar 3) tNil))) rfl sc_cs.nd (pi_list (pv 1)) (blkOk_by (N := nCs) (sc := defScope s__law_c_short) (by decide +kernel))
        (fun _ _ _ _ _ => pg_tup rfl (pgs_cons (pg_name (i := 2) sc_cs.nd rfl (Or.inl rfl)) (pgs_cons (pg_name (i := 3) sc_cs.nd rfl (Or.inl rfl)) pgs_nil)))
        (fun _ _ _ _ _ => pts_one (PW.pt (pw_or (pt_cmpR op_ne (pe_ix ix_tup (pv 3) pe_int (fun _ _ => rfl)) pe_str (nomark _)) (pw_or1 (pt_cmpR (op_neD hr.units) (pe_ix ix_tup (pv 3) pe_int (fun _ _ => rfl)) (pe_ix ix_tup (pv 3) pe_int (fun _ _ => rfl)) (nomark _))))))
        (fun _ _ _ _ _ => pe_tup (pa_cons (pv 2) (pa_cons (pv 3) pa_nil))))))), ?_⟩
    refine q_asgLP (P := fun xs G => OVs G xs ((dd [] ls).map litO)) (fun H1 e Q q => ⟨.ref a, rfl, a, us, rfl, .inl (sq_of (e _ _ ha)), fun l hl => ?_⟩) fun p us G hp eG hpG hus => ?_
    · have e2 : Ex H1 (upd H1 l (.lst us)) := Ex.new hl
      refine ⟨true, l, us, ls.map litO, rfl, upd_same, hov.ext (e.trans e2), lits_pls hlg0, by rw [List.length_map]; omega, fun p ys G2 hp e3 h2 hy => q p ys G2 (fresh_back e2 hp) (e2.trans e3) h2 ?_⟩
      rw [← show eoO [] (ls.map litO) = (dd [] ls).map litO from eoO_map lit_eqv ls []]
      exact hy
    have hlg := dd_lgs hlg0
    have hlen : (dd [] ls).length ≤ 40 := by have h1 : (dd [] ls).length ≤ 0 + ls.length := dd_len ls []; omega
    unfold trimL at k
    refine q_when (b := alw (dd [] ls)) (et_B (ev_anyLP (ls := dd [] ls) (f := bad (dd [] ls)) ?_)) (fun hb J eJ => ?_) fun hb J eJ => ?_
    · have h := lcO (K := K) (tl := tVar 1) (σ := [some (.ref a), some (.ref p), none, none]) (vs := [2, 3]) (j1 := 2) (j2 := 3) (tt := tYes) (te := tOrV (tOp (rInD K) (tTup (tCons (tNotV (tVar 2)) (tCons (tVar 3) tNil))) (tVar 1)) (tAndV (tVar 2) (tAndV (tOp rEq (tOp (rIxT K) (tVar 3) (tC (.int 0))) (tC (.str "="))) (tOp (rEqD K) (tOp (rIxT K) (tVar 3) (tC (.int 1))) (tOp (rIxT K) (tVar 3) (tC (.int 2))))))) (fun _ => true) (fun l => O.bl (bad (dd [] ls) l)) (ev_var rfl) hpG hus (by omega) (fun _ _ => rfl) (fun l y G2 hl e2 hy => et_yes) (fun l y G2 hl e2 hy _ => eo_of (ev_bad (i := 2) (j := 3) (k := 1) rfl rfl rfl hy (hlg l hl) (e2 _ _ hpG) (hus.ext e2) hlg) rfl) fun l _ => ⟨rfl, rfl⟩
      rw [List.filter_eq_self.mpr (fun _ _ => rfl)] at h
      exact h
    · have hb : alw (dd [] ls) = true := hb
      rw [if_pos hb] at k
      exact s_ret ev_c fun H4 e4 => k H4 ((eG.trans eJ).trans e4)
    · have hb : alw (dd [] ls) = false := hb
      rw [if_neg (by rw [hb]; decide)] at k
      refine s_retLP (lcO (fun l => !same l.2) litO (ev_var rfl) (eJ _ _ hpG) (hus.ext eJ) (by omega) (fun _ _ => rfl) (fun l y G2 hl e2 hy => et_keep rfl hy (hlg l hl)) (fun l y G2 hl e2 hy _ => eo_tup (eao_cons (eo_var rfl rfl) (eao_cons (eo_var rfl hy) eao_nil)) (by show 2 ≤ 1000; decide)) fun l _ => ⟨lit_noL l, lit_nod l⟩) fun q xs H1 hq e1 h1 hx => ?_
      exact k q xs H1 (fresh_back (eG.trans eJ) hq) ((eG.trans eJ).trans e1) h1 hx
end
end K17

set_option Elab.async false
set_option linter.all false
set_option maxRecDepth 100000
set_option maxHeartbeats 4000000
/-! _law_c_rows. -/
namespace K17
open PySem PySem.Spec PyProof.Rows L2 Evl
def rowsL (n : Nat) : Nat → List (List Nat)
  | 0 => [[]]
  | k + 1 => (List.range (n * (rowsL n k).length)).map fun a => ((rowsL n k)[a / n]?).getD [] ++ [a % n]
def rowO (r : List Nat) : O := .tup (r.map fun i => .int (i : Nat))
theorem rowsL_len : ∀ n < 4, ∀ k < 5, (rowsL n k).length ≤ 81 := by decide +kernel
theorem rowsL_nd : ∀ n < 4, ∀ k < 5, (rowsL n k).Nodup := by decide +kernel
theorem rowsL_ok : ∀ n < 4, ∀ k < 5, ∀ r ∈ rowsL n k, r.length = k ∧ ∀ x ∈ r, x < n := by decide +kernel
theorem rowsL_all {n : Nat} (hn : 1 ≤ n) : ∀ (k : Nat) (r : List Nat), r.length = k → (∀ x ∈ r, x < n) → r ∈ rowsL n k
  | 0, r, h, _ => by rw [List.length_eq_zero_iff.mp h]; exact List.mem_cons_self
  | k + 1, r, h, hx => by
    have hne : r ≠ [] := by rintro rfl; cases h
    obtain ⟨s, x, rfl⟩ : ∃ s x, r = s ++ [x] := ⟨r.dropLast, r.getLast hne, (List.dropLast_concat_getLast hne).symm⟩
    rw [List.length_append, List.length_singleton] at h
    obtain ⟨i, hi, e⟩ := List.getElem_of_mem (rowsL_all hn k s (by omega) fun y hy => hx y (List.mem_append_left _ hy))
    have hxn := hx x (by simp)
    refine List.mem_map.mpr ⟨i * n + x, List.mem_range.mpr ?_, ?_⟩
    · have h1 : (i + 1) * n ≤ (rowsL n k).length * n := Nat.mul_le_mul_right _ hi
      rw [Nat.add_mul, Nat.one_mul] at h1
      rw [Nat.mul_comm n]
      omega
    · have e1 : (i * n + x) / n = i := by
        rw [Nat.mul_comm, Nat.mul_add_div (by omega), Nat.div_eq_of_lt hxn, Nat.add_zero]
      have e2 : (i * n + x) % n = x := by
        rw [Nat.mul_comm, Nat.mul_add_mod, Nat.mod_eq_of_lt hxn]
      rw [e1, e2, List.getElem?_eq_getElem hi, e]
      rfl
theorem row_noL (r : List Nat) : (rowO r).hasL = false := hasLs_all.mpr fun o ho => by obtain ⟨i, _, rfl⟩ := List.mem_map.mp ho; rfl
theorem row_nod (r : List Nat) : (rowO r).nod = true := nods_all.mpr fun o ho => by obtain ⟨i, _, rfl⟩ := List.mem_map.mp ho; rfl
theorem row_ed (r : List Nat) : (rowO r).ed = true := eds_all.mpr fun o ho => by obtain ⟨i, _, rfl⟩ := List.mem_map.mp ho; rfl
theorem row_dp (r : List Nat) : (rowO r).dp ≤ 1 := Nat.succ_le_succ (dps_all.mpr fun o ho => by obtain ⟨i, _, rfl⟩ := List.mem_map.mp ho; exact Nat.le_refl _)
theorem ints_ov {G : Hp} : ∀ {r : List Nat} {zs : List V}, OVs G zs (r.map fun i => O.int (i : Nat)) → zs = nums r
  | [], zs, h => h
  | i :: r, zs, ⟨z, us, e, h1, h2⟩ => by
    rw [e, ints_ov h2, show z = V.int (i : Nat) from h1]
    rfl
theorem ov_ints {G : Hp} : ∀ (r : List Nat), OVs G (nums r) (r.map fun i => O.int (i : Nat))
  | [] => .nil
  | i :: r => .cons rfl (ov_ints r)
theorem row_at {G : Hp} {v : V} {r : List Nat} (h : OV G v (rowO r)) : ∃ t, v = .ref t ∧ G t = some (.tup (nums r)) := by
  obtain ⟨t, zs, rfl, ht, hz⟩ := h
  rw [ints_ov hz] at ht
  exact ⟨t, rfl, ht⟩
theorem row_of {G : Hp} {t : Addr} {r : List Nat} (h : G t = some (.tup (nums r))) : OV G (.ref t) (rowO r) := ⟨t, _, rfl, h, ov_ints r⟩
section
variable {K : PySem.W.Frag} {H G : Hp} {σ : L2.St} {te tl ta tb : TE} {tt : TT} {v : V} {vs : List Nat} {D : Ends} {tz tu : TS}
/-- a comprehension over range(n) -/
theorem lcR {n : Nat} {j : Nat} (g : Nat → O) (h : Ev tl σ H (.int (n : Nat))) (hz : n ≤ 30000) (hw : ∀ x, wipe ((wipe σ vs).set j (some x)) vs = wipe σ vs)
    (he : ∀ (i : Nat) G, i < n → Ex H G → EvO te ((wipe σ vs).set j (some (.int (i : Nat)))) G (g i)) (hp : ∀ i, (g i).hasL = false ∧ (g i).nod = true) : EvLP (tLc (iRng1 (tCons tl tNil)) (gName j) tYes te vs) σ H (fun ys G => OVs G ys ((List.range n).map g)) := fun H1 e Q q =>
  h H1 e _ fun H2 e2 => ⟨_, rfl, by omega, by omega, fun Dl hD => by
    refine lc_range (lo := 0) (n := ((n : Nat) : Int).toNat) (Cwp H2 (fun i => (((List.range n)[i]?).map fun _ => true).getD false) (fun i v G => ∃ l, (List.range n)[i]? = some l ∧ OV G v (g l)) Dl) (cwp0 hD) (fun i G hi p => ?_) (fun G p => ?_)
    · have hi : i < n := by simpa using hi
      rw [show (0 : Int) + (i : Nat) = (i : Nat) by omega]
      refine ⟨hw _, cwp_turn (fun i v => ?_) p (Ex.refl _) (by omega) ?_ fun hf G3 g3 => ?_⟩
      · intro A B ys hA eA eB kp ⟨l, hl, ov⟩
        exact ⟨l, hl, upd_ov (hp l).1 (hp l).2 A B ys hA eA eB kp ov⟩
      · rw [range_get (α := Nat) hi]
        exact et_yes
      · exact fun G4 g4 Q4 q4 => he i G hi ((e.trans e2).trans p.2.1) G4 (g3.trans g4) Q4 fun v G5 g5 ov => q4 v G5 g5 ⟨i, range_get (α := Nat) hi, ov⟩
    · rw [Int.toNat_natCast] at p
      obtain ⟨p1, p2, acc, p3, p4⟩ := cwp_all p
      exact q Dl acc G (fresh_back e2 p1) (e2.trans p2) p3 p4⟩
theorem q_forR {n : Nat} {j : Nat} (h : Ev tl σ H (.int (n : Nat))) (hz : n ≤ 30000) (Pv : Nat → L2.St → Hp → Prop) (h0 : ∀ H1, Ex H H1 → Pv 0 σ H1)
    (hs : ∀ i σ' H', i < n → Pv i σ' H' → tu { D with nx := Pv (i + 1), ct := Pv (i + 1), bk := tz D } (σ'.set j (some (.int (i : Nat)))) H') (hd : ∀ σ' H', Pv n σ' H' → tz D σ' H') : tSeq (tFor (iRng1 (tCons tl tNil)) (gName j) tu) tz D σ H :=
  h H (Ex.refl H) _ fun H1 e => ⟨_, rfl, by omega, by omega, by
    rw [Int.toNat_natCast]
    refine for_range (lo := 0) (D := { D with nx := tz D }) Pv (h0 H1 e) (fun i σ' H' hi p => ?_) hd
    rw [show (0 : Int) + (i : Nat) = (i : Nat) by omega]
    exact hs i σ' H' hi p⟩
end
abbrev nRw : List Str := ["_law_many", "_law_places", "_law_found", "_law_k", "_law_at"]
theorem sc_rw : FnScope nRw ["_law_many", "_law_places"] (defScope s__law_c_rows) := ⟨rfl, rfl, rfl, by decide +kernel, rfl, by decide +kernel, by decide +kernel⟩
def spRw : Sp := fun vs H Q _ => ∃ n k : Nat, vs = [.int (n : Nat), .int (k : Nat)] ∧ 1 ≤ n ∧ n < 4 ∧ k < 5 ∧ ∀ p us G, H p = none → Ex H G → G p = some (.lst us) → OVs G us ((rowsL n k).map rowO) → Q (.ref p) G
section
variable {P : Program} {w : World} {K : PySem.W.Frag} {mg : Str → Option Value} {base : Heap}
abbrev rCatQ (K : PySem.W.Frag) : R2 := fun x y H Q => rCatT K x y H Q ∨ rCat0 K x y H Q
theorem ok_rows (T : T17 P w K mg base) : Ok P w K mg base CX0 "_law_c_rows" ["_law_many", "_law_places"] 1 spRw := by
  refine T.ok 22 rfl sc_rw (fun vs H Q E h => ?_) (fun kV doc pm an cdv ct us hl => match us, hl with | [_, _], _ => rfl) (fun f cdv A outer s H vs Q E hr h => ?_)
  · obtain ⟨n, kk, rfl, _⟩ := h
    rfl
  · obtain ⟨n, kk, rfl, hn, hn4, hk5, k⟩ := h
    refine ⟨_, pss_cons (ps_set (i := 2) sc_rw.nd rfl (Or.inr rfl) (pe_lst (pa_cons (pe_tup pa_nil) pa_nil)))
      (pss_cons (ps_for PassesOwn.never rfl (pi_range1 (by rfl) T.range (pa_cons (pv 1) pa_nil)) (pg_name (i := 3) sc_rw.nd rfl (Or.inl rfl))
        (pss_one (ps_set (i := 2) sc_rw.nd rfl (Or.inr rfl) (pe_lc (own := [("_law_at", 4)]) (g := gName 4) (tt := tYes) (te := tOp (rCatQ K) (tOp (rIxL K) (tVar 2) (tOp (rI CDiv fun i j => V.int (i / j)) (tVar 4) (tVar 0))) (tTup (tCons (tOp (rI (fun x j => 0 < j) fun i j => V.int (i % j)) (tVar 4) (tVar 0)) tNil))) rfl sc_rw.nd
          (pi_range1 (by rfl) T.range (pa_cons (pe_op op_mul (pv 0) (pe_callB call_len (by rfl) T.len PySem.boot_len (pa_cons (pv 2) pa_nil))) pa_nil)) (blkOk_by (N := nRw) (sc := defScope s__law_c_rows) (by decide +kernel))
          (fun _ _ _ _ _ => pg_name (i := 4) sc_rw.nd rfl (Or.inl rfl)) (fun _ _ _ _ _ => pts_nil)
          (fun _ _ _ _ _ => pe_op (op_or op_catT op_cat0) (pe_ix ix_list (pv 2) (pe_op op_fdiv (pv 4) (pv 0)) (fun _ _ => rfl)) (pe_tup (pa_cons (pe_op op_mod (pv 4) (pv 0)) pa_nil)))))))
      (pss_one (ps_ret (pv 2)))), ?_⟩
    refine q_asgLP (P := fun us G => OVs G us ((rowsL n 0).map rowO)) (fun H1 e Q q => ⟨by show 0 ≤ sizeLine; decide, fun t ht => ⟨by show 1 ≤ sizeLine; decide, fun p hp => q p _ _ (fresh_back (Ex.new ht) hp) ((Ex.new ht).trans (Ex.new hp)) upd_same (.cons (row_of (r := []) (Ex.new hp _ _ upd_same)) .nil)⟩⟩) fun p us H1 hp e1 h1 hu => ?_
    refine q_forR (ev_var rfl) (by omega) (fun i σ' H' => Ex H H' ∧ ∃ (p : Addr) (us : List V) (b : Option V), σ' = [some (.int (n : Nat)), some (.int (kk : Nat)), some (.ref p), b, none] ∧ H p = none ∧ H' p = some (.lst us) ∧ OVs H' us ((rowsL n i).map rowO)) ?_ ?_ ?_
    · intro H2 e2
      exact ⟨e1.trans e2, p, us, none, rfl, hp, e2 _ _ h1, hu.ext e2⟩
    · rintro i σ' H' hi ⟨e3, p, us, b, rfl, hp, h3, hu⟩
      have hul : us.length = (rowsL n i).length := by rw [hu.length, List.length_map]
      have hle := rowsL_len n hn4 i (by omega)
      refine s_asgLP (lcR (n := n * (rowsL n i).length) (fun a => rowO (((rowsL n i)[a / n]?).getD [] ++ [a % n])) (ev_is (ev_op (z := .int ((n : Nat) * (us.length : Nat))) (ev_var rfl) (ev_lenL (ev_var rfl) (sq_of h3)) fun H1 e Q q => ⟨_, _, rfl, rfl, .inl (by omega), q H1 (Ex.refl _)⟩) ?_) ?_ (fun _ => rfl) (fun a G ha eG H4 e4 Q4 q4 => ?_) fun a => ⟨row_noL _, row_nod _⟩) fun p2 us2 G hp2 eG h2 hu2 => ?_
      · rw [hul]
        exact congrArg V.int (by rw [Int.natCast_mul])
      · have : n * (rowsL n i).length ≤ 3 * 81 := Nat.mul_le_mul (by omega) hle
        omega
      · have hd : a / n < (rowsL n i).length := (Nat.div_lt_iff_lt_mul (by omega)).mpr (by rw [Nat.mul_comm]; exact ha)
        obtain ⟨y, hy, hyo⟩ := (hu.ext (eG.trans e4)).geto (i := a / n) (o := rowO (rowsL n i)[a / n]) (by rw [List.getElem?_map, List.getElem?_eq_getElem hd]; rfl)
        rw [List.getElem?_eq_getElem hd] at q4
        obtain ⟨t, rfl, ht⟩ := row_at hyo
        have eD : ((a : Nat) : Int) / (n : Nat) = ((a / n : Nat) : Int) := (Int.natCast_ediv a n).symm
        have eM : ((a : Nat) : Int) % (n : Nat) = ((a % n : Nat) : Int) := (Int.natCast_emod a n).symm
        refine ⟨_, rfl, _, rfl, _, rfl, _, _, rfl, rfl, ⟨by omega, by omega⟩, p, us, _, .ref t, rfl, rfl, sq_of (e4 _ _ (eG _ _ h3)), ?_, _, rfl, _, rfl, _, _, rfl, rfl, by omega, by show 1 ≤ sizeLine; decide, fun b hb => ?_⟩
        · rw [eD]
          exact atI_nat hy
        show rCatQ K (V.ref t) (.ref b) (upd H4 b (.tup [.int ((a : Nat) % (n : Nat))])) Q4
        rw [eM]
        have e6 : Ex H4 (upd H4 b (.tup [.int ((a % n : Nat) : Int)])) := Ex.new hb
        cases hr : (rowsL n i)[a / n] with
        | nil =>
          rw [hr] at ht q4
          exact .inr ⟨t, b, _, rfl, rfl, st_of (e6 _ _ ht), st_of upd_same, by show 1 ≤ 1000; decide, q4 _ _ e6 (row_of (r := [a % n]) upd_same)⟩
        | cons c r =>
          have hlr := (rowsL_ok n hn4 i (by omega) _ (List.getElem_mem hd)).1
          rw [hr] at ht q4 hlr
          refine .inl ⟨t, b, _, _, rfl, rfl, st_of (e6 _ _ ht), st_of upd_same, (by intro z; cases z), ?_, (fun z => nomatch z), fun _ p3 hp3 => q4 _ _ (e6.trans (Ex.new hp3)) (row_of (r := (c :: r) ++ [a % n]) ?_)⟩
          · have : (nums (c :: r)).length = (c :: r).length := nums_len _
            refine sz_of ?_
            rw [this]
            show _ + 1 ≤ 100000
            omega
          · rw [upd_same]
            unfold nums
            rw [List.map_append]
            rfl
      · exact ⟨e3.trans eG, p2, us2, _, rfl, fresh_back e3 hp2, h2, by rw [show rowsL n (i + 1) = (List.range (n * (rowsL n i).length)).map fun a => ((rowsL n i)[a / n]?).getD [] ++ [a % n] from rfl, List.map_map]; exact hu2⟩
    · rintro σ' H' ⟨e3, p, us, b, rfl, hp, h3, hu⟩
      exact s_ret (ev_var rfl) fun H4 e4 => k p us H4 hp (e3.trans e4) (e4 _ _ h3) (hu.ext e4)
end
end K17

set_option Elab.async false
set_option linter.all false
set_option maxRecDepth 100000
set_option maxHeartbeats 4000000
/-! Worlds; _law_c_value. -/
namespace K17
open PySem PySem.Spec PyProof.Rows L2 Evl
abbrev Tbl := List (List Nat × Nat)
structure PW where
  n : Nat
  fs : List (Str × Tbl)
  ps : List (Str × List (List Nat))
def rK (r : List Nat) : List Key := r.map fun i : Nat => (Sum.inl (i : Int) : Key)
def tK (p : List Nat × Nat) : List Key × V := (rK p.1, .int (p.2 : Nat))
theorem rK_inj {a b : List Nat} (h : rK a = rK b) : a = b := by
  induction a generalizing b with
  | nil => cases b with
    | nil => rfl
    | cons _ _ => cases h
  | cons x xs ih => cases b with
    | nil => cases h
    | cons y ys =>
      obtain ⟨h1, h2⟩ := List.cons.inj h
      rw [ih h2]
      have := Sum.inl.inj h1
      congr 1
      omega
theorem rK_nums (r : List Nat) : (rK r).map kV = nums r := by
  unfold rK nums
  rw [List.map_map]
  rfl
def TV (H : Hp) (v : V) (t : Tbl) : Prop := ∃ a, v = .ref a ∧ H a = some (.dT (t.map tK))
def PV (H : Hp) (v : V) (rs : List (List Nat)) : Prop := ∃ a us, v = .ref a ∧ H a = some (.lst us) ∧ OVs H us (rs.map rowO)
abbrev KR {β : Type} (R : V → β → Prop) : Key × V → Str × β → Prop := fun kv f => kv.1 = Sum.inr f.1 ∧ R kv.2 f.2
def FD (H : Hp) (a : Addr) (fs : List (Str × Tbl)) : Prop := ∃ kvs, H a = some (.dK kvs) ∧ A2 (KR (TV H)) kvs fs
def PD (H : Hp) (a : Addr) (ps : List (Str × List (List Nat))) : Prop := ∃ kvs, H a = some (.dK kvs) ∧ A2 (KR (PV H)) kvs ps
def WdV (H : Hp) (v : V) (w : PW) : Prop := ∃ t fd pd, v = .ref t ∧ H t = some (.tup [.int (w.n : Nat), .ref fd, .ref pd]) ∧ FD H fd w.fs ∧ PD H pd w.ps
theorem TV.ext {H G : Hp} {v : V} {t : Tbl} (h : TV H v t) (e : Ex H G) : TV G v t := let ⟨a, b, c⟩ := h; ⟨a, b, e _ _ c⟩
theorem PV.ext {H G : Hp} {v : V} {t : List (List Nat)} (h : PV H v t) (e : Ex H G) : PV G v t := let ⟨a, us, b, c, d⟩ := h; ⟨a, us, b, e _ _ c, d.ext e⟩
theorem FD.ext {H G : Hp} {a : Addr} {t : List (Str × Tbl)} (h : FD H a t) (e : Ex H G) : FD G a t := let ⟨k, b, c⟩ := h; ⟨k, e _ _ b, A2.mono (fun _ _ r => ⟨r.1, r.2.ext e⟩) c⟩
theorem PD.ext {H G : Hp} {a : Addr} {t : List (Str × List (List Nat))} (h : PD H a t) (e : Ex H G) : PD G a t := let ⟨k, b, c⟩ := h; ⟨k, e _ _ b, A2.mono (fun _ _ r => ⟨r.1, r.2.ext e⟩) c⟩
theorem WdV.ext {H G : Hp} {v : V} {w : PW} (h : WdV H v w) (e : Ex H G) : WdV G v w := let ⟨t, fd, pd, a, b, c, d⟩ := h; ⟨t, fd, pd, a, e _ _ b, c.ext e, d.ext e⟩
def alk {β : Type} (l : List (Str × β)) (s : Str) : Option β := (l.find? fun p => decide (p.1 = s)).map (·.2)
def tlk (t : Tbl) (r : List Nat) : Option Nat := (t.find? fun p => decide (p.1 = r)).map (·.2)
theorem kr_get {β : Type} {R : V → β → Prop} {s : Str} {y : β} : ∀ {kvs : List (Key × V)} {fs : List (Str × β)}, A2 (KR R) kvs fs → alk fs s = some y → ∃ v, valV kvs (Sum.inr s : Key) = some v ∧ R v y
  | [], [], _, h => nomatch h
  | kv :: kvs, f :: fs, ⟨⟨h1, h2⟩, h3⟩, h => by
    unfold alk at h
    rw [List.find?_cons] at h
    unfold valV
    rw [List.find?_cons, h1]
    by_cases hs : f.1 = s
    · rw [decide_eq_true hs] at h
      rw [decide_eq_true (by rw [hs])]
      obtain rfl := Option.some.inj h
      exact ⟨kv.2, rfl, h2⟩
    · rw [decide_eq_false hs] at h
      rw [decide_eq_false (fun z => hs (Sum.inr.inj z))]
      exact kr_get h3 h
theorem tbl_get (r : List Nat) : ∀ t : Tbl, valV (t.map tK) (rK r) = (tlk t r).map fun x : Nat => V.int (x : Nat)
  | [] => rfl
  | p :: t => by
    have ih := tbl_get r t
    unfold valV tlk at ih ⊢
    rw [List.map_cons, List.find?_cons, List.find?_cons]
    by_cases h : p.1 = r
    · rw [decide_eq_true h, decide_eq_true (show (tK p).1 = rK r by rw [← h]; rfl)]
      rfl
    · rw [decide_eq_false h, decide_eq_false (show ¬(tK p).1 = rK r from fun z => h (rK_inj z))]
      exact ih
mutual
def W.ev (w : PW) (ρ : Str → Nat) : W → Nat
  | .v s => ρ s
  | .n s as => ((alk w.fs s).bind fun t => tlk t (W.evs w ρ as)).getD 0
def W.evs (w : PW) (ρ : Str → Nat) : List W → List Nat
  | [] => []
  | z :: zs => z.ev w ρ :: W.evs w ρ zs
end
theorem evs_map (w : PW) (ρ : Str → Nat) : ∀ as : List W, W.evs w ρ as = as.map (W.ev w ρ)
  | [] => rfl
  | x :: xs => congrArg (x.ev w ρ :: ·) (evs_map w ρ xs)
mutual
def W.wf (fs : List (Str × Nat)) : W → Bool
  | .v _ => true
  | .n s as => decide ((s, as.length) ∈ fs) && W.wfs fs as
def W.wfs (fs : List (Str × Nat)) : List W → Bool
  | [] => true
  | z :: zs => z.wf fs && W.wfs fs zs
end
theorem wfs_all {fs : List (Str × Nat)} : ∀ {as : List W}, W.wfs fs as = true → ∀ z ∈ as, z.wf fs = true
  | z :: zs, h, y, hy => by
    have h : (z.wf fs && W.wfs fs zs) = true := h
    rw [Bool.and_eq_true] at h
    rcases List.mem_cons.mp hy with rfl | hy
    · exact h.1
    · exact wfs_all h.2 y hy
abbrev Nms := List (Str × Nat) × List (Str × Nat)
structure WOK (nm : Nms) (w : PW) : Prop where
  n1 : 1 ≤ w.n
  n3 : w.n < 4
  f : ∀ q ∈ nm.1, ∃ t, alk w.fs q.1 = some t ∧ ∀ r : List Nat, r.length = q.2 → (∀ x ∈ r, x < w.n) → ∃ v, v < w.n ∧ tlk t r = some v
  p : ∀ q ∈ nm.2, ∃ rs, alk w.ps q.1 = some rs
mutual
theorem W.ev_lt {nm : Nms} {w : PW} {ρ : Str → Nat} (h : WOK nm w) (hr : ∀ s, ρ s < w.n) : ∀ z : W, z.wf nm.1 = true → z.ev w ρ < w.n
  | .v s, _ => hr s
  | .n s as, hw => by
    have hw : (decide ((s, as.length) ∈ nm.1) && W.wfs nm.1 as) = true := hw
    rw [Bool.and_eq_true] at hw
    obtain ⟨t, ht, ha⟩ := h.f _ (of_decide_eq_true hw.1)
    obtain ⟨v, hv, e⟩ := ha (W.evs w ρ as) (by rw [evs_map, List.length_map]) (W.evs_lt h hr as hw.2)
    have ht : alk w.fs s = some t := ht
    show ((alk w.fs s).bind fun t => tlk t (W.evs w ρ as)).getD 0 < w.n
    rw [ht]
    show ((tlk t (W.evs w ρ as)).getD 0) < w.n
    rw [e]
    exact hv
theorem W.evs_lt {nm : Nms} {w : PW} {ρ : Str → Nat} (h : WOK nm w) (hr : ∀ s, ρ s < w.n) : ∀ zs : List W, W.wfs nm.1 zs = true → ∀ x ∈ W.evs w ρ zs, x < w.n
  | [], _, x, hx => nomatch hx
  | z :: zs, hw, x, hx => by
    have hw : (z.wf nm.1 && W.wfs nm.1 zs) = true := hw
    rw [Bool.and_eq_true] at hw
    rcases List.mem_cons.mp hx with rfl | hx
    · exact W.ev_lt h hr z hw.1
    · exact W.evs_lt h hr zs hw.2 x hx
end
theorem app_def {nm : Nms} {w : PW} {ρ : Str → Nat} (h : WOK nm w) (hr : ∀ s, ρ s < w.n) {s : Str} {as : List W} (hw : (W.n s as).wf nm.1 = true) : ∃ t, alk w.fs s = some t ∧ tlk t (W.evs w ρ as) = some ((W.n s as).ev w ρ) := by
  have hw : (decide ((s, as.length) ∈ nm.1) && W.wfs nm.1 as) = true := hw
  rw [Bool.and_eq_true] at hw
  obtain ⟨t, ht, ha⟩ := h.f _ (of_decide_eq_true hw.1)
  obtain ⟨v, hv, e⟩ := ha (W.evs w ρ as) (by rw [evs_map, List.length_map]) (W.evs_lt h hr as hw.2)
  have ht : alk w.fs s = some t := ht
  refine ⟨t, ht, ?_⟩
  show tlk t (W.evs w ρ as) = some (((alk w.fs s).bind fun t => tlk t (W.evs w ρ as)).getD 0)
  rw [ht]
  show tlk t (W.evs w ρ as) = some ((tlk t (W.evs w ρ as)).getD 0)
  rw [e]
  rfl
abbrev nVl : List Str := ["_law_world", "_law_word", "_law_giving", "_law_part"]
theorem sc_vl : FnScope nVl ["_law_world", "_law_word", "_law_giving"] (defScope s__law_c_value) := ⟨rfl, rfl, rfl, by decide +kernel, rfl, by decide +kernel, by decide +kernel⟩
/-- the dict at g gives the variables their things -/
structure GvV (H : Hp) (g : Addr) (ss : List Str) (ρ : Str → Nat) : Prop where
  ex : ∃ kvs, H g = some (.dK kvs) ∧ ∀ s ∈ ss, valV kvs (Sum.inr s : Key) = some (.int (ρ s : Nat))
theorem GvV.ext {H G : Hp} {g : Addr} {ss : List Str} {ρ : Str → Nat} (h : GvV H g ss ρ) (e : Ex H G) : GvV G g ss ρ := let ⟨k, a, b⟩ := h.ex; ⟨k, e _ _ a, b⟩
theorem GvV.sub {H : Hp} {g : Addr} {ss tt : List Str} {ρ : Str → Nat} (h : GvV H g ss ρ) (e : ∀ s ∈ tt, s ∈ ss) : GvV H g tt ρ := let ⟨k, a, b⟩ := h.ex; ⟨k, a, fun s hs => b s (e s hs)⟩
def spVl (m : Nat) : Sp := fun vs H Q _ => ∃ (wv u : V) (g : Addr) (nm : Nms) (w : PW) (z : W) (ρ : Str → Nat), vs = [wv, u, .ref g] ∧ WdV H wv w ∧ WOK nm w ∧ WV H u z ∧ z.wf nm.1 = true ∧ GvV H g z.allv ρ ∧ (∀ s, ρ s < w.n) ∧ z.dp < m ∧ z.sz ≤ 9000 ∧ RetV (.int (z.ev w ρ : Nat)) H Q
theorem allvs_mem {s : Str} {z : W} : ∀ {as : List W}, z ∈ as → s ∈ z.allv → s ∈ W.allvs as
  | y :: ys, h, hs => by
    show s ∈ y.allv ++ W.allvs ys
    rcases List.mem_cons.mp h with rfl | h
    · exact List.mem_append_left _ hs
    · exact List.mem_append_right _ (allvs_mem h hs)
section
variable {K : PySem.W.Frag} {H G : Hp} {σ : L2.St} {te : TE}
theorem ev_dget {td ty : TE} {a : Addr} {kvs : List (Key × V)} {k : Key} {v : V} (h1 : Ev td σ H (.ref a)) (h2 : Ev ty σ H (kV k)) (ha : H a = some (.dK kvs)) (hv : valV kvs k = some v) : Ev (tDGet td ty) σ H v := fun H1 e Q q =>
  h1 H1 e _ fun H2 e2 => h2 H2 (e.trans e2) _ fun H3 e3 => ⟨a, v, rfl, by rw [← hv]; exact DGet.k (e3 _ _ (e2 _ _ (e _ _ ha))), q H3 (e2.trans e3)⟩
theorem ev_dgetU {td ty : TE} {a : Addr} {kvs : List (List Key × V)} {k : List Key} {v : V} (h1 : Ev td σ H (.ref a)) (h2 : EvU ty σ H (k.map kV)) (ha : H a = some (.dT kvs)) (hv : valV kvs k = some v) : Ev (tDGet td ty) σ H v := fun H1 e Q q =>
  h1 H1 e _ fun H2 e2 => h2 H2 (e.trans e2) _ fun b H3 hb e3 h3 => ⟨a, v, rfl, by rw [← hv]; exact DGet.t (e3 _ _ (e2 _ _ (e _ _ ha))) h3, q H3 (e2.trans e3)⟩
theorem nums_ov {G : Hp} {os : List Nat} {xs : List V} (h : OVs G xs (os.map fun i => O.int (i : Nat))) : xs = nums os := ints_ov h
theorem eu_tupLP {P : List V → Hp → Prop} {ys : List V} (h : EvLP te σ H P) (e0 : ∀ xs G, P xs G → xs = ys) : EvU (tCB (rTupOf K) (tCons te tNil)) σ H ys := fun H1 e Q q =>
  h H1 e _ fun p xs H2 hp e2 h2 hx => ⟨p, xs, rfl, .inl ⟨sq_of h2, fun l hl => q l _ (fresh_back e2 hl) (e2.trans (Ex.new hl)) (by rw [upd_same, e0 _ _ hx])⟩⟩
end
section
variable {P : Program} {w : World} {K : PySem.W.Frag} {mg : Str → Option Value} {base : Heap}
theorem ok_value (T : T17 P w K mg base) : ∀ m, Ok P w K mg base CX0 "_law_c_value" ["_law_world", "_law_word", "_law_giving"] (m + 1) (spVl m)
  | 0 => T.ok 20 rfl sc_vl (fun vs H Q E h => by obtain ⟨wv, u, g, nm, w, z, ρ, rfl, _⟩ := h; rfl) (fun kV doc pm an cdv ct us hl => match us, hl with | [_, _, _], _ => rfl) (fun f cdv A outer s H vs Q E hr h => by obtain ⟨wv, u, g, nm, w, z, ρ, _, _, _, _, _, _, _, h0, _⟩ := h; exact absurd h0 (Nat.not_lt_zero _))
  | m + 1 => by
    obtain ⟨fR, dR, GR, bR, kR, mR⟩ := (ok_value T m).ex
    refine T.ok 20 rfl sc_vl (fun vs H Q E h => ?_) (fun kV doc pm an cdv ct us hl => match us, hl with | [_, _, _], _ => rfl) (fun f cdv A outer s H vs Q E hr h => ?_)
    · obtain ⟨wv, u, g, nm, w, z, ρ, rfl, _⟩ := h
      rfl
    · obtain ⟨wv, u, g, nm, pw, z, ρ, rfl, hwd, hok, hw, hwf, hg, hr', hz, hs, k⟩ := h
      refine ⟨_, pss_cons (ps_if (pt_val (pe_isiB T.isi T.str PyProof.Rows.boot_str (pv 1))) (pss_one (ps_ret (pe_dget (hu_of hr) (pv 2) (pv 1) (fun _ _ => rfl)))) pss_nil)
        (pss_one (ps_ret (pe_dget (hu_of hr) (pe_dget (hu_of hr) (pe_ix ix_tup (pv 0) pe_int (fun _ _ => rfl)) (pe_ix ix_tup (pv 1) pe_int (fun _ _ => rfl)) (fun _ _ => rfl))
          (pe_callTy call_tuple_of (by rfl) T.tuple PyProof.Rows.boot_tuple (pa_cons (pe_lc (own := [("_law_part", 3)]) (g := gName 3) (tt := tYes) (te := tCall (spVl m) [] E0 (tCons (tVar 0) (tCons (tVar 3) (tCons (tVar 2) tNil)))) rfl sc_vl.nd (pi_tup (pe_slice sl_tup (pv 1) (po_some pe_int) po_none)) (blkOk_by (N := nVl) (sc := defScope s__law_c_value) (by decide +kernel))
            (fun _ _ _ _ _ => pg_name (i := 3) sc_vl.nd rfl (Or.inl rfl)) (fun _ _ _ _ _ => pts_nil) (fun _ _ _ _ _ => pe_call GR hr (by rfl) mR kR bR .nil pass0 (pa_cons (pv 0) (pa_cons (pv 3) (pa_cons (pv 2) pa_nil))))) pa_nil)) (fun _ _ => rfl)))), ?_⟩
      cases z with
      | v sv =>
        obtain rfl : u = .str sv := hw
        refine q_when (b := true) (et_B (ev_isStr (o := .str sv) (ev_var rfl) rfl)) (fun _ H1 e1 => ?_) fun z => nomatch z
        obtain ⟨kvs, hk, hval⟩ := (hg.ext e1).ex
        exact ⟨.ref g, rfl, .str sv, rfl, g, _, rfl, .inl ⟨kvs, Sum.inr sv, .inl hk, rfl, (hval sv List.mem_cons_self).symm⟩, k H1 e1⟩
      | n sn as =>
        obtain ⟨r, us, rfl, hr1, hu⟩ := hw.tup
        have hul := hu.length
        have hdp : W.dps as < m := by have : (W.n sn as).dp = W.dps as + 1 := rfl; omega
        have hsz : W.szs as + 2 ≤ 9000 := hs
        have hasl := W.len_szs as
        have hwfs : W.wfs nm.1 as = true := by
          have h : (decide ((sn, as.length) ∈ nm.1) && W.wfs nm.1 as) = true := hwf
          rw [Bool.and_eq_true] at h
          exact h.2
        refine q_when (b := false) (et_B (ev_isStr (o := (W.n sn as).o) (ev_var rfl) hw)) (fun z => nomatch z) fun _ H1 e1 => ?_
        obtain ⟨t, fd, pd, rfl, ht, hfd, hpd⟩ := hwd.ext e1
        obtain ⟨tb, htb1, htb2⟩ := app_def hok hr' hwf
        obtain ⟨kvs, hkv, ha2⟩ := hfd
        obtain ⟨tv, htv, ta, rfl, hta⟩ := kr_get ha2 htb1
        refine s_ret (ev_dgetU (k := rK (W.evs pw ρ as)) (ev_dget (k := Sum.inr sn) (ev_op (z := .ref fd) (ev_var rfl) ev_c (rv_ixT (st_of ht) (atI_nat (j := 1) rfl))) (ev_op (z := .str sn) (ev_var rfl) ev_c (rv_ixT (st_of (e1 _ _ hr1)) (atI_nat (j := 0) rfl))) hkv htv) ?_ hta (v := .int ((W.n sn as).ev pw ρ : Nat)) (by rw [tbl_get, htb2]; rfl)) fun H4 e4 => k H4 (e1.trans e4)
        rw [rK_nums]
        refine eu_tupLP (lcW (fun i => ((as[i]?).map fun y => O.int (y.ev pw ρ : Nat)).getD .non) (eu_tail (ev_var rfl) (st_of (e1 _ _ hr1))) (by omega) (fun _ => rfl) (fun i x G eG hx H5 e5 Q5 q5 => ?_) fun i => ?_) fun xs G h => ?_
        · obtain ⟨y, hy, hwy⟩ := (hu.ext (e1.trans (eG.trans e5))).getv hx
          have h1 := W.lt_dp hy
          have h2' := W.lt_sz hy
          rw [hy] at q5
          have hym := List.mem_of_getElem? hy
          exact ⟨_, rfl, x, rfl, _, rfl, _, x, g, nm, pw, y, ρ, rfl, hwd.ext (e1.trans (eG.trans e5)), hok, hwy, wfs_all hwfs y hym, (hg.ext (e1.trans (eG.trans e5))).sub fun s hs => allvs_mem hym hs, hr', by omega, by omega, fun G5 e6 => q5 _ G5 e6 rfl⟩
        · cases as[i]? with
          | none => exact ⟨rfl, rfl⟩
          | some y => exact ⟨rfl, rfl⟩
        · rw [hul, range_map as (fun y => O.int (y.ev pw ρ : Nat)) .non] at h
          refine ints_ov (G := G) ?_
          rw [evs_map, List.map_map]
          exact h
end
end K17

set_option Elab.async false
set_option linter.all false
set_option maxRecDepth 100000
set_option maxHeartbeats 4000000
/-! _law_c_true, _law_c_some_true, _law_c_holds. -/
namespace K17
open PySem PySem.Spec PyProof.Rows L2 Evl
theorem ints_eqv : ∀ a b : List Nat, PyData.eqvAll (O.pys (a.map fun i => O.int (i : Nat))) (O.pys (b.map fun i => O.int (i : Nat))) = decide (a = b)
  | [], [] => by simp [O.pys, PyData.eqvAll]
  | [], y :: ys => by simp [O.pys, PyData.eqvAll]
  | x :: xs, [] => by simp [O.pys, PyData.eqvAll]
  | x :: xs, y :: ys => by
    have ih := ints_eqv xs ys
    simp only [List.map_cons, O.pys, O.py, PyData.eqvAll, PyData.eqv, ih]
    by_cases h : x = y
    · subst h
      simp
    · have : ¬ ((x : Int) = (y : Int)) := by omega
      simp [h, this]
theorem row_eqv (a b : List Nat) : (rowO a).eqv (rowO b) = decide (a = b) := by
  rw [← ints_eqv a b]
  simp only [rowO, O.eqv, O.py, PyData.eqv]
def NK : List Str := ["not", "all", "some", "and", "or", "then", "iff"]
def Aw (nm : Nms) (z : W) : Prop := ∃ s as, z = .n s as ∧ W.wfs nm.1 as = true ∧ NK.contains s = false ∧ ((s = ("=" : Str) ∧ as.length = 2) ∨ (s ≠ ("=" : Str) ∧ (s, as.length) ∈ nm.2)) 
def tr (w : PW) (ρ : Str → Nat) : W → Bool
  | .n s as => if s = ("=" : Str) then (match W.evs w ρ as with | [a, b] => decide (a = b) | _ => false) else decide (W.evs w ρ as ∈ (alk w.ps s).getD [])
  | .v _ => false
theorem tr_eq {w : PW} {ρ : Str → Nat} {s : Str} {x1 x2 : W} (h : s = ("=" : Str)) : tr w ρ (.n s [x1, x2]) = decide (x1.ev w ρ = x2.ev w ρ) := by
  show (if s = ("=" : Str) then _ else _) = _
  rw [if_pos h]
theorem tr_ne {w : PW} {ρ : Str → Nat} {s : Str} {as : List W} (h : s ≠ ("=" : Str)) : tr w ρ (.n s as) = decide (W.evs w ρ as ∈ (alk w.ps s).getD []) := by
  show (if s = ("=" : Str) then _ else _) = _
  rw [if_neg h]
abbrev nTu : List Str := ["_law_world", "_law_sentence", "_law_giving", "_law_kind", "_law_row", "_law_word", "_law_found", "_law_one", "_law_other", "_law_thing", "_law_part"]
theorem sc_tu : FnScope nTu ["_law_world", "_law_sentence", "_law_giving"] (defScope s__law_c_true) := ⟨rfl, rfl, rfl, by decide +kernel, rfl, by decide +kernel, by decide +kernel⟩
def spTu : Sp := fun vs H Q _ => ∃ (wv u : V) (g : Addr) (nm : Nms) (w : PW) (z : W) (ρ : Str → Nat), vs = [wv, u, .ref g] ∧ WdV H wv w ∧ WOK nm w ∧ WV H u z ∧ Aw nm z ∧ GvV H g z.allv ρ ∧ (∀ s, ρ s < w.n) ∧ z.dp ≤ 8 ∧ z.sz ≤ 200 ∧ RetV (.bl (tr w ρ z)) H Q
section
variable {K : PySem.W.Frag} {H G : Hp} {σ : L2.St} {te ta tb tl : TE} {tt : TT} {vs : List Nat}
theorem kd_ne {s t : Str} (h : NK.contains s = false) (m : NK.contains t = true) : s ≠ t := by
  rintro rfl
  rw [m] at h
  cases h
theorem ev_kd {i : Nat} {s t : Str} (hs : σ[i]? = some (some (.str s))) (h : s ≠ t) : EvT (tTest (tOp rEq (tVar i) (tC (.str t)))) σ H false :=
  et_is (et_test (ev_op (ev_var hs) ev_c (rv_eq rfl))) (decide_eq_false fun z => h (V.str.inj z))
theorem et_inS {i : Nat} {s : Str} {ts : List Str} {ta : TA} (hs : σ[i]? = some (some (.str s))) (ht : EvA ta σ H (ts.map V.str)) (hl : ts.length ≤ 100) (h : ts.contains s = false) : EvT (tTest (tOp (rIn K false) (tVar i) (tTup ta))) σ H false := fun H1 e Q q =>
  ⟨_, hs, ht H1 e _ fun H2 e2 => ⟨sz_of (by rw [List.length_map]; omega), fun p hp => ⟨p, _, rfl, .inr (st_of upd_same), rfl, sVs_flat ts, _, rfl, by
    have e3 : inV (.str s) (ts.map V.str) = false := by rw [show ts.map V.str = sVs ts from rfl, sVs_in]; exact h
    rw [if_neg (by decide), e3]
    exact q _ (e2.trans (Ex.new hp))⟩⟩⟩
end
section
variable {P : Program} {w : World} {K : PySem.W.Frag} {mg : Str → Option Value} {base : Heap}
theorem ok_true (T : T17 P w K mg base) : Ok P w K mg base CX0 "_law_c_true" ["_law_world", "_law_sentence", "_law_giving"] 12 spTu := by
  obtain ⟨fR, dR, GR, bR, kR, mR⟩ := (ok_value T 10).ex
  refine T.ok 21 rfl sc_tu (fun vs H Q E h => ?_) (fun kV doc pm an cdv ct us hl => match us, hl with | [_, _, _], _ => rfl) (fun f cdv A outer s H vs Q E hr h => ?_)
  · obtain ⟨wv, u, g, nm, pw, z, ρ, rfl, _⟩ := h
    rfl
  · obtain ⟨wv, u, g, nm, pw, z, ρ, rfl, hwd, hok, hw, haw, hg, hr', hz, hs, k⟩ := h
    refine ⟨_, pss_cons (ps_set (i := 3) sc_tu.nd rfl (Or.inl rfl) (pe_ix ix_tup (pv 1) pe_int (fun _ _ => rfl)))
      (pss_cons (ps_if (pt_cmpR op_eq (pv 3) pe_str (nomark _)) (pss_one ps_never) pss_nil)
      (pss_cons (ps_if (pt_cmpR op_in_seq (pv 3) (pe_tup (pa_cons pe_str (pa_cons pe_str pa_nil))) (by rfl)) (pss_cons ps_never (pss_one ps_never)) pss_nil)
      (pss_cons (ps_if (pt_cmpR op_in_seq (pv 3) (pe_tup (pa_cons pe_str (pa_cons pe_str (pa_cons pe_str (pa_cons pe_str pa_nil))))) (by rfl)) (pss_cons ps_never (pss_one ps_never)) pss_nil)
      (pss_cons (ps_set (i := 4) sc_tu.nd rfl (Or.inl rfl) (pe_callTy call_tuple_of (by rfl) T.tuple PyProof.Rows.boot_tuple (pa_cons (pe_lc (own := [("_law_word", 5)]) (g := gName 5) (tt := tYes) (te := tCall (spVl 10) [] E0 (tCons (tVar 0) (tCons (tVar 5) (tCons (tVar 2) tNil)))) rfl sc_tu.nd (pi_tup (pe_slice sl_tup (pv 1) (po_some pe_int) po_none)) (blkOk_by (N := nTu) (sc := defScope s__law_c_true) (by decide +kernel))
            (fun _ _ _ _ _ => pg_name (i := 5) sc_tu.nd rfl (Or.inl rfl)) (fun _ _ _ _ _ => pts_nil) (fun _ _ _ _ _ => pe_call GR (hr.mono (by decide)) (by rfl) mR kR bR .nil pass0 (pa_cons (pv 0) (pa_cons (pv 5) (pa_cons (pv 2) pa_nil))))) pa_nil)))
      (pss_one (ps_ret (pe_ifExp (pt_cmpR op_eq (pv 3) pe_str (nomark _)) (pe_cmpR op_eq (pe_ix ix_tup (pv 4) pe_int (fun _ _ => rfl)) (pe_ix ix_tup (pv 4) pe_int (fun _ _ => rfl)) (nomark _))
        (pe_cmpR (op_inD (u65 hr)) (pv 4) (pe_dget (hu_of hr) (pe_ix ix_tup (pv 0) pe_int (fun _ _ => rfl)) (pv 3) (fun _ _ => rfl)) (by rfl))))))))), ?_⟩
    obtain ⟨sn, as, rfl, hwfs, hkd, hor⟩ := haw
    obtain ⟨r, us, rfl, hr1, hu⟩ := hw.tup
    have hul := hu.length
    have hdp : W.dps as + 1 ≤ 8 := hz
    have hsz : W.szs as + 2 ≤ 200 := hs
    have hasl := W.len_szs as
    refine q_asg (ev_op (z := .str sn) (ev_var rfl) ev_c (rv_ixT (st_of hr1) (atI_nat (j := 0) rfl))) fun H1 e1 => ?_
    refine q_when (b := false) (ev_kd rfl (kd_ne hkd (by decide +kernel))) (fun z => nomatch z) fun _ H2 e2 => ?_
    refine q_when (b := false) (et_inS (i := 3) (s := sn) (ts := ["all", "some"]) rfl (ea_cons ev_c (ea_cons ev_c ea_nil)) (by decide) ?_) (fun z => nomatch z) fun _ H3 e3 => ?_
    · simp only [List.contains_cons, List.contains_nil, Bool.or_false, Bool.or_eq_false_iff, beq_eq_false_iff_ne]
      exact ⟨kd_ne hkd (by decide +kernel), kd_ne hkd (by decide +kernel)⟩
    refine q_when (b := false) (et_inS (i := 3) (s := sn) (ts := ["and", "or", "then", "iff"]) rfl (ea_cons ev_c (ea_cons ev_c (ea_cons ev_c (ea_cons ev_c ea_nil)))) (by decide) ?_) (fun z => nomatch z) fun _ H4 e4 => ?_
    · simp only [List.contains_cons, List.contains_nil, Bool.or_false, Bool.or_eq_false_iff, beq_eq_false_iff_ne]
      exact ⟨kd_ne hkd (by decide +kernel), kd_ne hkd (by decide +kernel), kd_ne hkd (by decide +kernel), kd_ne hkd (by decide +kernel)⟩
    have e14 := ((e1.trans e2).trans e3).trans e4
    refine q_asgU (xs := nums (W.evs pw ρ as)) (eu_tupLP (lcW (fun i => ((as[i]?).map fun y => O.int (y.ev pw ρ : Nat)).getD .non) (eu_tail (ev_var rfl) (st_of (e14 _ _ hr1))) (by omega) (fun _ => rfl) (fun i x G eG hx H5 e5 Q5 q5 => ?_) fun i => ?_) fun xs G h => ?_) fun c G hc eG hcv => ?_
    · obtain ⟨y, hy, hwy⟩ := (hu.ext (e14.trans (eG.trans e5))).getv hx
      have h1 := W.lt_dp hy
      have h2' := W.lt_sz hy
      rw [hy] at q5
      have hym := List.mem_of_getElem? hy
      exact ⟨_, rfl, x, rfl, _, rfl, _, x, g, nm, pw, y, ρ, rfl, hwd.ext (e14.trans (eG.trans e5)), hok, hwy, wfs_all hwfs y hym, (hg.ext (e14.trans (eG.trans e5))).sub fun s hs => allvs_mem hym hs, hr', by omega, by omega, fun G5 e6 => q5 _ G5 e6 rfl⟩
    · cases as[i]? with
      | none => exact ⟨rfl, rfl⟩
      | some y => exact ⟨rfl, rfl⟩
    · rw [hul, range_map as (fun y => O.int (y.ev pw ρ : Nat)) .non] at h
      refine ints_ov (G := G) ?_
      rw [evs_map, List.map_map]
      exact h
    have eall := e14.trans eG
    obtain ⟨t, fd, pd, rfl, ht, hfd, hpd⟩ := hwd.ext eall
    refine s_ret (v := .bl (tr pw ρ (.n sn as))) (ev_if (b := decide (sn = ("=" : Str))) (et_is (et_test (ev_op (ev_var rfl) ev_c (rv_eq rfl))) ?_) (fun hb => ?_) fun hb => ?_) fun H5 e5 => k H5 (eall.trans e5)
    · by_cases q : sn = ("=" : Str)
      · rw [decide_eq_true q, decide_eq_true (by rw [q])]
      · rw [decide_eq_false q, decide_eq_false (fun z => q (V.str.inj z))]
    · have hse := of_decide_eq_true hb
      have hl2 : as.length = 2 := by
        rcases hor with ⟨_, h⟩ | ⟨h, _⟩
        · exact h
        · exact absurd hse h
      match as, hl2 with
      | [x1, x2], _ =>
      refine ev_is (ev_op (ev_op (z := .int (x1.ev pw ρ : Nat)) (ev_var rfl) ev_c (rv_ixT (st_of hcv) (atI_nat (j := 0) rfl))) (ev_op (z := .int (x2.ev pw ρ : Nat)) (ev_var rfl) ev_c (rv_ixT (st_of hcv) (atI_nat (j := 1) rfl))) (rv_eq rfl)) (congrArg V.bl ?_)
      rw [tr_eq hse]
      show decide (V.int (x1.ev pw ρ : Nat) = V.int (x2.ev pw ρ : Nat)) = decide (x1.ev pw ρ = x2.ev pw ρ)
      by_cases q : x1.ev pw ρ = x2.ev pw ρ
      · rw [decide_eq_true q, decide_eq_true (by rw [q])]
      · rw [decide_eq_false q, decide_eq_false (fun z => q (by have := V.int.inj z; omega))]
    · have hse := of_decide_eq_false hb
      have hmem : (sn, as.length) ∈ nm.2 := by
        rcases hor with ⟨h, _⟩ | ⟨_, h⟩
        · exact absurd h hse
        · exact h
      obtain ⟨rs, hrs⟩ := hok.p _ hmem
      have hrs : alk pw.ps sn = some rs := hrs
      obtain ⟨kvs, hkv, ha2⟩ := hpd
      obtain ⟨tv, htv, ta, rus, rfl, hta, hov⟩ := kr_get ha2 hrs
      refine ev_is (ev_op (z := .bl ((rs.map rowO).any fun o => o.eqv (rowO (W.evs pw ρ as)))) (ev_var rfl) (ev_dget (k := Sum.inr sn) (ev_op (z := .ref pd) (ev_var rfl) ev_c (rv_ixT (st_of ht) (atI_nat (j := 2) rfl))) (ev_var rfl) hkv htv) (rv_inO (row_of hcv) hta hov (row_ed _) (eds_all.mpr fun o ho => by obtain ⟨r, _, rfl⟩ := List.mem_map.mp ho; exact row_ed r) (by have := row_dp (W.evs pw ρ as); omega) (Nat.le_trans (dps_all.mpr fun o ho => by obtain ⟨r, _, rfl⟩ := List.mem_map.mp ho; exact row_dp r) (by decide)))) (congrArg V.bl ?_)
      rw [any_map row_eqv]
      rw [tr_ne hse, hrs]
      exact decide_eq_decide.mpr Iff.rfl
theorem s_dummy : True := trivial
end
def ρr (names : List Str) (r : List Nat) (s : Str) : Nat := (((names.zip r).find? fun p => decide (p.1 = s)).map (·.2)).getD 0
def satL (w : PW) (ρ : Str → Nat) (ls : List Lit) : Bool := ls.any fun l => decide (tr w ρ l.2 = l.1)
def hold (w : PW) (ls : List Lit) : Bool := (rowsL w.n (lvars ls).length).all fun r => satL w (ρr (lvars ls) r) ls
abbrev nSo : List Str := ["_law_world", "_law_literals", "_law_giving", "_law_is_so", "_law_atom"]
theorem sc_so : FnScope nSo ["_law_world", "_law_literals", "_law_giving"] (defScope s__law_c_some_true) := ⟨rfl, rfl, rfl, by decide +kernel, rfl, by decide +kernel, by decide +kernel⟩
def spSo : Sp := fun vs H Q _ => ∃ (wv : V) (a g : Addr) (us : List V) (nm : Nms) (w : PW) (ls : List Lit) (ρ : Str → Nat), vs = [wv, .ref a, .ref g] ∧ WdV H wv w ∧ WOK nm w ∧ H a = some (.lst us) ∧ OVs H us (ls.map litO) ∧ Lgs ls ∧ ls.length ≤ 40 ∧ (∀ l ∈ ls, Aw nm l.2) ∧ GvV H g (W.allvs (ls.map (·.2))) ρ ∧ (∀ s, ρ s < w.n) ∧ RetV (.bl (satL w ρ ls)) H Q
abbrev nHo : List Str := ["_law_world", "_law_literals", "_law_names", "_law_rows", "_law_row"]
theorem sc_ho : FnScope nHo ["_law_world", "_law_literals"] (defScope s__law_c_holds) := ⟨rfl, rfl, rfl, by decide +kernel, rfl, by decide +kernel, by decide +kernel⟩
def spHo : Sp := fun vs H Q _ => ∃ (wv : V) (a : Addr) (us : List V) (nm : Nms) (w : PW) (ls : List Lit), vs = [wv, .ref a] ∧ WdV H wv w ∧ WOK nm w ∧ H a = some (.lst us) ∧ OVs H us (ls.map litO) ∧ Lgs ls ∧ ls.length ≤ 40 ∧ (∀ l ∈ ls, Aw nm l.2) ∧ (lvars ls).length ≤ 4 ∧ RetV (.bl (hold w ls)) H Q
theorem eo_sub : ∀ (xs acc : List Str) (s : Str), s ∈ eo acc xs ↔ s ∈ acc ∨ s ∈ xs
  | [], acc, s => by show s ∈ acc ↔ _; simp
  | x :: xs, acc, s => by
    show s ∈ eo (if acc.contains x then acc else acc ++ [x]) xs ↔ _
    rw [eo_sub]
    by_cases c : acc.contains x = true
    · rw [if_pos c]
      constructor
      · rintro (h | h)
        · exact .inl h
        · exact .inr (List.mem_cons_of_mem _ h)
      · rintro (h | h)
        · exact .inl h
        · rcases List.mem_cons.mp h with rfl | h
          · exact .inl (List.contains_iff_mem.mp c)
          · exact .inr h
    · rw [if_neg c]
      simp [or_assoc]
theorem lvars_mem {ls : List Lit} {s : Str} : s ∈ lvars ls ↔ s ∈ W.allvs (ls.map (·.2)) := by
  rw [lvars_all, eo_sub]
  simp
section
variable {K : PySem.W.Frag} {H G : Hp} {σ : L2.St} {te ta tb tl : TE} {tt : TT} {vs : List Nat}
/-- a comprehension over a list that is there -/
theorem lcG {α : Type} {ls : List α} {f g : α → O} {a : Addr} {us : List V} {j : Nat} (h : Ev tl σ H (.ref a)) (hx : H a = some (.lst us)) (hov : OVs H us (ls.map f)) (hl : ls.length ≤ 30000) (hw : ∀ x, wipe ((wipe σ vs).set j (some x)) vs = wipe σ vs)
    (he : ∀ l x G, l ∈ ls → Ex H G → OV G x (f l) → EvO te ((wipe σ vs).set j (some x)) G (g l)) (hp : ∀ l ∈ ls, (g l).hasL = false ∧ (g l).nod = true) : EvLP (tLc (iList K tl) (gName j) tYes te vs) σ H (fun xs G => OVs G xs (ls.map g)) := fun H1 e Q q =>
  h H1 e _ fun H2 e2 => ⟨a, rfl, ⟨us, sq_of (e2 _ _ (e _ _ hx))⟩, fun Dl hD => by
    have hul : us.length = ls.length := by rw [hov.length, List.length_map]
    refine lc_list (xs := us) (Cwp H2 (fun i => ((ls[i]?).map fun _ => true).getD false) (fun i v G => ∃ l, ls[i]? = some l ∧ OV G v (g l)) Dl) (cwp0 hD) (fun i G _ p => sq_of (p.2.1 _ _ (e2 _ _ (e _ _ hx)))) (fun i x G hx' p => ?_) (fun G p => ?_)
    · have eG := (e.trans e2).trans p.2.1
      obtain ⟨o, ho, hxo⟩ := (hov.ext eG).get hx'
      rw [List.getElem?_map] at ho
      obtain ⟨l, hl', rfl⟩ := Option.map_eq_some_iff.mp ho
      have hm := List.mem_of_getElem? hl'
      have hi := (List.getElem?_eq_some_iff.mp hl').1
      refine ⟨hw _, cwp_turn (fun i v => ?_) p (Ex.refl _) (by omega) ?_ (fun hf G3 g3 => ?_)⟩
      · intro A B xs hA eA eB kp ⟨l, hl, ov⟩
        obtain ⟨p1, p2⟩ := hp l (List.mem_of_getElem? hl)
        exact ⟨l, hl, upd_ov p1 p2 A B xs hA eA eB kp ov⟩
      · rw [hl']
        exact et_yes
      · exact fun G4 g4 Q4 q4 => he l x G hm eG hxo G4 (g3.trans g4) Q4 fun v G5 g5 ov => q4 v G5 g5 ⟨l, hl', ov⟩
    · obtain ⟨p1, p2, acc, p3, p4, p5⟩ := p
      refine q Dl acc G (fresh_back e2 p1) (e2.trans p2) p3 ?_
      have := a2_ovs (f := fun _ => true) us.length acc (by omega) p5
      rw [hul, List.take_length, List.filter_eq_self.mpr fun _ _ => rfl] at this
      exact this⟩
theorem bls_of {α : Type} {f : α → Bool} {G : Hp} : ∀ {ls : List α} {xs : List V}, OVs G xs (ls.map fun l => O.bl (f l)) → xs = (ls.map f).map V.bl
  | [], xs, h => h
  | l :: ls, xs, ⟨x, us, e, hx, hu⟩ => by
    rw [e, bls_of hu, show x = V.bl (f l) from hx]
    rfl
theorem ev_allLP {α : Type} {ls : List α} {f : α → Bool} (h : EvLP te σ H (fun xs G => OVs G xs (ls.map fun l => O.bl (f l)))) : Ev (tCB (rAll K) (tCons te tNil)) σ H (.bl (ls.all f)) := fun H1 e Q q =>
  h H1 e _ fun p xs H2 hp e2 h2 hx => ⟨p, ls.map f, rfl, by rw [bls_of hx] at h2; exact sq_of h2, by
    rw [List.all_map]
    exact q H2 e2⟩
end
section
variable {P : Program} {w : World} {K : PySem.W.Frag} {mg : Str → Option Value} {base : Heap}
theorem ok_some (T : T17 P w K mg base) : Ok P w K mg base CX0 "_law_c_some_true" ["_law_world", "_law_literals", "_law_giving"] 13 spSo := by
  obtain ⟨fR, dR, GR, bR, kR, mR⟩ := (ok_true T).ex
  refine T.ok 23 rfl sc_so (fun vs H Q E h => ?_) (fun kV doc pm an cdv ct us hl => match us, hl with | [_, _, _], _ => rfl) (fun f cdv A outer s H vs Q E hr h => ?_)
  · obtain ⟨wv, a, g, us, nm, pw, ls, ρ, rfl, _⟩ := h
    rfl
  · obtain ⟨wv, a, g, us, nm, pw, ls, ρ, rfl, hwd, hok, ha, hov, hlg, hlen, haw, hg, hr', k⟩ := h
    refine ⟨_, pss_one (ps_ret (pe_callB (cr_any rfl) (by rfl) T.any (by decide +kernel) (pa_cons
        (pe_lc (own := [("_law_is_so", 3), ("_law_atom", 4)]) (g := gPair K 3 4) (tt := tYes) (te := tOp rEq (tCall spTu [] E0 (tCons (tVar 0) (tCons (tVar 4) (tCons (tVar 2) tNil)))) (tVar 3)) rfl sc_so.nd (pi_list (pv 1)) (blkOk_by (N := nSo) (sc := defScope s__law_c_some_true) (by decide +kernel))
          (fun _ _ _ _ _ => pg_tup rfl (pgs_cons (pg_name (i := 3) sc_so.nd rfl (Or.inl rfl)) (pgs_cons (pg_name (i := 4) sc_so.nd rfl (Or.inl rfl)) pgs_nil))) (fun _ _ _ _ _ => pts_nil)
          (fun _ _ _ _ _ => pe_cmpR op_eq (pe_call GR (hr.mono (by decide)) (by rfl) mR kR bR .nil pass0 (pa_cons (pv 0) (pa_cons (pv 4) (pa_cons (pv 2) pa_nil)))) (pv 3) (nomark _))) pa_nil))), ?_⟩
    have h := lcO (K := K) (tl := tVar 1) (σ := [some wv, some (.ref a), some (.ref g), none, none]) (vs := [3, 4]) (j1 := 3) (j2 := 4) (tt := tYes) (te := tOp rEq (tCall spTu [] E0 (tCons (tVar 0) (tCons (tVar 4) (tCons (tVar 2) tNil)))) (tVar 3)) (fun _ => true) (fun l => O.bl (decide (tr pw ρ l.2 = l.1))) (ev_var rfl) ha hov (by omega) (fun _ _ => rfl) (fun l y G2 hl e2 hy => et_yes) (fun l y G2 hl e2 hy _ => eo_of (ev_is (ev_op (ev_call (z := .bl (tr pw ρ l.2)) (ea_cons (ev_var rfl) (ea_cons (ev_var rfl) (ea_cons (ev_var rfl) ea_nil))) fun H1 e Q q E => ⟨wv, y, g, nm, pw, l.2, ρ, rfl, hwd.ext (e2.trans e), hok, hy.ext e, haw l hl, (hg.ext (e2.trans e)).sub fun s hs => allvs_mem (List.mem_map.mpr ⟨l, hl, rfl⟩) hs, hr', (hlg l hl).dp, (hlg l hl).sz, q⟩) (ev_var rfl) (rv_eq rfl)) (congrArg V.bl (decide_eq_decide.mpr ⟨fun z => V.bl.inj z, fun z => congrArg V.bl z⟩))) rfl) fun l _ => ⟨rfl, rfl⟩
    rw [List.filter_eq_self.mpr (fun _ _ => rfl)] at h
    exact s_ret (ev_anyLP (ls := ls) (f := fun l => decide (tr pw ρ l.2 = l.1)) h) fun H5 e5 => k H5 e5
end
end K17

set_option Elab.async false
set_option linter.all false
set_option maxRecDepth 100000
set_option maxHeartbeats 4000000
/-! _law_c_holds. -/
namespace K17
open PySem PySem.Spec PyProof.Rows L2 Evl
def zKV : List Str → List Nat → List (Key × V)
  | s :: ss, i :: r => (.inr s, .int (i : Nat)) :: zKV ss r
  | _, _ => []
theorem zKV_keys : ∀ {ss : List Str} {r : List Nat}, r.length = ss.length → (zKV ss r).map (fun p => kV p.1) = sVs ss ∧ (zKV ss r).map (·.2) = nums r ∧ (zKV ss r).map (·.1) = ss.map fun s => (Sum.inr s : Key)
  | [], [], _ => ⟨rfl, rfl, rfl⟩
  | s :: ss, i :: r, h => by
    obtain ⟨a, b, c⟩ := zKV_keys (ss := ss) (r := r) (by simpa using h)
    refine ⟨?_, ?_, ?_⟩
    · show V.str s :: (zKV ss r).map (fun p => kV p.1) = V.str s :: sVs ss
      rw [a]
    · show V.int i :: (zKV ss r).map (·.2) = V.int i :: nums r
      rw [b]
    · show Sum.inr s :: (zKV ss r).map (·.1) = Sum.inr s :: _
      rw [c]
theorem zKV_get (s : Str) : ∀ {ss : List Str} {r : List Nat}, r.length = ss.length → s ∈ ss → valV (zKV ss r) (Sum.inr s : Key) = some (.int (ρr ss r s : Nat))
  | t :: ss, i :: r, h, hs => by
    show ((((Sum.inr t, V.int i) :: zKV ss r).find? fun kv => decide (kv.1 = Sum.inr s)).map (·.2)) = some (V.int (((((t, i) :: ss.zip r).find? fun p => decide (p.1 = s)).map (·.2)).getD 0 : Nat))
    rw [List.find?_cons, List.find?_cons]
    by_cases e : t = s
    · rw [decide_eq_true (show ((Sum.inr t : Key), V.int i).1 = Sum.inr s by rw [e]), decide_eq_true (show (t, i).1 = s from e)]
      rfl
    · rw [decide_eq_false (show ¬((Sum.inr t : Key), V.int i).1 = Sum.inr s from fun z => e (Sum.inr.inj z)), decide_eq_false (show ¬(t, i).1 = s from e)]
      rcases List.mem_cons.mp hs with rfl | hs
      · exact absurd rfl e
      · exact zKV_get s (by simpa using h) hs
theorem hu3_of {k : Nat} {A : Around} (r : Room k A) : A.units + 3 < cLine := by
  have := r.un
  omega
theorem ρr_lt {n : Nat} (hn : 1 ≤ n) (ss : List Str) : ∀ {r : List Nat}, (∀ x ∈ r, x < n) → ∀ s, ρr ss r s < n := by
  intro r hr s
  unfold ρr
  cases h : (ss.zip r).find? fun p => decide (p.1 = s) with
  | none => exact hn
  | some p =>
    have := List.mem_of_find?_eq_some h
    exact hr _ (List.of_mem_zip this).2
section
variable {P : Program} {w : World} {K : PySem.W.Frag} {mg : Str → Option Value} {base : Heap}
theorem ok_holds (T : T17 P w K mg base) : Ok P w K mg base CX0 "_law_c_holds" ["_law_world", "_law_literals"] 22 spHo := by
  obtain ⟨fR, dR, GR, bR, kR, mR⟩ := (ok_some T).ex
  obtain ⟨fV, dV, GV, bV, kV', mV⟩ := (ok_cvars T).ex
  obtain ⟨fW, dW, GW, bW, kW, mW⟩ := (ok_rows T).ex
  refine T.ok 24 rfl sc_ho (fun vs H Q E h => ?_) (fun kV doc pm an cdv ct us hl => match us, hl with | [_, _], _ => rfl) (fun f cdv A outer s H vs Q E hr h => ?_)
  · obtain ⟨wv, a, us, nm, pw, ls, rfl, _⟩ := h
    rfl
  · obtain ⟨wv, a, us, nm, pw, ls, rfl, hwd, hok, ha, hov, hlg, hlen, haw, hvl, k⟩ := h
    refine ⟨_, pss_cons (ps_set (i := 2) sc_ho.nd rfl (Or.inr rfl) (pe_call GV (hr.mono (by decide)) (by rfl) mV kV' bV .nil pass0 (pa_cons (pv 1) pa_nil)))
      (pss_cons (ps_set (i := 3) sc_ho.nd rfl (Or.inl rfl) (pe_call GW (hr.mono (by decide)) (by rfl) mW kW bW .nil pass0 (pa_cons (pe_ix ix_tup (pv 0) pe_int (fun _ _ => rfl)) (pa_cons (pe_callB call_len (by rfl) T.len PySem.boot_len (pa_cons (pv 2) pa_nil)) pa_nil))))
      (pss_one (ps_ret (pe_callB (cr_all rfl) (by rfl) T.all (by decide +kernel) (pa_cons
        (pe_lc (own := [("_law_row", 4)]) (g := gName 4) (tt := tYes) (te := tCall spSo [] E0 (tCons (tVar 0) (tCons (tVar 1) (tCons (tCB (rDZ K) (tCons (tVar 2) (tCons (tVar 4) tNil))) tNil)))) rfl sc_ho.nd (pi_list (pv 3)) (blkOk_by (N := nHo) (sc := defScope s__law_c_holds) (by decide +kernel))
          (fun _ _ _ _ _ => pg_name (i := 4) sc_ho.nd rfl (Or.inl rfl)) (fun _ _ _ _ _ => pts_nil)
          (fun _ _ _ _ _ => pe_call GR (hr.mono (by decide)) (by rfl) mR kR bR .nil pass0 (pa_cons (pv 0) (pa_cons (pv 1) (pa_cons (pe_dictZip rfl (hu3_of hr) (by rfl) T.dict (by rfl) T.zip (pa_cons (pv 2) (pa_cons (pv 4) pa_nil))) pa_nil))))) pa_nil))))), ?_⟩
    refine q_asgL (xs := sVs (lvars ls)) (fun H1 e Q q => ⟨.ref a, rfl, a, us, ls, rfl, e _ _ ha, hov.ext e, hlg, hlen, q⟩) fun p H1 hp e1 h1 => ?_
    obtain ⟨t, fd, pd, rfl, ht, hfd, hpd⟩ := hwd
    have hwd : WdV H (.ref t) pw := ⟨t, fd, pd, rfl, ht, hfd, hpd⟩
    refine q_asgLP (P := fun xs G => OVs G xs ((rowsL pw.n (lvars ls).length).map rowO)) (fun H2 e2 Q q => ⟨.ref t, rfl, t, _, 0, .int (pw.n : Nat), rfl, rfl, st_of (e2 _ _ (e1 _ _ ht)), atI_nat (j := 0) rfl, _, rfl, _, (sVs (lvars ls)).length, rfl, .inl ⟨_, sq_of (e2 _ _ h1), rfl⟩, pw.n, (lvars ls).length, by rw [sVs_len]; rfl, hok.n1, hok.n3, by omega, q⟩) fun rw_ rus H2 hrw e2 h2 hrv => ?_
    have e12 := e1.trans e2
    have hr4 := rowsL_len pw.n hok.n3 (lvars ls).length (by omega)
    refine s_ret (ev_allLP (ls := rowsL pw.n (lvars ls).length) (f := fun r => satL pw (ρr (lvars ls) r) ls) (lcG (f := rowO) (g := fun r => O.bl (satL pw (ρr (lvars ls) r) ls)) (ev_var rfl) h2 hrv (by omega) (fun _ => rfl) (fun r x G hrm eG hx => ?_) fun r _ => ⟨rfl, rfl⟩)) fun H5 e5 => k H5 (e12.trans e5)
    obtain ⟨hrl, hrx⟩ := rowsL_ok pw.n hok.n3 (lvars ls).length (by omega) r hrm
    obtain ⟨z1, z2, z3⟩ := zKV_keys (ss := lvars ls) (r := r) hrl
    obtain ⟨t2, rfl, ht2⟩ := row_at hx
    refine fun H6 e6 Q6 q6 => ⟨_, rfl, _, rfl, _, rfl, .ref t2, rfl, p, t2, sVs (lvars ls), nums r, rfl, sq_of (e6 _ _ (eG _ _ (e2 _ _ h1))), st_of (e6 _ _ ht2), .inl ⟨zKV (lvars ls) r, z1.symm, z2.symm, fun d hd => ?_⟩⟩
    have e7 : Ex H6 (upd H6 d (.dK (mergeK [] (zKV (lvars ls) r)))) := Ex.new hd
    have ea := ((e12.trans eG).trans e6).trans e7
    refine ⟨.ref t, a, d, us, nm, pw, ls, ρr (lvars ls) r, rfl, hwd.ext ea, hok, ea _ _ ha, hov.ext ea, hlg, hlen, haw, ⟨⟨_, upd_same, fun s hs => ?_⟩⟩, ρr_lt hok.n1 _ hrx, fun H8 e8 => q6 _ H8 (e7.trans e8) rfl⟩
    rw [mergeK_new (acc := []) (kvs := zKV (lvars ls) r) (by rw [List.nil_append, z3]; exact nd_map (fun a b e => Sum.inr.inj e) (lvars_nodup ls)), List.nil_append]
    exact zKV_get s hrl (lvars_mem.mpr hs)
end
end K17

set_option Elab.async false
set_option linter.all false
set_option maxRecDepth 100000
set_option maxHeartbeats 4000000
/-! What holds of clauses: trimmed, told. -/
namespace K17
open PySem PySem.Spec PyProof.Rows L2 Evl
mutual
theorem ev_congr {w : PW} {ρ τ : Str → Nat} : ∀ z : W, (∀ s ∈ z.allv, ρ s = τ s) → z.ev w ρ = z.ev w τ
  | .v s, h => h s List.mem_cons_self
  | .n s as, h => by
    show ((alk w.fs s).bind fun t => tlk t (W.evs w ρ as)).getD 0 = ((alk w.fs s).bind fun t => tlk t (W.evs w τ as)).getD 0
    rw [evs_congr as h]
theorem evs_congr {w : PW} {ρ τ : Str → Nat} : ∀ zs : List W, (∀ s ∈ W.allvs zs, ρ s = τ s) → W.evs w ρ zs = W.evs w τ zs
  | [], _ => rfl
  | z :: zs, h => by
    show z.ev w ρ :: W.evs w ρ zs = z.ev w τ :: W.evs w τ zs
    rw [ev_congr z fun s hs => h s (List.mem_append_left _ hs), evs_congr zs fun s hs => h s (List.mem_append_right _ hs)]
end
theorem tr_congr {w : PW} {ρ τ : Str → Nat} {z : W} (h : ∀ s ∈ z.allv, ρ s = τ s) : tr w ρ z = tr w τ z := by
  cases z with
  | v s => rfl
  | n s as =>
    unfold tr
    dsimp only
    rw [evs_congr as h]
theorem satL_congr {w : PW} {ρ τ : Str → Nat} {ls : List Lit} (h : ∀ s ∈ W.allvs (ls.map (·.2)), ρ s = τ s) : satL w ρ ls = satL w τ ls := by
  unfold satL
  induction ls with
  | nil => rfl
  | cons l ls ih =>
    rw [List.any_cons, List.any_cons, tr_congr (τ := τ) (z := l.2) fun s hs => h s (List.mem_append_left _ hs), ih fun s hs => h s (List.mem_append_right _ hs)]
def sem (w : PW) (ls : List Lit) : Prop := ∀ ρ : Str → Nat, (∀ s, ρ s < w.n) → satL w ρ ls = true
theorem ρr_map (ρ : Str → Nat) (s : Str) : ∀ ss : List Str, s ∈ ss → ρr ss (ss.map ρ) s = ρ s
  | t :: ss, hs => by
    show (((((t, ρ t) :: ss.zip (ss.map ρ)).find? fun p => decide (p.1 = s)).map (·.2)).getD 0) = ρ s
    rw [List.find?_cons]
    by_cases e : t = s
    · rw [decide_eq_true (show (t, ρ t).1 = s from e)]
      subst e
      rfl
    · rw [decide_eq_false (show ¬(t, ρ t).1 = s from e)]
      rcases List.mem_cons.mp hs with rfl | hs
      · exact absurd rfl e
      · exact ρr_map ρ s ss hs
theorem hold_iff {w : PW} {ls : List Lit} (h1 : 1 ≤ w.n) (h3 : w.n < 4) (hl : (lvars ls).length ≤ 4) : hold w ls = true ↔ sem w ls := by
  unfold hold
  rw [List.all_eq_true]
  constructor
  · intro h ρ hρ
    have := h ((lvars ls).map ρ) (rowsL_all h1 _ _ (by rw [List.length_map]) fun x hx => by obtain ⟨s, _, rfl⟩ := List.mem_map.mp hx; exact hρ s)
    rw [← this]
    exact satL_congr fun s hs => (ρr_map ρ s _ (lvars_mem.mpr hs)).symm
  · exact fun h r hr => h _ (ρr_lt h1 _ (rowsL_ok w.n h3 _ (by omega) r hr).2)
theorem bool_of_iff {a b : Bool} (h : a = true ↔ b = true) : a = b := by cases a <;> cases b <;> simp_all
theorem satL_mem {w : PW} {ρ : Str → Nat} {ls ms : List Lit} (h : ∀ l, l ∈ ls ↔ l ∈ ms) : satL w ρ ls = satL w ρ ms := by
  refine bool_of_iff ?_
  unfold satL
  rw [List.any_eq_true, List.any_eq_true]
  exact ⟨fun ⟨l, a, b⟩ => ⟨l, (h l).mp a, b⟩, fun ⟨l, a, b⟩ => ⟨l, (h l).mpr a, b⟩⟩
theorem dd_iff {ls : List Lit} (l : Lit) : l ∈ dd [] ls ↔ l ∈ ls := by
  rw [dd_mem]
  simp
theorem satL_dd {w : PW} {ρ : Str → Nat} (ls : List Lit) : satL w ρ (dd [] ls) = satL w ρ ls := satL_mem dd_iff
theorem tr_same {w : PW} {ρ : Str → Nat} {z : W} (h : same z = true) : tr w ρ z = true := by
  match z, h with
  | .n s as, h =>
    have h : (decide (s = ("=" : Str)) && same2 as) = true := h
    rw [Bool.and_eq_true] at h
    match as, h with
    | [a, b], h =>
      obtain rfl : a = b := of_decide_eq_true h.2
      rw [tr_eq (of_decide_eq_true h.1)]
      exact decide_eq_true rfl
theorem sat_alw {w : PW} {ρ : Str → Nat} {ls : List Lit} (h : alw ls = true) : satL w ρ ls = true := by
  obtain ⟨l, hl, hb⟩ := List.any_eq_true.mp h
  unfold bad at hb
  rw [Bool.or_eq_true, Bool.and_eq_true] at hb
  unfold satL
  rw [List.any_eq_true]
  rcases hb with hb | ⟨h1, h2⟩
  · have hm := of_decide_eq_true hb
    cases ht : tr w ρ l.2 with
    | true =>
      cases h1 : l.1 with
      | true => exact ⟨l, hl, by rw [ht, h1]; rfl⟩
      | false => exact ⟨_, hm, by show decide (tr w ρ l.2 = !l.1) = true; rw [ht, h1]; rfl⟩
    | false =>
      cases h1 : l.1 with
      | false => exact ⟨l, hl, by rw [ht, h1]; rfl⟩
      | true => exact ⟨_, hm, by show decide (tr w ρ l.2 = !l.1) = true; rw [ht, h1]; rfl⟩
  · exact ⟨l, hl, by rw [tr_same h2, h1]; rfl⟩
theorem sat_keep {w : PW} {ρ : Str → Nat} {ls : List Lit} (h : alw ls = false) : satL w ρ (ls.filter fun l => !same l.2) = satL w ρ ls := by
  refine bool_of_iff ?_
  unfold satL
  rw [List.any_eq_true, List.any_eq_true]
  constructor
  · rintro ⟨l, hl, e⟩
    exact ⟨l, (List.mem_filter.mp hl).1, e⟩
  · rintro ⟨l, hl, e⟩
    refine ⟨l, List.mem_filter.mpr ⟨hl, ?_⟩, e⟩
    cases hs : same l.2 with
    | false => rfl
    | true =>
      exfalso
      have e := of_decide_eq_true e
      rw [tr_same hs] at e
      have : alw ls = true := List.any_eq_true.mpr ⟨l, hl, by unfold bad; rw [hs, ← e]; simp⟩
      rw [this] at h
      cases h
theorem trim_sem {w : PW} {ls ms : List Lit} (h : trimL ls = some ms) : sem w ms ↔ sem w ls := by
  unfold trimL at h
  cases ha : alw (dd [] ls) with
  | true => rw [if_pos ha] at h; cases h
  | false =>
    rw [if_neg (by rw [ha]; decide)] at h
    obtain rfl := Option.some.inj h
    unfold sem
    refine ⟨fun q ρ hρ => ?_, fun q ρ hρ => ?_⟩
    · have := q ρ hρ
      rw [sat_keep ha, satL_dd] at this
      exact this
    · rw [sat_keep ha, satL_dd]
      exact q ρ hρ
theorem trim_none {w : PW} {ls : List Lit} (h : trimL ls = none) : sem w ls := by
  unfold trimL at h
  cases ha : alw (dd [] ls) with
  | true =>
    intro ρ _
    rw [← satL_dd]
    exact sat_alw ha
  | false =>
    rw [if_neg (by rw [ha]; decide)] at h
    cases h
theorem trim_sub {ls ms : List Lit} (h : trimL ls = some ms) : ∀ l ∈ ms, l ∈ ls := by
  unfold trimL at h
  split at h
  · cases h
  · obtain rfl := Option.some.inj h
    exact fun l hl => (dd_iff l).mp ((List.mem_filter.mp hl).1)
/-! ### renaming -/
mutual
def W.ren (r : Str → Str) : W → W
  | .v s => .v (r s)
  | .n s as => .n s (W.rens r as)
def W.rens (r : Str → Str) : List W → List W
  | [] => []
  | z :: zs => z.ren r :: W.rens r zs
end
theorem rens_map (r : Str → Str) : ∀ as : List W, W.rens r as = as.map (W.ren r)
  | [] => rfl
  | x :: xs => congrArg (x.ren r :: ·) (rens_map r xs)
mutual
theorem sub_ren {f : Str → Option W} {r : Str → Str} (h : ∀ s, (f s).getD (.v s) = .v (r s)) : ∀ z : W, z.sub f = z.ren r
  | .v s => h s
  | .n s as => congrArg (W.n s) (subs_rens h as)
theorem subs_rens {f : Str → Option W} {r : Str → Str} (h : ∀ s, (f s).getD (.v s) = .v (r s)) : ∀ zs : List W, W.subs f zs = W.rens r zs
  | [] => rfl
  | z :: zs => by
    show z.sub f :: W.subs f zs = z.ren r :: W.rens r zs
    rw [sub_ren h z, subs_rens h zs]
end
mutual
theorem ren_ev {w : PW} {ρ : Str → Nat} {r : Str → Str} : ∀ z : W, (z.ren r).ev w ρ = z.ev w (fun s => ρ (r s))
  | .v s => rfl
  | .n s as => by
    show ((alk w.fs s).bind fun t => tlk t (W.evs w ρ (W.rens r as))).getD 0 = _
    rw [rens_evs as]
    rfl
theorem rens_evs {w : PW} {ρ : Str → Nat} {r : Str → Str} : ∀ zs : List W, W.evs w ρ (W.rens r zs) = W.evs w (fun s => ρ (r s)) zs
  | [] => rfl
  | z :: zs => by
    show (z.ren r).ev w ρ :: W.evs w ρ (W.rens r zs) = z.ev w _ :: W.evs w _ zs
    rw [ren_ev z, rens_evs zs]
end
mutual
theorem ren_allv {r : Str → Str} : ∀ z : W, (z.ren r).allv = z.allv.map r
  | .v s => rfl
  | .n s as => rens_allvs as
theorem rens_allvs {r : Str → Str} : ∀ zs : List W, W.allvs (W.rens r zs) = (W.allvs zs).map r
  | [] => rfl
  | z :: zs => by
    show (z.ren r).allv ++ W.allvs (W.rens r zs) = (z.allv ++ W.allvs zs).map r
    rw [ren_allv z, rens_allvs zs, List.map_append]
end
mutual
theorem ren_inj {r : Str → Str} {V : List Str} (hi : ∀ a ∈ V, ∀ b ∈ V, r a = r b → a = b) : ∀ z y : W, (∀ s ∈ z.allv, s ∈ V) → (∀ s ∈ y.allv, s ∈ V) → z.ren r = y.ren r → z = y
  | .v s, .v t, h1, h2, e => congrArg W.v (hi s (h1 s List.mem_cons_self) t (h2 t List.mem_cons_self) (W.v.inj e))
  | .v s, .n t bs, _, _, e => nomatch e
  | .n s as, .v t, _, _, e => nomatch e
  | .n s as, .n t bs, h1, h2, e => by
    obtain ⟨a, b⟩ := W.n.inj e
    rw [a, rens_inj hi as bs h1 h2 b]
theorem rens_inj {r : Str → Str} {V : List Str} (hi : ∀ a ∈ V, ∀ b ∈ V, r a = r b → a = b) : ∀ zs ys : List W, (∀ s ∈ W.allvs zs, s ∈ V) → (∀ s ∈ W.allvs ys, s ∈ V) → W.rens r zs = W.rens r ys → zs = ys
  | [], [], _, _, _ => rfl
  | [], _ :: _, _, _, e => nomatch e
  | _ :: _, [], _, _, e => nomatch e
  | z :: zs, y :: ys, h1, h2, e => by
    obtain ⟨a, b⟩ := List.cons.inj e
    rw [ren_inj hi z y (fun s hs => h1 s (List.mem_append_left _ hs)) (fun s hs => h2 s (List.mem_append_left _ hs)) a,
      rens_inj hi zs ys (fun s hs => h1 s (List.mem_append_right _ hs)) (fun s hs => h2 s (List.mem_append_right _ hs)) b]
end
mutual
theorem ren_id {r : Str → Str} : ∀ z : W, (∀ s ∈ z.allv, r s = s) → z.ren r = z
  | .v s, h => congrArg W.v (h s List.mem_cons_self)
  | .n s as, h => congrArg (W.n s) (rens_id as h)
theorem rens_id {r : Str → Str} : ∀ zs : List W, (∀ s ∈ W.allvs zs, r s = s) → W.rens r zs = zs
  | [], _ => rfl
  | z :: zs, h => by
    show z.ren r :: W.rens r zs = z :: zs
    rw [ren_id z fun s hs => h s (List.mem_append_left _ hs), rens_id zs fun s hs => h s (List.mem_append_right _ hs)]
end
mutual
theorem ren_sz {r : Str → Str} : ∀ z : W, (z.ren r).sz = z.sz ∧ (z.ren r).dp = z.dp
  | .v s => ⟨rfl, rfl⟩
  | .n s as => by
    obtain ⟨a, b⟩ := rens_sz (r := r) as
    refine ⟨?_, ?_⟩
    · show W.szs (W.rens r as) + 2 = W.szs as + 2
      rw [a]
    · show W.dps (W.rens r as) + 1 = W.dps as + 1
      rw [b]
theorem rens_sz {r : Str → Str} : ∀ zs : List W, W.szs (W.rens r zs) = W.szs zs ∧ W.dps (W.rens r zs) = W.dps zs
  | [] => ⟨rfl, rfl⟩
  | z :: zs => by
    obtain ⟨a, b⟩ := ren_sz (r := r) z
    obtain ⟨c, d⟩ := rens_sz (r := r) zs
    refine ⟨?_, ?_⟩
    · show (z.ren r).sz + W.szs (W.rens r zs) = z.sz + W.szs zs
      rw [a, c]
    · show max (z.ren r).dp (W.dps (W.rens r zs)) = max z.dp (W.dps zs)
      rw [b, d]
end
mutual
theorem ren_wd {r : Str → Str} : ∀ z : W, z.o.wd = true → (∀ s ∈ z.allv, SS.contains (r s) = true) → (z.ren r).o.wd = true
  | .v s, _, h => h s List.mem_cons_self
  | .n s as, hw, h => by
    have hw : (SS.contains s && O.wds (W.os as)) = true := hw
    rw [Bool.and_eq_true] at hw
    show (SS.contains s && O.wds (W.os (W.rens r as))) = true
    rw [hw.1, rens_wd as hw.2 h]
    rfl
theorem rens_wd {r : Str → Str} : ∀ zs : List W, O.wds (W.os zs) = true → (∀ s ∈ W.allvs zs, SS.contains (r s) = true) → O.wds (W.os (W.rens r zs)) = true
  | [], _, _ => rfl
  | z :: zs, hw, h => by
    have hw : (z.o.wd && O.wds (W.os zs)) = true := hw
    rw [Bool.and_eq_true] at hw
    show ((z.ren r).o.wd && O.wds (W.os (W.rens r zs))) = true
    rw [ren_wd z hw.1 fun s hs => h s (List.mem_append_left _ hs), rens_wd zs hw.2 fun s hs => h s (List.mem_append_right _ hs)]
    rfl
end
theorem rens_len (r : Str → Str) (as : List W) : (W.rens r as).length = as.length := by rw [rens_map, List.length_map]
mutual
theorem ren_wf {r : Str → Str} {fs : List (Str × Nat)} : ∀ z : W, (z.ren r).wf fs = z.wf fs
  | .v s => rfl
  | .n s as => by
    show (decide ((s, (W.rens r as).length) ∈ fs) && W.wfs fs (W.rens r as)) = (decide ((s, as.length) ∈ fs) && W.wfs fs as)
    rw [rens_len, rens_wf as]
theorem rens_wf {r : Str → Str} {fs : List (Str × Nat)} : ∀ zs : List W, W.wfs fs (W.rens r zs) = W.wfs fs zs
  | [] => rfl
  | z :: zs => by
    show ((z.ren r).wf fs && W.wfs fs (W.rens r zs)) = (z.wf fs && W.wfs fs zs)
    rw [ren_wf z, rens_wf zs]
end
end K17

set_option Elab.async false
set_option linter.all false
set_option maxRecDepth 100000
set_option maxHeartbeats 4000000
/-! What holds of told clauses. -/
namespace K17
open PySem PySem.Spec PyProof.Rows L2 Evl
theorem xn_inj : ∀ i < 20, ∀ j < 20, xn i = xn j → i = j := by decide +kernel
theorem xn_ss : ∀ i < 4, SS.contains (xn i) = true := by decide +kernel
/-- the name that a variable is called by -/
def nm (vs : List Str) (s : Str) : Str := if vs.contains s then xn (vs.idxOf s) else s
theorem lk_called (s : Str) : ∀ (vs : List Str) (n : Nat), lk (called n vs) s = if vs.contains s then some (.v (xn (n + vs.idxOf s))) else none
  | [], n => rfl
  | v :: vs, n => by
    have ih := lk_called s vs (n + 1)
    unfold lk at ih ⊢
    show (((v, W.v (xn n)) :: called (n + 1) vs).find? fun p => decide (p.1 = s)).map (·.2) = _
    rw [List.find?_cons]
    by_cases h : v = s
    · subst h
      rw [decide_eq_true (show (v, W.v (xn n)).1 = v from rfl)]
      simp
    · rw [decide_eq_false (show ¬(v, W.v (xn n)).1 = s from h)]
      show ((called (n + 1) vs).find? fun p => decide (p.1 = s)).map (·.2) = _
      rw [ih, List.contains_cons, List.idxOf_cons]
      have hb : (s == v) = false := beq_false_of_ne (Ne.symm h)
      have hb2 : (v == s) = false := beq_false_of_ne h
      rw [hb, hb2, Bool.false_or]
      by_cases c : vs.contains s = true
      · rw [if_pos c, if_pos c]
        simp only [cond_false]
        rw [show n + 1 + vs.idxOf s = n + (vs.idxOf s + 1) by omega]
      · rw [if_neg c, if_neg c]
theorem nm_lk (vs : List Str) (s : Str) : ((lk (called 0 vs) s).getD (.v s)) = .v (nm vs s) := by
  rw [lk_called]
  unfold nm
  by_cases c : vs.contains s = true
  · rw [if_pos c, if_pos c, Nat.zero_add]
    rfl
  · rw [if_neg c, if_neg c]
    rfl
theorem sub_nm (vs : List Str) (z : W) : z.sub (lk (called 0 vs)) = z.ren (nm vs) := sub_ren (nm_lk vs) z
theorem nm_inj {vs : List Str} (hl : vs.length ≤ 19) : ∀ a ∈ vs, ∀ b ∈ vs, nm vs a = nm vs b → a = b := by
  intro a ha b hb e
  unfold nm at e
  rw [if_pos (List.contains_iff_mem.mpr ha), if_pos (List.contains_iff_mem.mpr hb)] at e
  have h1 := List.idxOf_lt_length_of_mem ha
  have h2 := List.idxOf_lt_length_of_mem hb
  have h3 := xn_inj _ (by omega) _ (by omega) e
  rw [← List.getElem_idxOf h1, ← List.getElem_idxOf h2]
  congr 1
abbrev renL (vs : List Str) (l : Lit) : Lit := (l.1, l.2.ren (nm vs))
theorem subL_ren (vs : List Str) : subL (called 0 vs) = renL vs := funext fun l => by
  show (l.1, l.2.sub (lk (called 0 vs))) = (l.1, l.2.ren (nm vs))
  rw [sub_nm]
/-! ### each once -/
theorem eo_id : ∀ (xs acc : List Str), (∀ s ∈ xs, s ∈ acc) → eo acc xs = acc
  | [], acc, _ => rfl
  | x :: xs, acc, h => by
    show eo (if acc.contains x then acc else acc ++ [x]) xs = acc
    rw [if_pos (List.contains_iff_mem.mpr (h x List.mem_cons_self))]
    exact eo_id xs acc fun s hs => h s (List.mem_cons_of_mem _ hs)
abbrev av (ls : List Lit) : List Str := W.allvs (ls.map (·.2))
theorem av_app (a b : List Lit) : av (a ++ b) = av a ++ av b := by unfold av; rw [List.map_append, W.allvs_app]
theorem av_mem {l : Lit} {ls : List Lit} (h : l ∈ ls) : ∀ s ∈ l.2.allv, s ∈ av ls := fun s hs => allvs_mem (List.mem_map.mpr ⟨l, h, rfl⟩) hs
theorem dd_pos {α : Type} [DecidableEq α] {acc xs : List α} {x : α} (c : x ∈ acc) : dd acc (x :: xs) = dd acc xs := by
  show dd (if x ∈ acc then acc else acc ++ [x]) xs = _
  rw [if_pos c]
theorem dd_neg {α : Type} [DecidableEq α] {acc xs : List α} {x : α} (c : x ∉ acc) : dd acc (x :: xs) = dd (acc ++ [x]) xs := by
  show dd (if x ∈ acc then acc else acc ++ [x]) xs = _
  rw [if_neg c]
theorem dd_av : ∀ (xs acc : List Lit), eo [] (av (dd acc xs)) = eo [] (av acc ++ av xs)
  | [], acc => by show eo [] (av acc) = eo [] (av acc ++ []); rw [List.append_nil]
  | x :: xs, acc => by
    have e : av (x :: xs) = x.2.allv ++ av xs := rfl
    by_cases c : x ∈ acc
    · rw [dd_pos c, dd_av xs, e, ← List.append_assoc, eo_app, eo_app, eo_app, eo_id x.2.allv]
      intro s hs
      rw [eo_sub]
      exact .inr (av_mem c s hs)
    · rw [dd_neg c, dd_av xs, e, av_app, show av [x] = x.2.allv from W.allvs_one x.2, List.append_assoc]
theorem lvars_dd (ls : List Lit) : lvars (dd [] ls) = lvars ls := by
  rw [lvars_all, lvars_all]
  exact dd_av ls []
theorem dd_map_inj {α β : Type} [DecidableEq α] [DecidableEq β] {f : α → β} : ∀ (xs acc : List α), (∀ a, a ∈ acc ∨ a ∈ xs → ∀ b, b ∈ acc ∨ b ∈ xs → f a = f b → a = b) → dd (acc.map f) (xs.map f) = (dd acc xs).map f
  | [], acc, _ => rfl
  | x :: xs, acc, h => by
    show dd (if f x ∈ acc.map f then acc.map f else acc.map f ++ [f x]) (xs.map f) = (dd (if x ∈ acc then acc else acc ++ [x]) xs).map f
    have e : f x ∈ acc.map f ↔ x ∈ acc := by
      constructor
      · intro q
        obtain ⟨y, hy, e⟩ := List.mem_map.mp q
        rw [← h y (.inl hy) x (.inr List.mem_cons_self) e]
        exact hy
      · exact fun q => List.mem_map.mpr ⟨x, q, rfl⟩
    by_cases c : x ∈ acc
    · rw [if_pos c, if_pos (e.mpr c)]
      refine dd_map_inj xs acc fun a ha b hb => h a ?_ b ?_
      · exact ha.imp id (List.mem_cons_of_mem _)
      · exact hb.imp id (List.mem_cons_of_mem _)
    · rw [if_neg c, if_neg (fun z => c (e.mp z)), ← dd_map_inj xs (acc ++ [x]), List.map_append]
      · rfl
      · intro a ha b hb
        refine h a ?_ b ?_
        · rcases ha with ha | ha
          · rcases List.mem_append.mp ha with ha | ha
            · exact .inl ha
            · rw [List.mem_singleton.mp ha]; exact .inr List.mem_cons_self
          · exact .inr (List.mem_cons_of_mem _ ha)
        · rcases hb with hb | hb
          · rcases List.mem_append.mp hb with hb | hb
            · exact .inl hb
            · rw [List.mem_singleton.mp hb]; exact .inr List.mem_cons_self
          · exact .inr (List.mem_cons_of_mem _ hb)
theorem renL_inj {ls : List Lit} (hl : (lvars ls).length ≤ 19) : ∀ a ∈ ls, ∀ b ∈ ls, renL (lvars ls) a = renL (lvars ls) b → a = b := by
  rintro ⟨a1, a2⟩ ha ⟨b1, b2⟩ hb e
  obtain ⟨e1, e2⟩ := Prod.mk.inj e
  obtain rfl : a1 = b1 := e1
  rw [ren_inj (nm_inj hl) a2 b2 (fun s hs => lvars_mem.mpr (av_mem ha s hs)) (fun s hs => lvars_mem.mpr (av_mem hb s hs)) e2]
theorem told_ctold {ls : List Lit} (hl : (lvars ls).length ≤ 19) : toldL ls = ctold ls := by
  unfold toldL ctold
  rw [lvars_dd, subL_ren]
  refine (dd_map_inj ls [] fun a ha b hb => ?_).symm
  rcases ha with ha | ha
  · cases ha
  · rcases hb with hb | hb
    · cases hb
    · exact renL_inj hl a ha b hb
theorem av_ren (vs : List Str) : ∀ ls : List Lit, av (ls.map (renL vs)) = (av ls).map (nm vs)
  | [] => rfl
  | l :: ls => by
    show (l.2.ren (nm vs)).allv ++ av (ls.map (renL vs)) = (l.2.allv ++ av ls).map (nm vs)
    rw [ren_allv, av_ren vs ls, List.map_append]
theorem satL_ren {w : PW} {ρ : Str → Nat} (vs : List Str) (ls : List Lit) : satL w ρ (ls.map (renL vs)) = satL w (fun s => ρ (nm vs s)) ls := by
  unfold satL
  rw [List.any_map]
  congr 1
  funext l
  show decide (tr w ρ (l.2.ren (nm vs)) = l.1) = decide (tr w (fun s => ρ (nm vs s)) l.2 = l.1)
  have : tr w ρ (l.2.ren (nm vs)) = tr w (fun s => ρ (nm vs s)) l.2 := by
    cases l.2 with
    | v s => rfl
    | n s as =>
      show tr w ρ (.n s (W.rens (nm vs) as)) = _
      unfold tr
      dsimp only
      rw [rens_evs]
  rw [this]
/-- the other way round -/
def un (vs : List Str) (ρ : Str → Nat) (x : Str) : Nat := ((vs.find? fun v => decide (nm vs v = x)).map ρ).getD (ρ x)
theorem un_nm {vs : List Str} (hl : vs.length ≤ 19) (ρ : Str → Nat) {s : Str} (hs : s ∈ vs) : un vs ρ (nm vs s) = ρ s := by
  unfold un
  cases h : vs.find? fun v => decide (nm vs v = nm vs s) with
  | none => exact absurd (List.find?_eq_none.mp h s hs) (by simp)
  | some v =>
    have h1 := List.find?_some h
    have h2 := List.mem_of_find?_eq_some h
    rw [nm_inj hl v h2 s hs (of_decide_eq_true h1)]
    rfl
theorem told_sem {w : PW} {ls : List Lit} (hl : (lvars ls).length ≤ 19) : sem w (toldL ls) ↔ sem w ls := by
  unfold toldL
  rw [lvars_dd, subL_ren]
  constructor
  · intro h ρ hρ
    have := h (un (lvars ls) ρ) (fun s => by
      unfold un
      cases (lvars ls).find? fun v => decide (nm (lvars ls) v = s) with
      | none => exact hρ s
      | some v => exact hρ v)
    rw [satL_ren, satL_dd] at this
    rw [← this]
    exact satL_congr fun s hs => (un_nm hl ρ (lvars_mem.mpr hs)).symm
  · intro h ρ hρ
    rw [satL_ren, satL_dd]
    exact h _ fun s => hρ _
/-! ### the variables of what is told -/
theorem eo_map_inj {f : Str → Str} : ∀ (xs acc : List Str), (∀ a, a ∈ acc ∨ a ∈ xs → ∀ b, b ∈ acc ∨ b ∈ xs → f a = f b → a = b) → eo (acc.map f) (xs.map f) = (eo acc xs).map f
  | [], acc, _ => rfl
  | x :: xs, acc, h => by
    show eo (if (acc.map f).contains (f x) then acc.map f else acc.map f ++ [f x]) (xs.map f) = (eo (if acc.contains x then acc else acc ++ [x]) xs).map f
    by_cases c : x ∈ acc
    · rw [if_pos (List.contains_iff_mem.mpr c), if_pos (List.contains_iff_mem.mpr (List.mem_map.mpr ⟨x, c, rfl⟩))]
      refine eo_map_inj xs acc fun a ha b hb => h a ?_ b ?_
      · exact ha.imp id (List.mem_cons_of_mem _)
      · exact hb.imp id (List.mem_cons_of_mem _)
    · rw [if_neg (fun z => c (List.contains_iff_mem.mp z)), if_neg (fun z => by
        obtain ⟨y, hy, e⟩ := List.mem_map.mp (List.contains_iff_mem.mp z)
        rw [h y (.inl hy) x (.inr List.mem_cons_self) e] at hy
        exact c hy), ← eo_map_inj xs (acc ++ [x]), List.map_append]
      · rfl
      · intro a ha b hb
        refine h a ?_ b ?_
        · rcases ha with ha | ha
          · rcases List.mem_append.mp ha with ha | ha
            · exact .inl ha
            · rw [List.mem_singleton.mp ha]; exact .inr List.mem_cons_self
          · exact .inr (List.mem_cons_of_mem _ ha)
        · rcases hb with hb | hb
          · rcases List.mem_append.mp hb with hb | hb
            · exact .inl hb
            · rw [List.mem_singleton.mp hb]; exact .inr List.mem_cons_self
          · exact .inr (List.mem_cons_of_mem _ hb)
theorem told_lvars {ls : List Lit} (hl : (lvars ls).length ≤ 19) : lvars (toldL ls) = (lvars ls).map (nm (lvars ls)) := by
  have e : toldL ls = (dd [] ls).map (renL (lvars ls)) := by unfold toldL; rw [lvars_dd, subL_ren]
  rw [e, lvars_all]
  show eo [] (av ((dd [] ls).map (renL (lvars ls)))) = _
  rw [av_ren, show ([] : List Str) = ([] : List Str).map (nm (lvars ls)) from rfl, eo_map_inj]
  · rw [show eo [] (av (dd [] ls)) = lvars (dd [] ls) from (lvars_all _).symm, lvars_dd]
  · intro a ha b hb
    have hm : ∀ c, c ∈ ([] : List Str) ∨ c ∈ av (dd [] ls) → c ∈ lvars ls := by
      rintro c (hc | hc)
      · cases hc
      · rw [← lvars_dd]
        exact lvars_mem.mpr hc
    exact nm_inj hl a (hm a ha) b (hm b hb)
theorem nm_all {vs : List Str} (nd : vs.Nodup) : vs.map (nm vs) = (List.range vs.length).map xn := by
  refine List.ext_getElem (by simp) fun i h1 h2 => ?_
  rw [List.length_map] at h1
  rw [List.getElem_map, List.getElem_map, List.getElem_range]
  unfold nm
  rw [if_pos (List.contains_iff_mem.mpr (List.getElem_mem h1))]
  congr 1
  exact nd.idxOf_getElem i h1
theorem nm_xs {m : Nat} (hm : m ≤ 19) : ∀ s ∈ (List.range m).map xn, nm ((List.range m).map xn) s = s := by
  intro s hs
  have nd : ((List.range m).map xn).Nodup := by
    have h : ∀ k ≤ 19, ((List.range k).map xn).Nodup := by decide +kernel
    exact h m hm
  obtain ⟨i, hi, e⟩ := List.getElem_of_mem hs
  rw [List.length_map, List.length_range] at hi
  unfold nm
  rw [if_pos (List.contains_iff_mem.mpr hs)]
  have e2 : ((List.range m).map xn).idxOf s = i := by
    rw [← e]
    exact nd.idxOf_getElem i (by rw [List.length_map, List.length_range]; exact hi)
  rw [e2, ← e, List.getElem_map, List.getElem_range]
theorem dd_nodup {α : Type} [DecidableEq α] : ∀ (xs acc : List α), acc.Nodup → (dd acc xs).Nodup
  | [], acc, h => h
  | x :: xs, acc, h => by
    show (dd (if x ∈ acc then acc else acc ++ [x]) xs).Nodup
    refine dd_nodup xs _ ?_
    by_cases c : x ∈ acc
    · rw [if_pos c]
      exact h
    · rw [if_neg c]
      refine List.nodup_append.mpr ⟨h, List.nodup_cons.mpr ⟨by simp, List.nodup_nil⟩, fun a ha b hb => ?_⟩
      rw [List.mem_singleton.mp hb]
      rintro rfl
      exact c ha
theorem dd_id {α : Type} [DecidableEq α] : ∀ (xs acc : List α), (acc ++ xs).Nodup → dd acc xs = acc ++ xs
  | [], acc, _ => (List.append_nil _).symm
  | x :: xs, acc, h => by
    have c : x ∉ acc := fun q => (List.nodup_append.mp h).2.2 x q x List.mem_cons_self rfl
    show dd (if x ∈ acc then acc else acc ++ [x]) xs = _
    rw [if_neg c, dd_id xs, List.append_assoc]
    · rfl
    · rw [List.append_assoc]
      exact h
theorem told_told {ls : List Lit} (hl : (lvars ls).length ≤ 19) : toldL (ctold ls) = ctold ls := by
  have h1 := told_lvars hl
  rw [told_ctold hl] at h1
  have h2 : (ctold ls).Nodup := dd_nodup _ _ List.nodup_nil
  have h3 : dd [] (ctold ls) = ctold ls := dd_id _ _ h2
  unfold toldL
  rw [h3, subL_ren, h1, nm_all (lvars_nodup ls)]
  have h4 : ∀ l ∈ ctold ls, renL ((List.range (lvars ls).length).map xn) l = l := by
    intro l hl'
    show (l.1, l.2.ren _) = l
    rw [ren_id]
    intro s hs
    refine nm_xs hl s ?_
    rw [← nm_all (lvars_nodup ls), ← h1]
    exact lvars_mem.mpr (av_mem hl' s hs)
  rw [List.map_congr_left (g := id) h4, List.map_id]
/-- what is told keeps what is asked of literals -/
theorem told_lgs {ls : List Lit} (h : Lgs ls) (hl : (lvars ls).length ≤ 4) : Lgs (ls.map (subL (called 0 (lvars ls)))) := by
  rw [subL_ren]
  intro l hl'
  obtain ⟨m, hm, rfl⟩ := List.mem_map.mp hl'
  have g := h m hm
  obtain ⟨s, as, e, he⟩ := g.at_
  refine ⟨⟨s, W.rens (nm (lvars ls)) as, by show m.2.ren _ = _; rw [e]; rfl, fun q => ?_⟩, ?_, ?_, ?_⟩
  · obtain ⟨a, b, rfl⟩ := he q
    exact ⟨_, _, rfl⟩
  · show (m.2.ren _).dp ≤ 8
    rw [(ren_sz m.2).2]
    exact g.dp
  · show (m.2.ren _).sz ≤ 200
    rw [(ren_sz m.2).1]
    exact g.sz
  · refine ren_wd m.2 g.wd fun s hs => ?_
    have hm2 : s ∈ lvars ls := lvars_mem.mpr (av_mem hm s hs)
    unfold nm
    rw [if_pos (List.contains_iff_mem.mpr hm2)]
    have := List.idxOf_lt_length_of_mem hm2
    exact xn_ss _ (by omega)
theorem told_aw {nm' : Nms} {ls : List Lit} (h : ∀ l ∈ ls, Aw nm' l.2) : ∀ l ∈ ls.map (subL (called 0 (lvars ls))), Aw nm' l.2 := by
  rw [subL_ren]
  intro l hl'
  obtain ⟨m, hm, rfl⟩ := List.mem_map.mp hl'
  obtain ⟨s, as, e, h1, h2, h3⟩ := h m hm
  refine ⟨s, W.rens (nm (lvars ls)) as, by show m.2.ren _ = _; rw [e]; rfl, by rw [rens_wf]; exact h1, h2, ?_⟩
  rw [rens_len]
  exact h3
theorem ctold_lgs {ls : List Lit} (h : Lgs ls) (hl : (lvars ls).length ≤ 4) : Lgs (ctold ls) := dd_lgs (told_lgs h hl)
theorem ctold_aw {nm' : Nms} {ls : List Lit} (h : ∀ l ∈ ls, Aw nm' l.2) : ∀ l ∈ ctold ls, Aw nm' l.2 := fun l hl => told_aw h l ((dd_iff l).mp hl)
theorem ctold_len (ls : List Lit) : (ctold ls).length ≤ ls.length := by
  have := dd_len (ls.map (subL (called 0 (lvars ls)))) []
  rw [List.length_map] at this
  unfold ctold
  simpa using this
theorem ctold_vars {ls : List Lit} (hl : (lvars ls).length ≤ 19) : (lvars (ctold ls)).length = (lvars ls).length := by
  rw [← told_ctold hl, told_lvars hl, List.length_map]
/-- what is left of a list has no more variables -/
theorem lvars_sub {ls ms : List Lit} (h : ∀ l ∈ ms, l ∈ ls) : (lvars ms).length ≤ (lvars ls).length := by
  have hs : ∀ s ∈ lvars ms, s ∈ lvars ls := by
    intro s hs
    have hs := lvars_mem.mp hs
    obtain ⟨l, hl, hsl⟩ : ∃ l ∈ ms, s ∈ l.2.allv := by
      clear h
      induction ms with
      | nil => cases hs
      | cons m ms ih =>
        rcases List.mem_append.mp (show s ∈ m.2.allv ++ av ms from hs) with q | q
        · exact ⟨m, List.mem_cons_self, q⟩
        · obtain ⟨l, hl, e⟩ := ih (lvars_mem.mpr q) q
          exact ⟨l, List.mem_cons_of_mem _ hl, e⟩
    exact lvars_mem.mpr (av_mem (h l hl) s hsl)
  have key : ∀ (as bs : List Str), as.Nodup → (∀ s ∈ as, s ∈ bs) → as.length ≤ bs.length := by
    intro as
    induction as with
    | nil => intro bs _ _; exact Nat.zero_le _
    | cons a as ih =>
      intro bs nd h
      obtain ⟨h1, h2⟩ := List.nodup_cons.mp nd
      have ha := h a List.mem_cons_self
      have := ih (bs.erase a) h2 fun s hs => (List.mem_erase_of_ne (fun z : s = a => h1 (z ▸ hs))).mpr (h s (List.mem_cons_of_mem _ hs))
      rw [List.length_erase_of_mem ha] at this
      have := List.length_pos_of_mem ha
      rw [List.length_cons]
      omega
  exact key _ _ (lvars_nodup ms) hs
/-! ### the worlds' answers -/
theorem hold_trim {w : PW} {ls ms : List Lit} (h1 : 1 ≤ w.n) (h3 : w.n < 4) (hl : (lvars ls).length ≤ 4) (h : trimL ls = some ms) : hold w ms = hold w ls :=
  bool_of_iff (by rw [hold_iff h1 h3 hl, hold_iff h1 h3 (Nat.le_trans (lvars_sub (trim_sub h)) hl), trim_sem h])
theorem hold_none {w : PW} {ls : List Lit} (h1 : 1 ≤ w.n) (h3 : w.n < 4) (hl : (lvars ls).length ≤ 4) (h : trimL ls = none) : hold w ls = true := (hold_iff h1 h3 hl).mpr (trim_none h)
theorem hold_told {w : PW} {ls : List Lit} (h1 : 1 ≤ w.n) (h3 : w.n < 4) (hl : (lvars ls).length ≤ 4) : hold w (ctold ls) = hold w ls :=
  bool_of_iff (by rw [hold_iff h1 h3 hl, hold_iff h1 h3 (by rw [ctold_vars (by omega)]; exact hl), ← told_ctold (by omega), told_sem (by omega)])
end K17

set_option Elab.async false
set_option linter.all false
set_option maxRecDepth 100000
set_option maxHeartbeats 4000000
/-! Data written out; _law_c_names. -/
namespace K17
open PySem PySem.Spec PyProof.Rows L2 Evl
section
variable {H : Hp} {σ : L2.St}
theorem eo_int {i : Int} : EvO (tC (.int i)) σ H (.int i) := fun H1 e Q q => q _ _ (Ex.refl _) rfl
theorem eo_non : EvO (tC .non) σ H .non := fun H1 e Q q => q _ _ (Ex.refl _) rfl
theorem eo_dct : EvO tDNewK σ H .dct := fun H1 e Q q => fun p hp => q (.ref p) _ (Ex.new hp) ⟨p, rfl, upd_same⟩
end
mutual
def teO : O → TE
  | .non => tC .non | .bl b => tC (.bl b) | .int i => tC (.int i) | .str s => tC (.str s) | .dct => tDNewK | .lst os => tLst (taO os) | .tup os => tTup (taO os)
def taO : List O → TA
  | [] => tNil
  | o :: os => tCons (teO o) (taO os)
end
theorem taO_len : ∀ os : List O, os.length ≤ O.szs os
  | [] => Nat.le_refl _
  | o :: os => by
    have h1 := taO_len os
    have h2 : 1 ≤ o.sz := by cases o <;> (first | exact Nat.le_refl _ | exact Nat.succ_le_succ (Nat.zero_le _))
    show os.length + 1 ≤ o.sz + O.szs os
    omega
mutual
theorem eo_te {σ : L2.St} {H : Hp} : ∀ o : O, o.sz ≤ 1000 → EvO (teO o) σ H o
  | .non, _ => eo_non
  | .bl _, _ => eo_bl
  | .int _, _ => eo_int
  | .str _, _ => eo_str
  | .dct, _ => eo_dct
  | .lst os, h => by
    have h : O.szs os + 1 ≤ 1000 := h
    have := taO_len os
    exact eo_lst (eao_te os (by omega)) (by omega)
  | .tup os, h => by
    have h : O.szs os + 1 ≤ 1000 := h
    have := taO_len os
    exact eo_tup (eao_te os (by omega)) (by omega)
theorem eao_te {σ : L2.St} {H : Hp} : ∀ os : List O, O.szs os ≤ 1000 → EvAO (taO os) σ H os
  | [], _ => eao_nil
  | o :: os, h => by
    have h : o.sz + O.szs os ≤ 1000 := h
    exact eao_cons (eo_te o (by omega)) (eao_te os (by omega))
end
mutual
theorem eox_te {H0 : Hp} {σ : L2.St} {H : Hp} (h0 : Ex H0 H) : ∀ o : O, o.sz ≤ 1000 → EvOx H0 (teO o) σ H o
  | .non, _ => eox_non
  | .bl _, _ => eox_bl
  | .int _, _ => eox_int
  | .str _, _ => eox_str
  | .dct, _ => eox_dct h0
  | .lst os, h => by
    have h : O.szs os + 1 ≤ 1000 := h
    have := taO_len os
    exact eox_lst h0 (eax_te h0 os (by omega)) (by omega)
  | .tup os, h => by
    have h : O.szs os + 1 ≤ 1000 := h
    have := taO_len os
    exact eox_tup h0 (eax_te h0 os (by omega)) (by omega)
theorem eax_te {H0 : Hp} {σ : L2.St} {H : Hp} (h0 : Ex H0 H) : ∀ os : List O, O.szs os ≤ 1000 → EvAx H0 (taO os) σ H os
  | [], _ => eax_nil
  | o :: os, h => by
    have h : o.sz + O.szs os ≤ 1000 := h
    exact eax_cons (eox_te h0 o (by omega)) (eax_te h0 os (by omega))
end
theorem pe_as {X : Cx} {e : Expr} {t t' : TE} (h : PE X e t) (q : t = t') : PE X e t' := q ▸ h
theorem ovs_mem {J : Hp} : ∀ {xs : List V} {os : List O} {y : V}, OVs J xs os → y ∈ xs → ∃ o ∈ os, OV J y o
  | xs, [], y, h, hy => by
    obtain rfl : xs = [] := h
    cases hy
  | xs, o :: os, y, ⟨x, us, e, h1, h2⟩, hy => by
    subst e
    rcases List.mem_cons.mp hy with rfl | hy
    · exact ⟨o, List.mem_cons_self, h1⟩
    · obtain ⟨o', h, k⟩ := ovs_mem h2 hy
      exact ⟨o', List.mem_cons_of_mem _ h, k⟩
def prO (q : Str × Nat) : O := .tup [.str q.1, .int (q.2 : Nat)]
def prsO (F : List (Str × Nat)) : O := .lst (F.map prO)
def nmO (nm : Nms) : O := .tup [prsO nm.1, prsO nm.2]
def kvP (q : Str × Nat) : Key × V := (.inr q.1, .int (q.2 : Nat))
theorem pr_at {G : Hp} {v : V} {q : Str × Nat} (h : OV G v (prO q)) : ∃ t, v = .ref t ∧ G t = some (.tup [.str q.1, .int (q.2 : Nat)]) := by
  obtain ⟨t, zs, rfl, ht, x1, z1, rfl, h1, x2, z2, rfl, h2, hz⟩ := h
  obtain rfl : z2 = [] := hz
  obtain rfl : x1 = .str q.1 := h1
  obtain rfl : x2 = .int (q.2 : Nat) := h2
  exact ⟨t, rfl, ht⟩
theorem prs_paired {K : PySem.W.Frag} {H : Hp} : ∀ {F : List (Str × Nat)} {us : List V}, OVs H us (F.map prO) → ∃ as : List Addr, us = as.map V.ref ∧ PySem.Paired (fun p kv => SqT K H p [kV kv.1, kv.2]) as (F.map kvP)
  | [], us, h => ⟨[], h, .nil⟩
  | q :: F, us, ⟨x, us', e, h1, h2⟩ => by
    obtain ⟨as, rfl, hp⟩ := prs_paired h2
    obtain ⟨t, rfl, ht⟩ := pr_at h1
    exact ⟨t :: as, e, .cons (st_of ht) hp⟩
def F6 : List (List (Str × Nat)) := [[], [("c", 0)], [("f", 1)], [("soc", 0), ("f", 1)], [("k1", 0)], [("k1", 1)]]
def S7 : List (List (Str × Nat)) := [[], [("q", 1)], [("e", 0)], [("d1", 0), ("s1", 1)], [("r", 2)], [("k1", 1)], [("k1", 0)]]
def nmOf (F S : List (Str × Nat)) : Nms := (F, ("p", 1) :: S.filter fun q => !(F.map (·.1)).contains q.1)
def NN : List Nms := F6.flatMap fun F => S7.map fun S => nmOf F S
theorem kvP_some (s : Str) : ∀ F : List (Str × Nat), (valV (F.map kvP) (Sum.inr s : Key)).isSome = (F.map (·.1)).contains s
  | [] => rfl
  | a :: F => by
    have ih := kvP_some s F
    unfold valV at ih ⊢
    rw [List.map_cons, List.find?_cons, List.map_cons, List.contains_cons]
    by_cases h : a.1 = s
    · rw [decide_eq_true (show (kvP a).1 = Sum.inr s by rw [← h]; rfl), h, beq_self_eq_true]
      rfl
    · rw [decide_eq_false (show ¬(kvP a).1 = Sum.inr s from fun z => h (Sum.inr.inj z)), beq_false_of_ne (Ne.symm h), Bool.false_or]
      exact ih
theorem f6_nd : ∀ F ∈ F6, (F.map fun q => (Sum.inr q.1 : Key)).Nodup := by decide +kernel
section
variable {K : PySem.W.Frag} {H G : Hp} {σ : L2.St} {te tl ta tb : TE} {tt : TT} {vs : List Nat} {D : Ends} {tz : TS}
/-- x = pick(stream, data) -/
theorem q_pickD {p q : Addr} {n : Int} {os : List O} {i : Nat} (hs : σ[0]? = some (some (.ref p))) (S : Spr H p q n) (hn : n < 90000) (ne : os ≠ []) (hz : O.szs os ≤ 900)
    (k : ∀ y o G, o ∈ os → OV (Hx (Old H) G) y o → Spr G p q (n + 1) → But p q H G → tz D (σ.set i (some y)) G) : tSeq (tAsg (tCall (spPick K) [] E0 (tCons (tVar 0) (tCons (teO (.lst os)) tNil))) (gName i)) tz D σ H :=
  by
  have he : EvLx H (teO (.lst os)) σ H os := elx_lst (H0 := H) (eax_te (Ex.refl _) os (by omega)) (by have := taO_len os; omega)
  refine ⟨.ref p, hs, he H (Ex.refl _) _ fun c xs H1 hc e1 h1 hx => ?_⟩
  obtain ⟨o1, o2⟩ := S.old
  have S1 := S.ext e1
  have hc1 := S.nep hc
  have hl := hx.length
  have := taO_len os
  refine ⟨p, q, c, n, xs, rfl, S1, by omega, h1, hc1.1, hc1.2, ?_, by omega, fun y G hy S' B => ?_⟩
  · rintro rfl
    exact ne (List.length_eq_zero_iff.mp hl.symm)
  · obtain ⟨o, ho, ov⟩ := ovs_mem hx hy
    exact k y o G ho (ov.ext (Go.but B o1 o2).ex) S' ((But.of e1).trans B)
/-- things that are there, filtered -/
theorem lcF {α : Type} {ls : List α} {g : α → O} {Hf : Hp} {a : Addr} {us : List V} {j : Nat} (f : α → Bool) (h : Ev tl σ H (.ref a)) (hx : H a = some (.lst us)) (hov : OVs Hf us (ls.map g)) (hl : ls.length ≤ 30000) (hw : ∀ x, wipe ((wipe σ vs).set j (some x)) vs = wipe σ vs) (hj : ∀ x, ((wipe σ vs).set j (some x))[j]? = some (some x))
    (ht : ∀ l x G, l ∈ ls → Ex H G → OV Hf x (g l) → EvT tt ((wipe σ vs).set j (some x)) G (f l)) : EvLP (tLc (iList K tl) (gName j) tt (tVar j) vs) σ H (fun xs _ => OVs Hf xs ((ls.filter f).map g)) := fun H1 e Q q =>
  h H1 e _ fun H2 e2 => ⟨a, rfl, ⟨us, sq_of (e2 _ _ (e _ _ hx))⟩, fun Dl hD => by
    have hul : us.length = ls.length := by rw [hov.length, List.length_map]
    refine lc_list (xs := us) (Cwp H2 (fun i => ((ls[i]?).map f).getD false) (fun i v _ => ∃ l, ls[i]? = some l ∧ OV Hf v (g l)) Dl) (cwp0 hD) (fun i G _ p => sq_of (p.2.1 _ _ (e2 _ _ (e _ _ hx)))) (fun i x G hx' p => ?_) (fun G p => ?_)
    · have eG := (e.trans e2).trans p.2.1
      obtain ⟨o, ho, hxo⟩ := hov.get hx'
      rw [List.getElem?_map] at ho
      obtain ⟨l, hl', rfl⟩ := Option.map_eq_some_iff.mp ho
      have hm := List.mem_of_getElem? hl'
      have hi := (List.getElem?_eq_some_iff.mp hl').1
      refine ⟨hw _, cwp_turn (fun i v => fun A B xs hA eA eB kp z => z) p (Ex.refl _) (by omega) ?_ (fun hf G3 g3 G4 g4 Q4 q4 => ⟨x, hj x, q4 x G4 (Ex.refl _) ⟨l, hl', hxo⟩⟩)⟩
      rw [hl']
      exact ht l x G hm eG hxo
    · obtain ⟨p1, p2, acc, p3, p4, p5⟩ := p
      refine q Dl acc G (fresh_back e2 p1) (e2.trans p2) p3 ?_
      have := a2_ovs (G := Hf) (f := f) us.length acc (by omega) p5
      rw [hul, List.take_length] at this
      exact this⟩
end
abbrev nNm : List Str := ["_law_stream", "_law_functions", "_law_some", "_law_pair"]
theorem sc_nm : FnScope nNm ["_law_stream"] (defScope s__law_c_names) := ⟨rfl, rfl, rfl, by decide +kernel, rfl, by decide +kernel, by decide +kernel⟩
def spNm : Sp := fun vs H Q _ => ∃ (p q : Addr) (n : Int), vs = [.ref p] ∧ Spr H p q n ∧ n < 80000 ∧ ∀ (v : V) (nm : Nms) (G : Hp), nm ∈ NN → Spr G p q (n + 1 + 1) → But p q H G → OV (Hx (PQ p q) G) v (nmO nm) → Q v G
def D1 : List O := F6.map prsO
def D2 : List O := S7.map prsO
section
variable {P : Program} {w : World} {K : PySem.W.Frag} {mg : Str → Option Value} {base : Heap}
theorem ok_names (T : T17 P w K mg base) : Ok P w K mg base CX0 "_law_c_names" ["_law_stream"] 3 spNm := by
  obtain ⟨fK, dK, GK, bK, kK, mK⟩ := (ok_pick T).ex
  refine T.ok 16 rfl sc_nm (fun vs H Q E h => ?_) (fun kV doc pm an cdv ct us hl => match us, hl with | [_], _ => rfl) (fun f cdv A outer s H vs Q E hr h => ?_)
  · obtain ⟨p, q, n, rfl, _⟩ := h
    rfl
  · obtain ⟨p, q, n, rfl, S, hn, k⟩ := h
    refine ⟨_, pss_cons (ps_set (i := 1) sc_nm.nd rfl (Or.inr rfl) (pe_call GK hr (by rfl) mK kK bK .nil pass0 (pa_cons (pv 0) (pa_cons (pe_as (t' := teO (.lst D1)) (pe_lst (pa_cons (pe_lst pa_nil) (pa_cons (pe_lst (pa_cons (pe_tup (pa_cons pe_str (pa_cons pe_int pa_nil))) pa_nil)) (pa_cons (pe_lst (pa_cons (pe_tup (pa_cons pe_str (pa_cons pe_int pa_nil))) pa_nil)) (pa_cons (pe_lst (pa_cons (pe_tup (pa_cons pe_str (pa_cons pe_int pa_nil))) (pa_cons (pe_tup (pa_cons pe_str (pa_cons pe_int pa_nil))) pa_nil))) (pa_cons (pe_lst (pa_cons (pe_tup (pa_cons pe_str (pa_cons pe_int pa_nil))) pa_nil)) (pa_cons (pe_lst (pa_cons (pe_tup (pa_cons pe_str (pa_cons pe_int pa_nil))) pa_nil)) pa_nil))))))) (by rfl)) pa_nil))))
      (pss_cons (ps_set (i := 2) sc_nm.nd rfl (Or.inl rfl) (pe_call GK hr (by rfl) mK kK bK .nil pass0 (pa_cons (pv 0) (pa_cons (pe_as (t' := teO (.lst D2)) (pe_lst (pa_cons (pe_lst pa_nil) (pa_cons (pe_lst (pa_cons (pe_tup (pa_cons pe_str (pa_cons pe_int pa_nil))) pa_nil)) (pa_cons (pe_lst (pa_cons (pe_tup (pa_cons pe_str (pa_cons pe_int pa_nil))) pa_nil)) (pa_cons (pe_lst (pa_cons (pe_tup (pa_cons pe_str (pa_cons pe_int pa_nil))) (pa_cons (pe_tup (pa_cons pe_str (pa_cons pe_int pa_nil))) pa_nil))) (pa_cons (pe_lst (pa_cons (pe_tup (pa_cons pe_str (pa_cons pe_int pa_nil))) pa_nil)) (pa_cons (pe_lst (pa_cons (pe_tup (pa_cons pe_str (pa_cons pe_int pa_nil))) pa_nil)) (pa_cons (pe_lst (pa_cons (pe_tup (pa_cons pe_str (pa_cons pe_int pa_nil))) pa_nil)) pa_nil)))))))) (by rfl)) pa_nil))))
      (pss_one (ps_ret (pe_tup (pa_cons (pv 1) (pa_cons (pe_op op_cat (pe_lst (pa_cons (pe_tup (pa_cons pe_str (pa_cons pe_int pa_nil))) pa_nil))
        (pe_lc (own := [("_law_pair", 3)]) (g := gName 3) (tt := tB (tDNotIn (tOp (rIxT K) (tVar 3) (tC (.int 0))) (tCB (fun xs H Q => ∃ a ps kvs, xs = [V.ref a] ∧ SqL K H a (ps.map V.ref) ∧ PySem.Paired (fun p kv => SqT K H p [kV kv.1, kv.2]) ps kvs ∧ ∀ p, H p = none → Q (V.ref p) (upd H p (HO.dK (mergeK [] kvs)))) (tCons (tVar 1) tNil)))) (te := tVar 3) rfl sc_nm.nd (pi_list (pv 2)) (blkOk_by (N := nNm) (sc := defScope s__law_c_names) (by decide +kernel))
          (fun _ _ _ _ _ => pg_name (i := 3) sc_nm.nd rfl (Or.inl rfl)) (fun _ _ _ _ _ => pts_one (pt_cmp (pc_dnotin (hu_of hr) (pe_ix ix_tup (pv 3) pe_int (fun _ _ => rfl)) (pe_callTy (call_dictP rfl) (by rfl) T.dict boot_dict23 (pa_cons (pv 1) pa_nil))))) (fun _ _ _ _ _ => pv 3))) pa_nil)))))), ?_⟩
    refine q_pickD (os := D1) rfl S (by omega) (by decide) (by decide +kernel) fun y o G ho ov1 S1 B1 => ?_
    refine q_pickD (os := D2) rfl S1 (by omega) (by decide) (by decide +kernel) fun y2 o2 G2 ho2 ov2 S2 B2 => ?_
    obtain ⟨F, hF, rfl⟩ := List.mem_map.mp ho
    obtain ⟨Sx, hSx, rfl⟩ := List.mem_map.mp ho2
    obtain ⟨a1, a2⟩ := S.old
    obtain ⟨b1, b2⟩ := S1.old
    have m1 : ∀ b, PQ p q b → Old H b := by rintro b (rfl | rfl) <;> assumption
    have m2 : ∀ b, PQ p q b → Old G b := by rintro b (rfl | rfl) <;> assumption
    have ov1' : OV (Hx (PQ p q) G2) y (prsO F) := (ov1.ext (hx_mono m1)).ext (go_pq B2).ex
    have ov2' : OV (Hx (PQ p q) G2) y2 (prsO Sx) := ov2.ext (hx_mono m2)
    obtain ⟨c1, us1, rfl, hc1, hus1⟩ := ov1'
    obtain ⟨c2, us2, rfl, hc2, hus2⟩ := ov2'
    have hc1' := (hx_to hc1).2.2
    have hc2' := (hx_to hc2).2.2
    obtain ⟨ps, eus, hps⟩ := prs_paired (K := K) (hus1.ext hx_ex)
    refine s_retUP (P := fun zs G3 => ∃ pl xs t, zs = [.ref c1, .ref pl] ∧ G2 pl = none ∧ G2 t = none ∧ G3 pl = some (.lst (.ref t :: xs)) ∧ G3 t = some (.tup [.str "p", .int 1]) ∧ OVs (Hx (PQ p q) G2) xs ((Sx.filter fun q => !(F.map (·.1)).contains q.1).map prO)) (fun H1 e Q q' => ?_) fun r zs G3 hr3 e3 h3 ⟨pl, xs, t, ez, npl, nt, hpl, ht, hxs⟩ => ?_
    · refine ⟨_, rfl, elp_cat (P1 := fun xs G4 => ∃ t, xs = [.ref t] ∧ G2 t = none ∧ G4 t = some (.tup [.str "p", .int 1])) (fun H5 e5 Q5 q5 => ⟨by show 2 ≤ sizeLine; decide, fun t ht => ⟨by show 1 ≤ sizeLine; decide, fun pl hpl => q5 pl _ _ (fresh_back (Ex.new ht) hpl) ((Ex.new ht).trans (Ex.new hpl)) upd_same ⟨t, rfl, fresh_back e5 ht, Ex.new hpl _ _ upd_same⟩⟩⟩)
        (lcF (g := prO) (Hf := Hx (PQ p q) G2) (fun q => !(F.map (·.1)).contains q.1) (ev_var rfl) hc2' hus2 ?_ (fun _ => rfl) (fun _ => rfl) fun l x G5 hl e5 hx => ?_) (fun xs A B e z => ?_) (fun xs A B e z => z) ?_ H1 e _ fun pl xs G5 npl e5 h5 hP => ?_⟩
      · have : ∀ s ∈ S7, s.length ≤ 30000 := by decide +kernel
        exact this _ hSx
      · obtain ⟨t, rfl, ht⟩ := pr_at (hx.ext hx_ex)
        refine et_B fun H6 e6 Q6 q6 => ⟨_, rfl, t, _, 0, .str l.1, rfl, rfl, st_of (e6 _ _ (e5 _ _ ht)), atI_nat (j := 0) rfl, .ref c1, rfl, c1, ps, F.map kvP, rfl, sq_of ?_, ?_, fun d hd => ⟨d, _, rfl, DGet.k (k := Sum.inr l.1) upd_same, ?_⟩⟩
        · rw [← eus]
          exact e6 _ _ (e5 _ _ hc1')
        · have hps2 : PySem.Paired (fun p kv => SqT K H6 p [kV kv.1, kv.2]) ps (F.map kvP) := by
            obtain ⟨ps2, eus2, hps2⟩ := prs_paired (K := K) (hus1.ext (hx_ex.trans (e5.trans e6)))
            have : ps2 = ps := by
              have e0 : ps2.map V.ref = ps.map V.ref := by rw [← eus2, eus]
              exact List.map_inj_right (f := V.ref) (fun a b h => V.ref.inj h) |>.mp e0
            rw [← this]
            exact hps2
          exact hps2
        · have hk : (F.map kvP).map (·.1) = F.map fun q => (Sum.inr q.1 : Key) := by rw [List.map_map]; rfl
          have e7 : (!(valV (mergeK [] (F.map kvP)) (Sum.inr l.1 : Key)).isSome) = !(F.map (·.1)).contains l.1 := by
            rw [mergeK_new (acc := []) (kvs := F.map kvP) (by rw [List.nil_append, hk]; exact f6_nd F hF), List.nil_append]
            rw [kvP_some]
          rw [e7]
          exact q6 _ (Ex.new hd)
      · obtain ⟨t, a, b, c⟩ := z
        exact ⟨t, a, b, e _ _ c⟩
      · rintro xs ys G6 ⟨t, rfl, _, _⟩ hy
        have := hy.length
        rw [List.length_map] at this
        have h2 := List.length_filter_le (fun q : Str × Nat => !(F.map (·.1)).contains q.1) Sx
        have h3 : ∀ s ∈ S7, s.length ≤ 30000 := by decide +kernel
        have := h3 _ hSx
        simp
        omega
      · obtain ⟨xs1, ys, rfl, ⟨t, rfl, nt, ht⟩, hy⟩ := hP
        exact ⟨by show 2 ≤ sizeLine; decide, fun r hr => q' r _ _ (fresh_back e5 hr) (e5.trans (Ex.new hr)) upd_same ⟨pl, ys, t, rfl, fresh_back e npl, nt, Ex.new hr _ _ h5, Ex.new hr _ _ ht, hy⟩⟩
    · have g3 : Go (PQ p q) G2 G3 := Go.of e3
      have nb : ∀ b, G2 b = none → ¬ PQ p q b := by
        intro b hb hpq
        have := S2.nep hb
        rcases hpq with rfl | rfl
        · exact this.1 rfl
        · exact this.2 rfl
      refine k (.ref r) (nmOf F Sx) G3 (List.mem_flatMap.mpr ⟨F, hF, List.mem_map.mpr ⟨Sx, hSx, rfl⟩⟩) (S2.ext e3) ((B1.trans B2).trans (But.of e3)) ⟨r, zs, rfl, hx_of (nb r hr3) tup_tbl h3, ?_⟩
      subst ez
      refine .cons ⟨c1, us1, rfl, g3.ex _ _ hc1, hus1.ext g3.ex⟩ (.cons ⟨pl, _, rfl, hx_of (nb pl npl) lst_tbl hpl, .cons ⟨t, _, rfl, hx_of (nb t nt) tup_tbl ht, .cons rfl (.cons rfl .nil)⟩ (hxs.ext g3.ex)⟩ .nil)
end
end K17

set_option Elab.async false
set_option linter.all false
set_option maxRecDepth 100000
set_option maxHeartbeats 4000000
/-! _law_c_word. -/
namespace K17
open PySem PySem.Spec PyProof.Rows L2 Evl
section
variable {K : PySem.W.Frag} {H G : Hp} {σ : L2.St} {te tl ta tb : TE} {tt : TT} {vs : List Nat} {D : Ends} {tz tu : TS}
/-- [.. for name, places in names if ..] -/
theorem lcP {a : Addr} {us : List V} {ls : List (Str × Nat)} {j1 j2 : Nat} (f : Str × Nat → Bool) (g : Str × Nat → O) (h : Ev tl σ H (.ref a)) (hx : H a = some (.lst us)) (hov : OVs H us (ls.map prO)) (hl : ls.length ≤ 30000)
    (hw : ∀ x y, wipe (((wipe σ vs).set j1 (some x)).set j2 (some y)) vs = wipe σ vs)
    (ht : ∀ l G, l ∈ ls → Ex H G → EvT tt (((wipe σ vs).set j1 (some (.str l.1))).set j2 (some (.int (l.2 : Nat)))) G (f l))
    (he : ∀ l G, l ∈ ls → Ex H G → f l = true → EvO te (((wipe σ vs).set j1 (some (.str l.1))).set j2 (some (.int (l.2 : Nat)))) G (g l))
    (hp : ∀ l ∈ ls, (g l).hasL = false ∧ (g l).nod = true) : EvLP (tLc (iList K tl) (gPair K j1 j2) tt te vs) σ H (fun xs G => OVs G xs ((ls.filter f).map g)) := fun H1 e Q q =>
  h H1 e _ fun H2 e2 => ⟨a, rfl, ⟨us, sq_of (e2 _ _ (e _ _ hx))⟩, fun Dl hD => by
    have hul : us.length = ls.length := by rw [hov.length, List.length_map]
    refine lc_list (xs := us) (Cwp H2 (fun i => ((ls[i]?).map f).getD false) (fun i v G => ∃ l, ls[i]? = some l ∧ OV G v (g l)) Dl) (cwp0 hD) (fun i G _ p => sq_of (p.2.1 _ _ (e2 _ _ (e _ _ hx)))) (fun i x G hx' p => ?_) (fun G p => ?_)
    · have eG := (e.trans e2).trans p.2.1
      obtain ⟨o, ho, hxo⟩ := (hov.ext eG).get hx'
      rw [List.getElem?_map] at ho
      obtain ⟨l, hl', rfl⟩ := Option.map_eq_some_iff.mp ho
      obtain ⟨t, rfl, ht0⟩ := pr_at hxo
      have hm := List.mem_of_getElem? hl'
      have hi := (List.getElem?_eq_some_iff.mp hl').1
      refine ⟨t, _, rfl, st_of ht0, rfl, _, _, rfl, _, _, rfl, rfl, hw _ _, cwp_turn (fun i v => ?_) p (Ex.refl _) (by omega) ?_ (fun hf G3 g3 => ?_)⟩
      · intro A B xs hA eA eB kp ⟨l, hl, ov⟩
        obtain ⟨p1, p2⟩ := hp l (List.mem_of_getElem? hl)
        exact ⟨l, hl, upd_ov p1 p2 A B xs hA eA eB kp ov⟩
      · rw [hl']
        exact ht l G hm eG
      · rw [hl'] at hf
        exact fun G4 g4 Q4 q4 => he l G hm eG hf G4 (g3.trans g4) Q4 fun v G5 g5 ov => q4 v G5 g5 ⟨l, hl', ov⟩
    · obtain ⟨p1, p2, acc, p3, p4, p5⟩ := p
      refine q Dl acc G (fresh_back e2 p1) (e2.trans p2) p3 ?_
      have := a2_ovs us.length acc (by omega) p5
      rw [hul, List.take_length] at this
      exact this⟩
/-- list(xs), xs a list -/
theorem elp_listOf {a : Addr} {us : List V} (h : Ev te σ H (.ref a)) (ha : H a = some (.lst us)) : EvLP (tCB (fun xs H Q => ∃ p ys, xs = [V.ref p] ∧ (SqL K H p ys ∨ SqT K H p ys) ∧ ∀ l, H l = none → Q (V.ref l) (upd H l (HO.lst ys))) (tCons te tNil)) σ H (fun xs _ => xs = us) := fun H1 e Q q =>
  h H1 e _ fun H2 e2 => ⟨a, us, rfl, .inl (sq_of (e2 _ _ (e _ _ ha))), fun l hl => q l us _ (fresh_back e2 hl) (e2.trans (Ex.new hl)) upd_same rfl⟩
theorem q_whenP {t : TT} (h : t σ H fun b H1 => if b = true then tu { D with nx := tz D } σ H1 else tz D σ H1) : tSeq (tIfS t tu tNext) tz D σ H := h
end
theorem strs_ov {G : Hp} : ∀ ss : List Str, OVs G (sVs ss) (ss.map O.str)
  | [] => .nil
  | s :: ss => .cons rfl (strs_ov ss)
theorem strs_of {G : Hp} : ∀ {ss : List Str} {xs : List V}, OVs G xs (ss.map O.str) → xs = sVs ss
  | [], xs, h => h
  | s :: ss, xs, ⟨x, us, e, h1, h2⟩ => by
    rw [e, strs_of h2, show x = V.str s from h1]
    rfl
/-- a word that was drawn -/
structure Wq (F : List (Str × Nat)) (ss : List Str) (d : Nat) (z : W) : Prop where
  wf : z.wf F = true
  vr : ∀ s ∈ z.allv, s ∈ ss
  dp : z.dp ≤ d + 1
  sz : z.sz ≤ 2 * d + 2
  wd : z.o.wd = true
theorem f6_one : ∀ F ∈ F6, ∀ q ∈ F, q.2 ≤ 1 ∧ SS.contains q.1 = true := by decide +kernel
theorem f6_len : ∀ F ∈ F6, F.length ≤ 2 := by decide +kernel
abbrev nWd : List Str := ["_law_stream", "_law_functions", "_law_variables", "_law_deep", "_law_some", "_law_wide", "_law_name", "_law_places"]
theorem sc_wd : FnScope nWd ["_law_stream", "_law_functions", "_law_variables", "_law_deep"] (defScope s__law_c_word) := ⟨rfl, rfl, rfl, by decide +kernel, rfl, by decide +kernel, by decide +kernel⟩
def spWd (m : Nat) : Sp := fun vs H Q _ => ∃ (p q fa va : Addr) (n : Int) (fu : List V) (F : List (Str × Nat)) (ss : List Str) (d : Nat), vs = [.ref p, .ref fa, .ref va, .int (d : Nat)] ∧ Spr H p q n ∧ n + 2 * (d : Int) < 80000 ∧ H fa = some (.lst fu) ∧ OVs H fu (F.map prO) ∧ F ∈ F6 ∧ H va = some (.lst (sVs ss)) ∧ fa ≠ p ∧ fa ≠ q ∧ va ≠ p ∧ va ≠ q ∧ ss ≠ [] ∧ ss.length ≤ 10 ∧ (∀ s ∈ ss, SS.contains s = true) ∧ d < m ∧ d ≤ 3 ∧
  ∀ (v : V) (z : W) (n' : Int) (G : Hp), Wq F ss d z → WV G v z → Spr G p q n' → n' ≤ n + 2 * (d : Int) + 2 → But p q H G → Q v G
section
variable {P : Program} {w : World} {K : PySem.W.Frag} {mg : Str → Option Value} {base : Heap}
theorem but_sq {p q : Addr} {H G : Hp} (B : But p q H G) {a : Addr} {o : HO} (h1 : a ≠ p) (h2 : a ≠ q) (h : H a = some o) : G a = some o := B _ _ h1 h2 h
theorem ok_word (T : T17 P w K mg base) : ∀ m, Ok P w K mg base CX0 "_law_c_word" ["_law_stream", "_law_functions", "_law_variables", "_law_deep"] (m + 3) (spWd m)
  | 0 => T.ok 17 rfl sc_wd (fun vs H Q E h => by obtain ⟨p, q, fa, va, n, fu, F, ss, d, rfl, _⟩ := h; rfl) (fun kV doc pm an cdv ct us hl => match us, hl with | [_, _, _, _], _ => rfl) (fun f cdv A outer s H vs Q E hr h => by obtain ⟨p, q, fa, va, n, fu, F, ss, d, _, _, _, _, _, _, _, _, _, _, _, _, _, _, h0, _⟩ := h; exact absurd h0 (Nat.not_lt_zero _))
  | m + 1 => by
    obtain ⟨fR, dR, GR, bR, kR, mR⟩ := (ok_word T m).ex
    obtain ⟨fD, dD, GD, bD, kD, mD⟩ := (ok_dr T).ex
    obtain ⟨fK, dK, GK, bK, kK, mK⟩ := (ok_pick T).ex
    refine T.ok 17 rfl sc_wd (fun vs H Q E h => ?_) (fun kV doc pm an cdv ct us hl => match us, hl with | [_, _, _, _], _ => rfl) (fun f cdv A outer s H vs Q E hr h => ?_)
    · obtain ⟨p, q, fa, va, n, fu, F, ss, d, rfl, _⟩ := h
      rfl
    · obtain ⟨p, q, fa, va, n, fu, F, ss, d, rfl, S, hn, hfa, hfu, hF, hva, f1, f2, v1, v2, hne, hsl, hss, hd, hd3, k⟩ := h
      refine ⟨_, pss_cons (ps_set (i := 4) sc_wd.nd rfl (Or.inl rfl) (pe_op op_cat (pe_lc (own := [("_law_name", 6), ("_law_places", 7)]) (g := gPair K 6 7) (tt := tTest (tOp rEq (tVar 7) (tC (.int 0)))) (te := tTup (tCons (tVar 6) tNil)) rfl sc_wd.nd (pi_list (pv 1)) (blkOk_by (N := nWd) (sc := defScope s__law_c_word) (by decide +kernel))
            (fun _ _ _ _ _ => pg_tup rfl (pgs_cons (pg_name (i := 6) sc_wd.nd rfl (Or.inl rfl)) (pgs_cons (pg_name (i := 7) sc_wd.nd rfl (Or.inl rfl)) pgs_nil))) (fun _ _ _ _ _ => pts_one (pt_cmpR op_eq (pv 7) pe_int (nomark _))) (fun _ _ _ _ _ => pe_tup (pa_cons (pv 6) pa_nil)))
          (pe_callTy call_list_of (by rfl) T.list PyProof.Rows.boot_list (pa_cons (pv 2) pa_nil))))
        (pss_cons (ps_setLc (i := 5) (own := [("_law_name", 6), ("_law_places", 7)]) (g := gPair K 6 7) (tt := tTest (tOp (rI0 fun i j => V.bl (decide (j < i))) (tVar 7) (tC (.int 0)))) (te := tVar 6) (by rfl) sc_wd.nd rfl rfl (sw_true rfl rfl rfl (by decide +kernel)) (pi_list (pv 1)) (blkOk_by (N := nWd) (sc := defScope s__law_c_word) (by decide +kernel))
            (fun _ _ _ _ _ => pg_tup rfl (pgs_cons (pg_name (i := 6) sc_wd.nd rfl (Or.inl rfl)) (pgs_cons (pg_name (i := 7) sc_wd.nd rfl (Or.inl rfl)) pgs_nil))) (fun _ _ _ _ _ => pts_one (pt_cmpR op_gt (pv 7) pe_int (nomark _))) (fun _ _ _ _ _ => pv 6))
        (pss_cons (ps_if (PW.pt (pw_or (pt_cmpR (op_eqD hr.units) (pv 5) (pe_lst pa_nil) (nomark _)) (pw_or (pt_cmpR op_eq (pv 3) pe_int (nomark _)) (pw_or1 (pt_cmpR op_gt (pe_call GD (hr.mono (by omega)) (by rfl) mD kD bD .nil pass0 (pa_cons (pv 0) (pa_cons pe_int pa_nil))) pe_int (nomark _))))))
          (pss_one (ps_ret (pe_call GK (hr.mono (by omega)) (by rfl) mK kK bK .nil pass0 (pa_cons (pv 0) (pa_cons (pv 4) pa_nil))))) pss_nil)
        (pss_one (ps_ret (pe_tup (pa_cons (pe_call GK (hr.mono (by omega)) (by rfl) mK kK bK .nil pass0 (pa_cons (pv 0) (pa_cons (pv 5) pa_nil)))
          (pa_cons (pe_call GR hr (by rfl) mR kR bR .nil pass0 (pa_cons (pv 0) (pa_cons (pv 1) (pa_cons (pv 2) (pa_cons (pe_op op_sub (pv 3) pe_int) pa_nil))))) pa_nil))))))), ?_⟩
      have hfl := f6_len F hF
      refine q_asgLP (elp_cat (lcP (fun q => decide (q.2 = 0)) (fun q => (W.n q.1 []).o) (ev_var rfl) hfa hfu (by omega) (fun _ _ => rfl) (fun l G hl eG => et_is (et_test (ev_op (ev_var rfl) ev_c (rv_eq rfl))) (decide_eq_decide.mpr ⟨fun z => by have := V.int.inj z; omega, fun z => by rw [z]; rfl⟩)) (fun l G hl eG _ => eo_tup (eao_cons (eo_var rfl rfl) eao_nil) (by show 1 ≤ 1000; decide)) fun l _ => ⟨rfl, rfl⟩) (elp_listOf (ev_var rfl) hva) (fun _ => up_ovs) (fun _ _ _ _ z => z) ?_) fun c xs H1 hc e1 h1 hx => ?_
      · rintro xs ys G h rfl
        have := h.length
        rw [List.length_map] at this
        have h2 := List.length_filter_le (fun q : Str × Nat => decide (q.2 = 0)) F
        rw [sVs_len]
        omega
      obtain ⟨ws, _, rfl, hws, rfl⟩ := hx
      refine q_asgLP (lcP (fun q => decide (0 < q.2)) (fun q => O.str q.1) (ev_var rfl) (e1 _ _ hfa) (hfu.ext e1) (by omega) (fun _ _ => rfl) (fun l G hl eG => et_test (fun H1 e Q q => ⟨_, rfl, _, _, rfl, rfl, ?_⟩)) (fun l G hl eG _ => eo_var rfl rfl) fun l _ => ⟨rfl, rfl⟩) fun c2 xs2 H2 hc2 e2 h2 hx2 => ?_
      · have : decide ((0 : Int) < (l.2 : Nat)) = decide (0 < l.2) := decide_eq_decide.mpr (by omega)
        show Q (.bl (decide ((0 : Int) < (l.2 : Nat)))) H1
        rw [this]
        exact q H1 (Ex.refl _)
      rw [show (fun q : Str × Nat => O.str q.1) = O.str ∘ (fun q : Str × Nat => q.1) from rfl, ← List.map_map] at hx2
      obtain rfl := strs_of hx2
      have e12 := e1.trans e2
      have n1 := (S.nep hc)
      have n2 := (S.nep (fresh_back e1 hc2))
      -- pick(stream, some)
      have goA : ∀ (G : Hp) (n1' : Int), But p q H2 G → Spr G p q n1' → n1' ≤ n + 1 → tRet (tCall (spPick K) [] E0 (tCons (tVar 0) (tCons (tVar 4) tNil))) { nx := fun x H' => Q V.non H', rt := Q } [some (.ref p), some (.ref fa), some (.ref va), some (.int (d : Nat)), some (.ref c), some (.ref c2), none, none] G := fun G n1' B S1 hn1 => by
        have hcG := B _ _ n1.1 n1.2 (e2 _ _ h1)
        refine ⟨_, rfl, _, rfl, p, q, c, n1', _, rfl, S1, by omega, hcG, n1.1, n1.2, ?_, ?_, fun y G2 hy S2 B2 => ?_⟩
        · intro z
          have := (List.append_eq_nil_iff.mp z).2
          exact hne (List.length_eq_zero_iff.mp (by rw [← sVs_len ss, this]; rfl))
        · have := hws.length
          rw [List.length_map] at this
          have h3 := List.length_filter_le (fun q : Str × Nat => decide (q.2 = 0)) F
          rw [List.length_append, sVs_len]
          omega
        · have BB := ((But.of e12).trans B).trans B2
          rcases List.mem_append.mp hy with hy | hy
          · obtain ⟨o, ho, ov⟩ := ovs_mem hws hy
            obtain ⟨l, hl, rfl⟩ := List.mem_map.mp ho
            obtain ⟨hl1, hl2⟩ := List.mem_filter.mp hl
            have hl0 : l.2 = 0 := of_decide_eq_true hl2
            have B12 : But p q H1 G2 := ((But.of e2).trans B).trans B2
            refine k y (.n l.1 []) _ G2 ⟨?_, (fun s hs => nomatch hs), Nat.succ_le_succ (Nat.zero_le _), by show 0 + 2 ≤ _; omega, ?_⟩ (WV.tx ((S.ext e1).tx B12) ov) S2 (by omega) BB
            · show (decide ((l.1, 0) ∈ F) && true) = true
              rw [Bool.and_true, ← hl0]
              exact decide_eq_true hl1
            · show (SS.contains l.1 && true) = true
              rw [(f6_one F hF l hl1).2]
              rfl
          · obtain ⟨s, hs, rfl⟩ := List.mem_map.mp hy
            exact k (.str s) (.v s) _ G2 ⟨rfl, fun t ht => by rw [List.mem_singleton.mp ht]; exact hs, Nat.zero_le _, by show 1 ≤ _; omega, hss s hs⟩ rfl S2 (by omega) BB
      have goB : ∀ (G : Hp) (n1' : Int), But p q H2 G → Spr G p q n1' → n1' ≤ n + 1 → 1 ≤ d → (F.filter fun q => decide (0 < q.2)) ≠ [] → tRet (tTup (tCons (tCall (spPick K) [] E0 (tCons (tVar 0) (tCons (tVar 5) tNil))) (tCons (tCall (spWd m) [] E0 (tCons (tVar 0) (tCons (tVar 1) (tCons (tVar 2) (tCons (tOp (rI0 fun i j => V.int (i - j)) (tVar 3) (tC (.int 1))) tNil))))) tNil))) { nx := fun x H' => Q V.non H', rt := Q } [some (.ref p), some (.ref fa), some (.ref va), some (.int (d : Nat)), some (.ref c), some (.ref c2), none, none] G := fun G n1' B S1 hn1 hd1 hwide => by
        have hcG := B _ _ n2.1 n2.2 h2
        refine ⟨_, rfl, _, rfl, p, q, c2, n1', _, rfl, S1, by omega, hcG, n2.1, n2.2, ?_, ?_, fun y G2 hy S2 B2 => ?_⟩
        · intro z
          refine hwide (List.length_eq_zero_iff.mp ?_)
          have := sVs_len ((F.filter fun q => decide (0 < q.2)).map (·.1))
          rw [z, List.length_map] at this
          exact this.symm
        · have h3 := List.length_filter_le (fun q : Str × Nat => decide (0 < q.2)) F
          rw [sVs_len, List.length_map]
          omega
        · obtain ⟨s, hs, rfl⟩ := List.mem_map.mp hy
          obtain ⟨l, hl, rfl⟩ := List.mem_map.mp hs
          obtain ⟨hl1, hl2⟩ := List.mem_filter.mp hl
          have hl0 : 0 < l.2 := of_decide_eq_true hl2
          have hl3 := (f6_one F hF l hl1).1
          have B02 := ((But.of e12).trans B).trans B2
          refine ⟨_, rfl, _, rfl, _, rfl, _, rfl, _, _, rfl, rfl, p, q, fa, va, n1' + 1, fu, F, ss, d - 1, ?_, S2, by omega, B02 _ _ f1 f2 hfa, OVs.tx (S.tx B02) (hasLs_all.mpr fun o ho => by obtain ⟨q, _, rfl⟩ := List.mem_map.mp ho; rfl) (nods_all.mpr fun o ho => by obtain ⟨q, _, rfl⟩ := List.mem_map.mp ho; rfl) hfu, hF, B02 _ _ v1 v2 hva, f1, f2, v1, v2, hne, hsl, hss, by omega, by omega, fun v z n' G3 hz hv S3 hn3 B3 => ⟨by show 2 ≤ sizeLine; decide, fun t ht => ?_⟩⟩
          · show [V.ref p, V.ref fa, V.ref va, V.int ((d : Nat) - 1)] = _
            rw [show ((d : Nat) : Int) - 1 = ((d - 1 : Nat) : Int) by omega]
          · have e4 : Ex G3 (upd G3 t (.tup [.str l.1, v])) := Ex.new ht
            refine k (.ref t) (.n l.1 [z]) n' _ ⟨?_, ?_, ?_, ?_, ?_⟩ (WV.of upd_same (.cons (hv.ext e4) .nil)) (S3.ext e4) (by omega) ((B02.trans B3).trans (But.of e4))
            · show (decide ((l.1, 1) ∈ F) && (z.wf F && true)) = true
              rw [hz.wf, Bool.and_true, Bool.and_true, show (1 : Nat) = l.2 by omega]
              exact decide_eq_true hl1
            · intro s hs
              have hs : s ∈ z.allv ++ [] := hs
              rw [List.append_nil] at hs
              exact hz.vr s hs
            · have := hz.dp
              show max z.dp 0 + 1 ≤ d + 1
              omega
            · have := hz.sz
              show (z.sz + 0) + 2 ≤ 2 * d + 2
              omega
            · show (SS.contains l.1 && (z.o.wd && true)) = true
              rw [(f6_one F hF l hl1).2, hz.wd]
              rfl
      refine q_whenP ?_
      have hem : ((O.lst (((F.filter fun q => decide (0 < q.2)).map (·.1)).map O.str)).eqv (.lst [])) = (F.filter fun q => decide (0 < q.2)).isEmpty := by
        cases F.filter fun q => decide (0 < q.2) with
        | nil => simp [O.eqv, O.py, O.pys, PyData.eqv, PyData.eqvAll]
        | cons a b => simp [O.eqv, O.py, O.pys, PyData.eqv, PyData.eqvAll]
      refine et_is (et_test (ev_opO (a := .lst (((F.filter fun q => decide (0 < q.2)).map (·.1)).map O.str)) (b := .lst []) (eo_var rfl ⟨c2, _, rfl, h2, strs_ov _⟩) (eo_lst eao_nil (by decide)) fun u w G eG hu hw' => rv_eqO hu hw' ?_ rfl ?_ (by decide))) hem H2 (Ex.refl _) _ fun H3 e3 => ?_
      · refine eds_all.mpr fun o ho => ?_
        obtain ⟨s, hs, rfl⟩ := List.mem_map.mp ho
        obtain ⟨l, hl, rfl⟩ := List.mem_map.mp hs
        exact (f6_one F hF l (List.mem_filter.mp hl).1).2
      · refine Nat.le_trans (show _ ≤ 1 from Nat.succ_le_succ (dps_all.mpr fun o ho => ?_)) (by decide)
        obtain ⟨s, hs, rfl⟩ := List.mem_map.mp ho
        exact Nat.le_refl _
      · cases hE : (F.filter fun q => decide (0 < q.2)).isEmpty with
        | true =>
          exact goA H3 n (But.of e3) ((S.ext e12).ext e3) (by omega)
        | false =>
          rw [if_neg (by decide)]
          have hwide : (F.filter fun q => decide (0 < q.2)) ≠ [] := by intro z; rw [z] at hE; cases hE
          refine et_is (b := decide (d = 0)) (et_test (ev_op (ev_var rfl) ev_c (rv_eq rfl))) (decide_eq_decide.mpr ⟨fun z => by have := V.int.inj z; omega, fun z => by rw [z]; rfl⟩) H3 (Ex.refl _) _ fun H4 e4 => ?_
          by_cases hd0 : d = 0
          · rw [decide_eq_true hd0]
            exact goA H4 n ((But.of e3).trans (But.of e4)) (((S.ext e12).ext e3).ext e4) (by omega)
          · rw [decide_eq_false hd0, if_neg (by decide)]
            refine ⟨_, rfl, p, q, n, 3, rfl, ((S.ext e12).ext e3).ext e4, by omega, by decide, by decide, fun r G r0 r1 S' B => ⟨_, _, rfl, rfl, _, rfl, ?_⟩⟩
            have BB : But p q H2 G := ((But.of e3).trans (But.of e4)).trans B
            by_cases hr0 : (0 : Int) < r
            · rw [decide_eq_true hr0]
              exact goA G (n + 1) BB S' (by omega)
            · rw [decide_eq_false hr0]
              exact goB G (n + 1) BB S' (by omega) (by omega) hwide
end
end K17

set_option Elab.async false
set_option linter.all false
set_option maxRecDepth 100000
set_option maxHeartbeats 4000000
/-! _law_c_atom. -/
namespace K17
open PySem PySem.Spec PyProof.Rows L2 Evl
theorem nn_ok : ∀ nm ∈ NN, nm.1 ∈ F6 ∧ nm.2 ≠ [] ∧ nm.2.length ≤ 3 ∧ ∀ q ∈ nm.2, q.2 ≤ 2 ∧ SS.contains q.1 = true ∧ NK.contains q.1 = false ∧ q.1 ≠ ("=" : Str) := by decide +kernel
structure Atw (nm : Nms) (ss : List Str) (z : W) : Prop where
  aw : Aw nm z
  eq : ∃ s as, z = .n s as ∧ (s = ("=" : Str) → ∃ a b, as = [a, b])
  vr : ∀ s ∈ z.allv, s ∈ ss
  dp : z.dp ≤ 4
  sz : z.sz ≤ 20
  wd : z.o.wd = true
theorem wfs_of {F : List (Str × Nat)} {ss : List Str} {d : Nat} : ∀ {zs : List W}, (∀ z ∈ zs, Wq F ss d z) → W.wfs F zs = true ∧ (∀ s ∈ W.allvs zs, s ∈ ss) ∧ W.dps zs ≤ d + 1 ∧ W.szs zs ≤ (2 * d + 2) * zs.length ∧ O.wds (W.os zs) = true
  | [], _ => ⟨rfl, (fun s hs => nomatch hs), Nat.zero_le _, Nat.zero_le _, rfl⟩
  | z :: zs, h => by
    have hz := h z List.mem_cons_self
    obtain ⟨a, b, c, d', e⟩ := wfs_of (zs := zs) fun y hy => h y (List.mem_cons_of_mem _ hy)
    refine ⟨?_, ?_, ?_, ?_, ?_⟩
    · show (z.wf F && W.wfs F zs) = true
      rw [hz.wf, a]
      rfl
    · intro s hs
      rcases List.mem_append.mp (show s ∈ z.allv ++ W.allvs zs from hs) with q | q
      · exact hz.vr s q
      · exact b s q
    · have := hz.dp
      show max z.dp (W.dps zs) ≤ d + 1
      omega
    · have := hz.sz
      show z.sz + W.szs zs ≤ (2 * d + 2) * (zs.length + 1)
      rw [Nat.mul_succ]
      omega
    · show (z.o.wd && O.wds (W.os zs)) = true
      rw [hz.wd, e]
      rfl
theorem atw_of {nm : Nms} {ss : List Str} {s : Str} {zs : List W} (hss : SS.contains s = true) (hnk : NK.contains s = false) (hz : ∀ z ∈ zs, Wq nm.1 ss 1 z) (hl : zs.length ≤ 2) (h : (s = ("=" : Str) ∧ zs.length = 2) ∨ (s ≠ ("=" : Str) ∧ (s, zs.length) ∈ nm.2)) : Atw nm ss (.n s zs) := by
  obtain ⟨a, b, c, d, e⟩ := wfs_of hz
  refine ⟨⟨s, zs, rfl, a, hnk, h⟩, ⟨s, zs, rfl, fun q => ?_⟩, b, Nat.succ_le_succ (Nat.le_trans c (by decide)), ?_, ?_⟩
  · rcases h with ⟨_, h⟩ | ⟨h, _⟩
    · match zs, h with
      | [x, y], _ => exact ⟨x, y, rfl⟩
    · exact absurd q h
  · have : (2 * 1 + 2) * zs.length ≤ (2 * 1 + 2) * 2 := Nat.mul_le_mul_left _ hl
    show W.szs zs + 2 ≤ 20
    omega
  · show (SS.contains s && O.wds (W.os zs)) = true
    rw [hss, e]
    rfl
/-- the names at v, seen apart from the stream -/
structure NmV (H : Hp) (p q : Addr) (v : V) (nm : Nms) : Prop where
  ov : OV (Hx (PQ p q) H) v (nmO nm)
  mem : nm ∈ NN
theorem NmV.go {H G : Hp} {p q : Addr} {v : V} {nm : Nms} (h : NmV H p q v nm) (B : But p q H G) : NmV G p q v nm := ⟨h.ov.ext (go_pq B).ex, h.mem⟩
theorem NmV.at_ {H : Hp} {p q : Addr} {v : V} {nm : Nms} (h : NmV H p q v nm) : ∃ t fa pa fu pu, v = .ref t ∧ H t = some (.tup [.ref fa, .ref pa]) ∧ t ≠ p ∧ t ≠ q ∧
    H fa = some (.lst fu) ∧ fa ≠ p ∧ fa ≠ q ∧ OVs H fu (nm.1.map prO) ∧ H pa = some (.lst pu) ∧ pa ≠ p ∧ pa ≠ q ∧ OVs H pu (nm.2.map prO) ∧ OVs (Hx (PQ p q) H) pu (nm.2.map prO) ∧ OVs (Hx (PQ p q) H) fu (nm.1.map prO) := by
  obtain ⟨t, zs, rfl, ht, x1, z1, rfl, ⟨fa, fu, rfl, hfa, hfu⟩, x2, z2, rfl, ⟨pa, pu, rfl, hpa, hpu⟩, hz⟩ := h.ov
  obtain rfl : z2 = [] := hz
  have h1 := hx_to ht
  have h2 := hx_to hfa
  have h3 := hx_to hpa
  exact ⟨t, fa, pa, fu, pu, rfl, h1.2.2, (fun z => h1.1 (.inl z)), (fun z => h1.1 (.inr z)), h2.2.2, (fun z => h2.1 (.inl z)), (fun z => h2.1 (.inr z)), hfu.ext hx_ex, h3.2.2, (fun z => h3.1 (.inl z)), (fun z => h3.1 (.inr z)), hpu.ext hx_ex, hpu, hfu⟩
section
variable {K : PySem.W.Frag} {H G : Hp} {σ : L2.St} {tl : TE}
abbrev tWd (K : PySem.W.Frag) : TE := tCall (spWd 2) [] E0 (tCons (tVar 0) (tCons (tOp (rIxT K) (tVar 1) (tC (.int 0))) (tCons (tVar 2) (tCons (tC (.int 1)) tNil))))
/-- [_law_c_word(stream, names[0], variables, 1) for k in range(k)] -/
theorem lc_words {p q va : Addr} {n : Int} {nv : V} {nm : Nms} {ss : List Str} {k : Nat} {Q : VK} (hl : Ev tl σ H (.int (k : Nat))) (hk : k ≤ 10) (S : Spr H p q n) (hn : n < 70000) (hnm : NmV H p q nv nm) (hva : H va = some (.lst (sVs ss))) (v1 : va ≠ p) (v2 : va ≠ q) (hne : ss ≠ []) (hsl : ss.length ≤ 10) (hss : ∀ s ∈ ss, SS.contains s = true)
    (hw : ∀ x, wipe ((wipe σ [9]).set 9 (some x)) [9] = wipe σ [9]) (h0 : ∀ x, ((wipe σ [9]).set 9 (some x))[0]? = some (some (.ref p))) (h1 : ∀ x, ((wipe σ [9]).set 9 (some x))[1]? = some (some nv)) (h2 : ∀ x, ((wipe σ [9]).set 9 (some x))[2]? = some (some (.ref va)))
    (kk : ∀ c acc zs n' G, H c = none → G c = some (.lst acc) → WVs G acc zs → zs.length = k → (∀ z ∈ zs, Wq nm.1 ss 1 z) → Spr G p q n' → n' ≤ n + 4 * (k : Int) → But p q H G → Q (.ref c) G) : tLc (iRng1 (tCons tl tNil)) (gName 9) tYes (tWd K) [9] σ H Q :=
  hl H (Ex.refl _) _ fun H2 e2 => ⟨_, rfl, by omega, by omega, fun Dl hD => by
    have hD0 : H Dl = none := fresh_back e2 hD
    have hDn := S.nep hD0
    refine lc_range (lo := 0) (n := ((k : Nat) : Int).toNat) (fun i G => But p q H G ∧ ∃ acc zs n', G Dl = some (.lst acc) ∧ WVs G acc zs ∧ zs.length = i ∧ acc.length = i ∧ (∀ z ∈ zs, Wq nm.1 ss 1 z) ∧ Spr G p q n' ∧ n' ≤ n + 4 * (i : Int)) ⟨(But.of e2).trans (But.of (Ex.new hD)), [], [], n, upd_same, rfl, rfl, rfl, (fun z hz => nomatch hz), (S.ext e2).ext (Ex.new hD), by omega⟩ (fun i G hi ⟨B, acc, zs, n', hacc, hzs, hzl, hal, hwq, S', hn'⟩ => ?_) (fun G ⟨B, acc, zs, n', hacc, hzs, hzl, hal, hwq, S', hn'⟩ => ?_)
    · have hi : i < k := by simpa using hi
      refine ⟨hw _, ?_⟩
      unfold tYes
      dsimp only
      rw [if_pos rfl]
      obtain ⟨t, fa, pa, fu, pu, rfl, ht, t1, t2, hfa, f1, f2, hfu, _⟩ := (hnm.go B).at_
      refine ⟨_, h0 _, _, h1 _, t, _, 0, .ref fa, rfl, rfl, st_of ht, atI_nat (j := 0) rfl, _, h2 _, p, q, fa, va, n', fu, nm.1, ss, 1, rfl, S', by omega, hfa, hfu, (nn_ok nm hnm.mem).1, B _ _ v1 v2 hva, f1, f2, v1, v2, hne, hsl, hss, by omega, by omega, fun v z n2 G2 hz hv S2 hn2 B2 => ?_⟩
      have hD2 := B2 _ _ hDn.1 hDn.2 hacc
      have tx : Tx G2 (upd G2 Dl (.lst (acc ++ [v]))) := Tx.lst hD2
      have n1 := hDn.1
      refine ⟨acc, hD2, sz_lt (by omega), ?_, acc ++ [v], zs ++ [z], n2, upd_same, ?_, by simp; omega, by simp; omega, ?_, S2.keep (fun o h => by rw [upd_ne (Ne.symm hDn.1)]; exact h) (fun o h => by rw [upd_ne (Ne.symm hDn.2)]; exact h), by omega⟩
      · intro b o nb1 nb2 hb
        have := B2 _ _ nb1 nb2 (B _ _ nb1 nb2 hb)
        rw [upd_ne (ne_of_none hb hD0)]
        exact this
      · unfold WVs
        rw [W.os_map, List.map_append, ← W.os_map]
        exact OVs.append (WVs.tx ((S'.tx B2).trans tx) hzs) (.cons (WV.tx tx hv) .nil)
      · intro y hy
        rcases List.mem_append.mp hy with hy | hy
        · exact hwq y hy
        · rw [List.mem_singleton.mp hy]
          exact hz
    · rw [Int.toNat_natCast] at hzl hn'
      exact kk Dl acc zs n' G hD0 hacc hzs hzl hwq S' hn' B⟩
theorem and_yes {t u : TT} {Q : Bool → Hp → Prop} (h : EvT t σ H true) (k : ∀ G, Ex H G → u σ G Q) : tAnd t u σ H Q := h H (Ex.refl _) _ fun G e => k G e
theorem or_no {t u : TT} {Q : Bool → Hp → Prop} (h : EvT t σ H false) (k : ∀ G, Ex H G → u σ G Q) : tOr t u σ H Q := h H (Ex.refl _) _ fun G e => k G e
theorem q_words {D : Ends} {tz : TS} {i : Nat} {p q va : Addr} {n : Int} {nv : V} {nm : Nms} {ss : List Str} {k : Nat} (hl : Ev tl σ H (.int (k : Nat))) (hk : k ≤ 10) (S : Spr H p q n) (hn : n < 70000) (hnm : NmV H p q nv nm) (hva : H va = some (.lst (sVs ss))) (v1 : va ≠ p) (v2 : va ≠ q) (hne : ss ≠ []) (hsl : ss.length ≤ 10) (hss : ∀ s ∈ ss, SS.contains s = true)
    (hw : ∀ x, wipe ((wipe σ [9]).set 9 (some x)) [9] = wipe σ [9]) (h0 : ∀ x, ((wipe σ [9]).set 9 (some x))[0]? = some (some (.ref p))) (h1 : ∀ x, ((wipe σ [9]).set 9 (some x))[1]? = some (some nv)) (h2 : ∀ x, ((wipe σ [9]).set 9 (some x))[2]? = some (some (.ref va)))
    (kk : ∀ c acc zs n' G, H c = none → G c = some (.lst acc) → WVs G acc zs → zs.length = k → (∀ z ∈ zs, Wq nm.1 ss 1 z) → Spr G p q n' → n' ≤ n + 4 * (k : Int) → But p q H G → tz D (σ.set i (some (.ref c))) G) : tSeq (tAsg (tLc (iRng1 (tCons tl tNil)) (gName 9) tYes (tWd K) [9]) (gName i)) tz D σ H :=
  show tLc (iRng1 (tCons tl tNil)) (gName 9) tYes (tWd K) [9] σ H (fun x H1 => tz D (σ.set i (some x)) H1) from lc_words hl hk S hn hnm hva v1 v2 hne hsl hss hw h0 h1 h2 kk
theorem eqv_nil {o : O} {os : List O} : (O.lst (o :: os)).eqv (.lst []) = false := by
  simp [O.eqv, O.py, O.pys, PyData.eqv, PyData.eqvAll]
theorem et_some {i : Nat} {c : Addr} {xs : List V} {os : List O} (hs : σ[i]? = some (some (.ref c))) (hc : H c = some (.lst xs)) (ho : OVs H xs os) (ne : os ≠ []) (he : O.eds os = true) (hd : O.dps os ≤ 50) : EvT (tTest (tOp (rEqD K) (tVar i) (tLst tNil))) σ H false := by
  refine et_is (et_test (ev_opO (a := .lst os) (b := .lst []) (eo_var hs ⟨c, xs, rfl, hc, ho⟩) (eo_lst eao_nil (by decide)) fun u w G eG hu hw' => rv_eqO hu hw' he rfl (by show O.dps os + 1 ≤ 60; omega) (by decide))) ?_
  cases os with
  | nil => exact absurd rfl ne
  | cons o os => exact eqv_nil
theorem ev_some {i : Nat} {c : Addr} {xs : List V} {os : List O} (hs : σ[i]? = some (some (.ref c))) (hc : H c = some (.lst xs)) (ho : OVs H xs os) (ne : os ≠ []) (he : O.eds os = true) (hd : O.dps os ≤ 50) : Ev (tOp (rNeD K) (tVar i) (tLst tNil)) σ H (.bl true) := by
  refine ev_is (ev_opO (a := .lst os) (b := .lst []) (eo_var hs ⟨c, xs, rfl, hc, ho⟩) (eo_lst eao_nil (by decide)) fun u w G eG hu hw' => rv_neO hu hw' he rfl (by show O.dps os + 1 ≤ 60; omega) (by decide)) ?_
  cases os with
  | nil => exact absurd rfl ne
  | cons o os => rw [eqv_nil]; rfl
end
abbrev nAm : List Str := ["_law_stream", "_law_names", "_law_variables", "_law_has_words", "_law_some", "_law_words", "_law_name", "_law_places", "_law_pair", "_law_k"]
theorem sc_am : FnScope nAm ["_law_stream", "_law_names", "_law_variables"] (defScope s__law_c_atom) := ⟨rfl, rfl, rfl, by decide +kernel, rfl, by decide +kernel, by decide +kernel⟩
def spAm : Sp := fun vs H Q _ => ∃ (p q va : Addr) (nv : V) (n : Int) (nm : Nms) (ss : List Str), vs = [.ref p, nv, .ref va] ∧ Spr H p q n ∧ n < 60000 ∧ NmV H p q nv nm ∧ H va = some (.lst (sVs ss)) ∧ va ≠ p ∧ va ≠ q ∧ ss ≠ [] ∧ ss.length ≤ 10 ∧ (∀ s ∈ ss, SS.contains s = true) ∧
  ∀ (v : V) (z : W) (n' : Int) (G : Hp), Atw nm ss z → WV G v z → Spr G p q n' → n' ≤ n + 20 → But p q H G → Q v G
section
variable {P : Program} {w : World} {K : PySem.W.Frag} {mg : Str → Option Value} {base : Heap}
theorem ok_atom (T : T17 P w K mg base) : Ok P w K mg base CX0 "_law_c_atom" ["_law_stream", "_law_names", "_law_variables"] 6 spAm := by
  obtain ⟨fR, dR, GR, bR, kR, mR⟩ := (ok_word T 2).ex
  obtain ⟨fD, dD, GD, bD, kD, mD⟩ := (ok_dr T).ex
  obtain ⟨fK, dK, GK, bK, kK, mK⟩ := (ok_pick T).ex
  refine T.ok 18 rfl sc_am (fun vs H Q E h => ?_) (fun kV doc pm an cdv ct us hl => match us, hl with | [_, _, _], _ => rfl) (fun f cdv A outer s H vs Q E hr h => ?_)
  · obtain ⟨p, q, va, nv, n, nm, ss, rfl, _⟩ := h
    rfl
  · obtain ⟨p, q, va, nv, n, nm, ss, rfl, S, hn, hnm, hva, v1, v2, hne, hsl, hss, k⟩ := h
    refine ⟨_, pss_cons (ps_set (i := 3) sc_am.nd rfl (by first | exact Or.inl rfl | exact Or.inr rfl) (pe_or (pe_cmpR (op_neD hr.units) (pv 2) (pe_lst pa_nil) (nomark _)) (pe_one (pe_callB (cr_any rfl) (by rfl) T.any (by decide +kernel) (pa_cons
          (pe_lc (own := [("_law_name", 6), ("_law_places", 7)]) (g := gPair K 6 7) (tt := tYes) (te := tOp rEq (tVar 7) (tC (.int 0))) rfl sc_am.nd (pi_list (pe_ix ix_tup (pv 1) pe_int (fun _ _ => rfl))) (blkOk_by (N := nAm) (sc := defScope s__law_c_atom) (by decide +kernel))
            (fun _ _ _ _ _ => pg_tup rfl (pgs_cons (pg_name (i := 6) sc_am.nd rfl (Or.inl rfl)) (pgs_cons (pg_name (i := 7) sc_am.nd rfl (Or.inl rfl)) pgs_nil))) (fun _ _ _ _ _ => pts_nil) (fun _ _ _ _ _ => pe_cmpR op_eq (pv 7) pe_int (nomark _))) pa_nil)))))
      (pss_cons (ps_setLc (i := 4) (own := [("_law_pair", 8)]) (g := gName 8) (tt := tOr (tB (tVar 3)) (tTest (tOp rEq (tOp (rIxT K) (tVar 8) (tC (.int 1))) (tC (.int 0))))) (te := tVar 8) (by rfl) sc_am.nd rfl rfl (sw_true rfl rfl rfl (by decide +kernel)) (pi_list (pe_ix ix_tup (pv 1) pe_int (fun _ _ => rfl))) (blkOk_by (N := nAm) (sc := defScope s__law_c_atom) (by decide +kernel))
            (fun _ _ _ _ _ => pg_name (i := 8) sc_am.nd rfl (Or.inl rfl)) (fun _ _ _ _ _ => pts_one (PW.pt (pw_or (pt_val (pv 3)) (pw_or1 (pt_cmpR op_eq (pe_ix ix_tup (pv 8) pe_int (fun _ _ => rfl)) pe_int (nomark _)))))) (fun _ _ _ _ _ => pv 8))
      (pss_cons (ps_if (PW.pt (pw_and (pt_val (pv 3)) (pw_and1 (PW.pt (pw_or (pt_cmpR (op_eqD hr.units) (pv 4) (pe_lst pa_nil) (nomark _)) (pw_or1 (pt_cmpR op_eq (pe_call GD (hr.mono (by omega)) (by rfl) mD kD bD .nil pass0 (pa_cons (pv 0) (pa_cons pe_int pa_nil))) pe_int (nomark _))))))))
          (pss_cons (ps_setLc (i := 5) (own := [("_law_k", 9)]) (g := gName 9) (tt := tYes) (te := tWd K) (by rfl) sc_am.nd rfl rfl (sw_true rfl rfl rfl (by decide +kernel)) (pi_range1 (by rfl) T.range (pa_cons pe_int pa_nil)) (blkOk_by (N := nAm) (sc := defScope s__law_c_atom) (by decide +kernel))
              (fun _ _ _ _ _ => pg_name (i := 9) sc_am.nd rfl (Or.inl rfl)) (fun _ _ _ _ _ => pts_nil) (fun _ _ _ _ _ => pe_call GR (hr.mono (by omega)) (by rfl) mR kR bR .nil pass0 (pa_cons (pv 0) (pa_cons (pe_ix ix_tup (pv 1) pe_int (fun _ _ => rfl)) (pa_cons (pv 2) (pa_cons pe_int pa_nil))))))
            (pss_one (ps_ret (pe_tup (pa_cons pe_str (pa_cons (pe_ix ix_list (pv 5) pe_int (fun _ _ => rfl)) (pa_cons (pe_ix ix_list (pv 5) pe_int (fun _ _ => rfl)) pa_nil))))))) pss_nil)
      (pss_cons (ps_if (pt_cmpR (op_eqD hr.units) (pv 4) (pe_lst pa_nil) (nomark _)) (pss_one ps_never) pss_nil)
      (pss_cons (ps_asg (pe_call GK (hr.mono (by omega)) (by rfl) mK kK bK .nil pass0 (pa_cons (pv 0) (pa_cons (pv 4) pa_nil))) (pg_tup rfl (pgs_cons (pg_name (i := 6) sc_am.nd rfl (Or.inl rfl)) (pgs_cons (pg_name (i := 7) sc_am.nd rfl (Or.inl rfl)) pgs_nil))))
      (pss_one (ps_ret (pe_callTy call_tuple_of (by rfl) T.tuple PyProof.Rows.boot_tuple (pa_cons (pe_op op_cat (pe_lst (pa_cons (pv 6) pa_nil))
        (pe_lc (own := [("_law_k", 9)]) (g := gName 9) (tt := tYes) (te := tWd K) rfl sc_am.nd (pi_range1 (by rfl) T.range (pa_cons (pv 7) pa_nil)) (blkOk_by (N := nAm) (sc := defScope s__law_c_atom) (by decide +kernel))
          (fun _ _ _ _ _ => pg_name (i := 9) sc_am.nd rfl (Or.inl rfl)) (fun _ _ _ _ _ => pts_nil) (fun _ _ _ _ _ => pe_call GR (hr.mono (by omega)) (by rfl) mR kR bR .nil pass0 (pa_cons (pv 0) (pa_cons (pe_ix ix_tup (pv 1) pe_int (fun _ _ => rfl)) (pa_cons (pv 2) (pa_cons pe_int pa_nil))))))) pa_nil)))))))), ?_⟩
    obtain ⟨nn1, nn2, nn3, nn4⟩ := nn_ok nm hnm.mem
    refine q_asg (v := .bl true) (ev_orV (a := true) (b := true) (ev_some (os := ss.map .str) rfl hva (strs_ov ss) (fun z => hne (List.map_eq_nil_iff.mp z)) (eds_all.mpr fun o ho => by obtain ⟨s, hs, rfl⟩ := List.mem_map.mp ho; exact hss s hs) (Nat.le_trans (dps_all.mpr fun o ho => by obtain ⟨s, hs, rfl⟩ := List.mem_map.mp ho; exact Nat.le_refl 0) (Nat.zero_le _))) (fun z => nomatch z)) fun H1 e1 => ?_
    have hnm1 := hnm.go (But.of e1)
    obtain ⟨t, fa, pa, fu, pu, rfl, ht, t1, t2, hfa, f1, f2, hfu, hpa, p1, p2, hpu, hpx, _⟩ := hnm1.at_
    refine q_asgLP (lcF (g := prO) (Hf := Hx (PQ p q) H1) (fun _ => true) (ev_op (z := .ref pa) (ev_var rfl) ev_c (rv_ixT (st_of ht) (atI_nat (j := 1) rfl))) hpa hpx (by omega) (fun _ => rfl) (fun _ => rfl) fun l x G hl eG hx => et_is (a := true || true) (et_or (et_B (ev_var rfl)) fun z => nomatch z) rfl) fun c4 xs H2 hc4 e2 h2 hx2 => ?_
    rw [List.filter_eq_self.mpr fun _ _ => rfl] at hx2
    have e12 := e1.trans e2
    have S2 := S.ext e12
    have n4 := S.nep (fresh_back e1 hc4)
    have pne : nm.2.map prO ≠ [] := fun z => nn2 (List.map_eq_nil_iff.mp z)
    have ped : O.eds (nm.2.map prO) = true := eds_all.mpr fun o ho => by
      obtain ⟨q, hq, rfl⟩ := List.mem_map.mp ho
      show (SS.contains q.1 && (true && true)) = true
      rw [(nn4 q hq).2.1]
      rfl
    have pdp : O.dps (nm.2.map prO) ≤ 50 := Nat.le_trans (dps_all.mpr fun o ho => by obtain ⟨q, hq, rfl⟩ := List.mem_map.mp ho; exact Nat.le_refl 1) (by decide)
    have xsv : ∀ G, But p q H2 G → OVs G xs (nm.2.map prO) := fun G B => (hx2.ext ((Go.of e2).trans (go_pq B)).ex).ext hx_ex
    -- what comes without words
    have goB : ∀ (G : Hp) (n1 : Int), But p q H2 G → Spr G p q n1 → n1 ≤ n + 1 → tSeq (tIfS (tTest (tOp (rEqD K) (tVar 4) (tLst tNil))) tNever tNext) (tSeq (tAsg (tCall (spPick K) [] E0 (tCons (tVar 0) (tCons (tVar 4) tNil))) (gPair K 6 7)) (tRet (tCB (rTupOf K) (tCons (tOp rCat (tLst (tCons (tVar 6) tNil)) (tLc (iRng1 (tCons (tVar 7) tNil)) (gName 9) tYes (tWd K) [9])) tNil)))) { nx := fun x H' => Q V.non H', rt := Q } [some (.ref p), some (.ref t), some (.ref va), some (.bl true), some (.ref c4), none, none, none, none, none] G := by
      intro G n1 B S1 hn1
      refine q_when (b := false) (et_some rfl (B _ _ n4.1 n4.2 h2) (xsv G B) pne ped pdp) (fun z => nomatch z) fun _ G1 eG1 => ?_
      have B1 := B.trans (But.of eG1)
      refine ⟨_, rfl, _, rfl, p, q, c4, n1, xs, rfl, S1.ext eG1, by omega, B1 _ _ n4.1 n4.2 h2, n4.1, n4.2, ?_, ?_, fun y G2 hy S3 B3 => ?_⟩
      · intro z
        have := hx2.length
        rw [z] at this
        exact pne (List.length_eq_zero_iff.mp this.symm)
      · have := hx2.length
        rw [List.length_map] at this
        omega
      · obtain ⟨o, ho, ov⟩ := ovs_mem (xsv G2 (B1.trans B3)) hy
        obtain ⟨pr, hpr, rfl⟩ := List.mem_map.mp ho
        obtain ⟨pt, rfl, hpt⟩ := pr_at ov
        refine ⟨pt, _, rfl, st_of hpt, rfl, _, _, rfl, _, _, rfl, rfl, ?_⟩
        refine ⟨_, rfl, by show 1 ≤ sizeLine; decide, fun l hl => ?_⟩
        have x4 : Ex G2 (upd G2 l (.lst [.str pr.1])) := Ex.new hl
        have BB : But p q H (upd G2 l (.lst [.str pr.1])) := (((But.of e12).trans B1).trans B3).trans (But.of x4)
        have nl := S3.nep hl
        obtain ⟨q1, q2, q3, q4⟩ := nn4 pr hpr
        refine lc_words (k := pr.2) (ev_var rfl) (by omega) (S3.ext x4) (by omega) (hnm.go BB) (BB _ _ v1 v2 hva) v1 v2 hne hsl hss (fun _ => rfl) (fun _ => rfl) (fun _ => rfl) (fun _ => rfl) fun c acc zs n' G5 hc hG5 hzs hzl hwq S5 hn5 B5 => ?_
        have hacc := hzs.length
        refine ⟨l, c, _, acc, rfl, rfl, B5 _ _ nl.1 nl.2 upd_same, hG5, by show 1 + acc.length ≤ sizeLine; exact sz_of (by omega), fun r hr => ⟨r, _, rfl, .inl ⟨sq_of upd_same, fun tt htt => ?_⟩⟩⟩
        have x6 : Ex G5 (upd (upd G5 r (.lst ([.str pr.1] ++ acc))) tt (.tup ([.str pr.1] ++ acc))) := (Ex.new hr).trans (Ex.new htt)
        refine k (.ref tt) (.n pr.1 zs) n' _ (atw_of q2 q3 hwq (by omega) (.inr ⟨q4, ?_⟩)) (WV.of upd_same (WVs.ext x6 hzs)) (S5.ext x6) (by omega) ((BB.trans B5).trans (But.of x6))
        rw [hzl]
        exact hpr
    refine q_whenP (and_yes (et_B (ev_var rfl)) fun H3' e3' => or_no (et_some rfl (e3' _ _ h2) (xsv H3' (But.of e3')) pne ped pdp) fun H3 e3'' => ?_)
    have e3 := e3'.trans e3''
    refine ⟨_, rfl, p, q, n, 5, rfl, S2.ext e3, by omega, by decide, by decide, fun r G r0 r1 S' B => ⟨rfl, _, rfl, ?_⟩⟩
    have BG : But p q H2 G := (But.of e3).trans B
    by_cases hr0 : V.int r = V.int 0
    · rw [decide_eq_true hr0]
      have BB : But p q H G := (But.of e12).trans BG
      refine q_words (k := 2) ev_c (by decide) S' (by omega) (hnm.go BB) (BB _ _ v1 v2 hva) v1 v2 hne hsl hss (fun _ => rfl) (fun _ => rfl) (fun _ => rfl) (fun _ => rfl) fun c acc zs n' G5 hc hG5 hzs hzl hwq S5 hn5 B5 => ?_
      match zs, hzl, hzs, hwq with
      | [z1, z2], _, ⟨a1, us1, e1', w1, a2, us2, e2', w2, e3'⟩, hwq =>
      subst e1' e2'
      obtain rfl : us2 = [] := e3'
      refine s_retU (eu_tup (ea_cons ev_c (ea_cons (ev_op (z := a1) (ev_var rfl) ev_c (rv_ixL (sq_of hG5) (atI_nat (j := 0) rfl))) (ea_cons (ev_op (z := a2) (ev_var rfl) ev_c (rv_ixL (sq_of hG5) (atI_nat (j := 1) rfl))) ea_nil))) (by show 3 ≤ 100000; decide)) fun u G6 hu e6 h6 => ?_
      exact k (.ref u) (.n "=" [z1, z2]) n' G6 (atw_of (by decide +kernel) (by decide +kernel) hwq (Nat.le_refl _) (.inl ⟨rfl, rfl⟩)) (WV.of h6 (.cons (WV.ext e6 w1) (.cons (WV.ext e6 w2) .nil))) (S5.ext e6) (by omega) ((BB.trans B5).trans (But.of e6))
    · rw [decide_eq_false hr0]
      exact goB G (n + 1) BG S' (by omega)
end
end K17

set_option Elab.async false
set_option linter.all false
set_option maxRecDepth 100000
set_option maxHeartbeats 4000000
/-! _law_c_world. -/
namespace K17
open PySem PySem.Spec PyProof.Rows L2 Evl
def eO (x : List Nat × Nat) : O := .tup [rowO x.1, .int (x.2 : Nat)]
theorem e_noL (x : List Nat × Nat) : (eO x).hasL = false := by
  show ((rowO x.1).hasL || (false || false)) = false
  rw [row_noL]
  rfl
theorem e_nod (x : List Nat × Nat) : (eO x).nod = true := by
  show ((rowO x.1).nod && (true && true)) = true
  rw [row_nod]
  rfl
theorem e_paired {K : PySem.W.Frag} {G : Hp} : ∀ {t : Tbl} {us : List V}, OVs G us (t.map eO) → ∃ ps : List Addr, us = ps.map V.ref ∧ PySem.Paired (PairT K G) ps (t.map tK)
  | [], us, h => ⟨[], h, .nil⟩
  | x :: t, us, h => by
    obtain ⟨u, us', e, ⟨a, zs, rfl, ha, z1, r1, rfl, h1, z2, r2, rfl, h2, h3⟩, hu⟩ := h
    obtain ⟨ps, rfl, hp⟩ := e_paired hu
    obtain rfl : r2 = [] := h3
    obtain rfl : z2 = .int (x.2 : Nat) := h2
    obtain ⟨b, rfl, hb⟩ := row_at h1
    exact ⟨a :: ps, e, .cons ⟨b, st_of ha, by rw [show (tK x).1 = rK x.1 from rfl, rK_nums]; exact hb⟩ hp⟩
/-- a table of all rows -/
def TG (n k : Nat) (t : Tbl) : Prop := ∀ r : List Nat, r.length = k → (∀ x ∈ r, x < n) → ∃ v, v < n ∧ tlk t r = some v
theorem tlk_mem {n : Nat} {r : List Nat} : ∀ {t : Tbl}, r ∈ t.map (·.1) → (∀ x ∈ t, x.2 < n) → ∃ v, v < n ∧ tlk t r = some v
  | x :: t, h, hv => by
    unfold tlk
    rw [List.find?_cons]
    by_cases e : x.1 = r
    · rw [decide_eq_true e]
      exact ⟨x.2, hv x List.mem_cons_self, rfl⟩
    · rw [decide_eq_false e]
      rcases List.mem_cons.mp h with q | q
      · exact absurd q.symm e
      · exact tlk_mem q fun y hy => hv y (List.mem_cons_of_mem _ hy)
theorem tg_of {n k : Nat} {t : Tbl} (hn : 1 ≤ n) (hk : t.map (·.1) = rowsL n k) (hv : ∀ x ∈ t, x.2 < n) : TG n k t := fun r hr hx => tlk_mem (by rw [hk]; exact rowsL_all hn k r hr hx) hv
theorem tab_nd {n k : Nat} {t : Tbl} (h1 : n < 4) (h2 : k < 5) (hk : t.map (·.1) = rowsL n k) : ((t.map tK).map (·.1)).Nodup := by
  rw [List.map_map, show ((fun p : List Key × V => p.1) ∘ tK) = rK ∘ (fun x : List Nat × Nat => x.1) from rfl, ← List.map_map, hk]
  exact nd_map (fun a b e => rK_inj e) (rowsL_nd n h1 k h2)
section
variable {K : PySem.W.Frag} {H G : Hp} {σ : L2.St} {te tl : TE} {tt : TT} {vs : List Nat}
/-- [(row, _law_draw(stream, many)) for row in rows] -/
theorem lc_drawn {p q : Addr} {n : Int} {m : Nat} {L : List (List Nat)} {j : Nat} {Q : VK} (hr : EvLP tl σ H (fun us G => OVs G us (L.map rowO))) (hL : L.length ≤ 100) (S : Spr H p q n) (hn : n < 90000) (hm : 1 ≤ m) (hm4 : m < 4)
    (hw : ∀ x, wipe ((wipe σ vs).set j (some x)) vs = wipe σ vs) (h0 : ∀ x, ((wipe σ vs).set j (some x))[0]? = some (some (.ref p))) (h2 : ∀ x, ((wipe σ vs).set j (some x))[2]? = some (some (.int (m : Nat)))) (hj : ∀ x, ((wipe σ vs).set j (some x))[j]? = some (some x))
    (kk : ∀ (c : Addr) (acc : List V) (t : Tbl) (n' : Int) (G : Hp), H c = none → G c = some (.lst acc) → OVs G acc (t.map eO) → t.map (·.1) = L → (∀ x ∈ t, x.2 < m) → Spr G p q n' → n' ≤ n + L.length → But p q H G → Q (.ref c) G) :
    tLc (iList K tl) (gName j) tYes (tTup (tCons (tVar j) (tCons (tCall spDr [] E0 (tCons (tVar 0) (tCons (tVar 2) tNil))) tNil))) vs σ H Q :=
  hr H (Ex.refl _) _ fun a us H1 ha e1 h1 hu => ⟨a, rfl, ⟨us, sq_of h1⟩, fun Dl hD => by
    have hul : us.length = L.length := by rw [hu.length, List.length_map]
    have hD0 : H Dl = none := fresh_back e1 hD
    have hDn := S.nep hD0
    have hDa : Dl ≠ a := (ne_of_none h1 hD).symm
    have hap := S.nep ha
    refine lc_list (xs := us) (fun i G => But p q H1 G ∧ ∃ (acc : List V) (t : Tbl) (n' : Int), G Dl = some (.lst acc) ∧ acc.length = i ∧ OVs G acc (t.map eO) ∧ t.map (·.1) = L.take i ∧ (∀ x ∈ t, x.2 < m) ∧ Spr G p q n' ∧ n' ≤ n + (i : Int)) ⟨But.of (Ex.new hD), [], [], n, upd_same, rfl, rfl, rfl, (fun x hx => nomatch hx), (S.ext e1).ext (Ex.new hD), by omega⟩ (fun i G hi ⟨B, _⟩ => sq_of (B _ _ hap.1 hap.2 h1)) (fun i x G hx ⟨B, acc, t, n', hacc, hal, hat, htk, htv, S', hn'⟩ => ?_) (fun G ⟨B, acc, t, n', hacc, hal, hat, htk, htv, S', hn'⟩ => ?_)
    · refine ⟨hw _, ?_⟩
      unfold tYes
      dsimp only
      rw [if_pos rfl]
      have hi := (List.getElem?_eq_some_iff.mp hx).1
      obtain ⟨o, ho, hxo⟩ := hu.get hx
      rw [List.getElem?_map] at ho
      obtain ⟨r, hr', rfl⟩ := Option.map_eq_some_iff.mp ho
      refine ⟨_, hj _, _, h0 _, _, h2 _, p, q, n', m, rfl, S', by omega, by omega, by omega, fun v G2 r0 r1 S2 B2 => ⟨by show 2 ≤ sizeLine; decide, fun b hb => ?_⟩⟩
      have e5 : Ex G2 (upd G2 b (.tup [x, .int v])) := Ex.new hb
      have hD2 : (upd G2 b (.tup [x, .int v])) Dl = some (.lst acc) := e5 _ _ (B2 _ _ hDn.1 hDn.2 hacc)
      have tx6 : Tx (upd G2 b (.tup [x, .int v])) (upd (upd G2 b (.tup [x, .int v])) Dl (.lst (acc ++ [.ref b]))) := Tx.lst hD2
      have tx5 : Tx G (upd (upd G2 b (.tup [x, .int v])) Dl (.lst (acc ++ [.ref b]))) := ((S'.tx B2).trans (Tx.of e5)).trans tx6
      refine ⟨acc, hD2, sz_lt (by omega), ?_, acc ++ [.ref b], t ++ [(r, v.toNat)], n' + 1, upd_same, by simp; omega, ?_, ?_, ?_, ((S2.ext e5).keep (fun o h => by rw [upd_ne (Ne.symm hDn.1)]; exact h) (fun o h => by rw [upd_ne (Ne.symm hDn.2)]; exact h)), by omega⟩
      · intro c o nb1 nb2 hc
        have := e5 _ _ (B2 _ _ nb1 nb2 (B _ _ nb1 nb2 hc))
        rw [upd_ne (ne_of_none hc hD)]
        exact this
      · rw [List.map_append]
        refine OVs.append (OVs.tx tx5 (hasLs_all.mpr fun o ho => by obtain ⟨x, _, rfl⟩ := List.mem_map.mp ho; exact e_noL x) (nods_all.mpr fun o ho => by obtain ⟨x, _, rfl⟩ := List.mem_map.mp ho; exact e_nod x) hat) (.cons ?_ .nil)
        refine ⟨b, [x, .int v], rfl, tx6 _ _ upd_same, .cons (OV.tx (((S.ext e1).tx B).trans tx5) (row_noL r) (row_nod r) hxo) (.cons ?_ .nil)⟩
        show V.int v = V.int ((v.toNat : Nat) : Int)
        rw [Int.toNat_of_nonneg r0]
      · rw [List.map_append, htk, take_snoc hr']
        rfl
      · intro y hy
        rcases List.mem_append.mp hy with hy | hy
        · exact htv y hy
        · rw [List.mem_singleton.mp hy]
          show v.toNat < m
          omega
    · rw [hul] at htk hn'
      rw [List.take_length] at htk
      exact kk Dl acc t n' G hD0 hacc hat htk htv S' hn' ((But.of e1).trans B)⟩
theorem cb_drawn {p q : Addr} {n : Int} {m : Nat} {L : List (List Nat)} {j : Nat} {Q : VK} {r : List V → Hp → VK → Prop} (hr : EvLP tl σ H (fun us G => OVs G us (L.map rowO))) (hL : L.length ≤ 100) (S : Spr H p q n) (hn : n < 90000) (hm : 1 ≤ m) (hm4 : m < 4)
    (hw : ∀ x, wipe ((wipe σ vs).set j (some x)) vs = wipe σ vs) (h0 : ∀ x, ((wipe σ vs).set j (some x))[0]? = some (some (.ref p))) (h2 : ∀ x, ((wipe σ vs).set j (some x))[2]? = some (some (.int (m : Nat)))) (hj : ∀ x, ((wipe σ vs).set j (some x))[j]? = some (some x))
    (kk : ∀ (c : Addr) (acc : List V) (t : Tbl) (n' : Int) (G : Hp), H c = none → G c = some (.lst acc) → OVs G acc (t.map eO) → t.map (·.1) = L → (∀ x ∈ t, x.2 < m) → Spr G p q n' → n' ≤ n + L.length → But p q H G → r [.ref c] G Q) :
    tCB r (tCons (tLc (iList K tl) (gName j) tYes (tTup (tCons (tVar j) (tCons (tCall spDr [] E0 (tCons (tVar 0) (tCons (tVar 2) tNil))) tNil))) vs) tNil) σ H Q :=
  show tLc (iList K tl) (gName j) tYes (tTup (tCons (tVar j) (tCons (tCall spDr [] E0 (tCons (tVar 0) (tCons (tVar 2) tNil))) tNil))) vs σ H (fun x H1 => r [x] H1 Q) from lc_drawn hr hL S hn hm hm4 hw h0 h2 hj kk
/-- [row for row in rows if _law_draw(stream, 2) == 0] -/
theorem lc_some {p q : Addr} {n : Int} {L : List (List Nat)} {j : Nat} {Q : VK} (hr : EvLP tl σ H (fun us G => OVs G us (L.map rowO))) (hL : L.length ≤ 100) (S : Spr H p q n) (hn : n < 90000)
    (hw : ∀ x, wipe ((wipe σ vs).set j (some x)) vs = wipe σ vs) (h0 : ∀ x, ((wipe σ vs).set j (some x))[0]? = some (some (.ref p))) (hj : ∀ x, ((wipe σ vs).set j (some x))[j]? = some (some x))
    (kk : ∀ (c : Addr) (acc : List V) (rs : List (List Nat)) (n' : Int) (G : Hp), H c = none → G c = some (.lst acc) → OVs G acc (rs.map rowO) → rs.length ≤ 100 → Spr G p q n' → n' ≤ n + L.length → But p q H G → Q (.ref c) G) :
    tLc (iList K tl) (gName j) (tTest (tOp rEq (tCall spDr [] E0 (tCons (tVar 0) (tCons (tC (.int 2)) tNil))) (tC (.int 0)))) (tVar j) vs σ H Q :=
  hr H (Ex.refl _) _ fun a us H1 ha e1 h1 hu => ⟨a, rfl, ⟨us, sq_of h1⟩, fun Dl hD => by
    have hul : us.length = L.length := by rw [hu.length, List.length_map]
    have hD0 : H Dl = none := fresh_back e1 hD
    have hDn := S.nep hD0
    have hap := S.nep ha
    refine lc_list (xs := us) (fun i G => But p q H1 G ∧ ∃ (acc : List V) (rs : List (List Nat)) (n' : Int), G Dl = some (.lst acc) ∧ acc.length ≤ i ∧ OVs G acc (rs.map rowO) ∧ Spr G p q n' ∧ n' ≤ n + (i : Int)) ⟨But.of (Ex.new hD), [], [], n, upd_same, Nat.le_refl _, rfl, (S.ext e1).ext (Ex.new hD), by omega⟩ (fun i G hi ⟨B, _⟩ => sq_of (B _ _ hap.1 hap.2 h1)) (fun i x G hx ⟨B, acc, rs, n', hacc, hal, hat, S', hn'⟩ => ?_) (fun G ⟨B, acc, rs, n', hacc, hal, hat, S', hn'⟩ => ?_)
    · refine ⟨hw _, ?_⟩
      have hi := (List.getElem?_eq_some_iff.mp hx).1
      obtain ⟨o, ho, hxo⟩ := hu.get hx
      rw [List.getElem?_map] at ho
      obtain ⟨r, hr', rfl⟩ := Option.map_eq_some_iff.mp ho
      refine ⟨_, h0 _, p, q, n', 2, rfl, S', by omega, by decide, by decide, fun v G2 r0 r1 S2 B2 => ⟨rfl, _, rfl, ?_⟩⟩
      have hD2 : G2 Dl = some (.lst acc) := B2 _ _ hDn.1 hDn.2 hacc
      by_cases hv : V.int v = V.int 0
      · rw [decide_eq_true hv]
        dsimp only
        rw [if_pos rfl]
        have tx6 : Tx G2 (upd G2 Dl (.lst (acc ++ [x]))) := Tx.lst hD2
        have tx5 : Tx G (upd G2 Dl (.lst (acc ++ [x]))) := (S'.tx B2).trans tx6
        refine ⟨_, hj _, acc, hD2, sz_lt (by omega), ?_, acc ++ [x], rs ++ [r], n' + 1, upd_same, by simp; omega, ?_, (S2.keep (fun o h => by rw [upd_ne (Ne.symm hDn.1)]; exact h) (fun o h => by rw [upd_ne (Ne.symm hDn.2)]; exact h)), by omega⟩
        · intro c o nb1 nb2 hc
          have := B2 _ _ nb1 nb2 (B _ _ nb1 nb2 hc)
          rw [upd_ne (ne_of_none hc hD)]
          exact this
        · rw [List.map_append]
          exact OVs.append (OVs.tx tx5 (hasLs_all.mpr fun o ho => by obtain ⟨x, _, rfl⟩ := List.mem_map.mp ho; exact row_noL x) (nods_all.mpr fun o ho => by obtain ⟨x, _, rfl⟩ := List.mem_map.mp ho; exact row_nod x) hat) (.cons (OV.tx (((S.ext e1).tx B).trans tx5) (row_noL r) (row_nod r) hxo) .nil)
      · rw [decide_eq_false hv]
        dsimp only
        rw [if_neg (by decide)]
        exact ⟨B.trans B2, acc, rs, n' + 1, hD2, by omega, OVs.tx (S'.tx B2) (hasLs_all.mpr fun o ho => by obtain ⟨x, _, rfl⟩ := List.mem_map.mp ho; exact row_noL x) (nods_all.mpr fun o ho => by obtain ⟨x, _, rfl⟩ := List.mem_map.mp ho; exact row_nod x) hat, S2, by omega⟩
    · have := hat.length
      rw [List.length_map] at this
      exact kk Dl acc rs n' G hD0 hacc hat (by omega) S' (by omega) ((But.of e1).trans B)⟩
end
theorem tris {H : Hp} : ∀ {F : List (Str × Nat)} {us : List V}, OVs H us (F.map prO) → ∃ xs : List Tri, us = xs.map (fun x => V.ref x.1) ∧ xs.map (·.2) = F.map (fun q => (q.1, ((q.2 : Nat) : Int))) ∧ ∀ x ∈ xs, H x.1 = some (.tup [.str x.2.1, .int x.2.2])
  | [], us, h => ⟨[], h, rfl, (fun x hx => nomatch hx)⟩
  | q :: F, us, ⟨x, us', e, h1, h2⟩ => by
    obtain ⟨xs, rfl, e2, hx⟩ := tris h2
    obtain ⟨t, rfl, ht⟩ := pr_at h1
    refine ⟨(t, q.1, (q.2 : Nat)) :: xs, e, by rw [List.map_cons, List.map_cons, e2], fun y hy => ?_⟩
    rcases List.mem_cons.mp hy with rfl | hy
    · exact ht
    · exact hx y hy
/-! ### the world's dicts -/
abbrev R4 (He : Hp) (f g : Addr) : Addr → Prop := fun b => Old He b ∨ b = f ∨ b = g
theorem a2_alk {β : Type} {R : Tri → β → Prop} : ∀ {ys : List Tri} {fs : List (Str × β)}, A2 (fun y f => f.1 = y.2.1 ∧ R y f.2) ys fs → ∀ y ∈ ys, (∀ a ∈ ys, ∀ b ∈ ys, a.2.1 = b.2.1 → a.2.2 = b.2.2) → ∃ y' t, y'.2.2 = y.2.2 ∧ alk fs y.2.1 = some t ∧ R y' t
  | a :: ys, f :: fs, ⟨⟨h1, h2⟩, h3⟩, y, hy, hu => by
    unfold alk
    rw [List.find?_cons]
    by_cases e : f.1 = y.2.1
    · rw [decide_eq_true e]
      exact ⟨a, f.2, hu a List.mem_cons_self y hy (by rw [← h1]; exact e), rfl, h2⟩
    · rw [decide_eq_false e]
      rcases List.mem_cons.mp hy with rfl | hy
      · exact absurd h1 e
      · exact a2_alk h3 y hy fun b hb c hc => hu b (List.mem_cons_of_mem _ hb) c (List.mem_cons_of_mem _ hc)
theorem a2_snoc {α β : Type} {R : α → β → Prop} {as : List α} {bs : List β} {a : α} {b : β} (h : A2 R as bs) (k : R a b) : A2 R (as ++ [a]) (bs ++ [b]) := A2.append h ⟨k, trivial⟩
theorem nn_nd : ∀ nm ∈ NN, (nm.1.map (·.1)).Nodup ∧ (nm.2.map (·.1)).Nodup ∧ (∀ q ∈ nm.1, q.2 ≤ 1) ∧ nm.1.length ≤ 2 := by decide +kernel
section
variable {K : PySem.W.Frag}
/-- a dict filled from sorted names -/
theorem q_fill {β : Type} {R : Hp → V → β → Prop} {good : Tri → β → Prop} {p q t d3 d4 d od fa : Addr} {n : Int} {m : Nat} {ys0 : List Tri} {id ix : Nat} {tv : TE} {D : Ends} {tz : TS} {o5 o6 : Option V} {He H : Hp} {okvs : List (Key × V)} {tus : List V}
    (Rext : ∀ {A B : Hp} {v : V} {b : β}, R A v b → Ex A B → R B v b) (hsel : (id = 3 ∧ d = d3 ∧ od = d4) ∨ (id = 4 ∧ d = d4 ∧ od = d3)) (hne : d3 ≠ d4) (h3p : d3 ≠ p ∧ d3 ≠ q) (h4p : d4 ≠ p ∧ d4 ≠ q) (hd3 : He d3 = none) (hd4 : He d4 = none)
    (S : Spr H p q n) (hn : n < 70000) (hB : But p q He H) (SHe : ∃ n0, Spr He p q n0) (ht : He t = some (.tup tus)) (hix : tus[ix]? = some (.ref fa)) (hfa : He fa = some (.lst (ys0.map fun x => V.ref x.1))) (hys : ∀ x ∈ ys0, He x.1 = some (.tup [.str x.2.1, .int x.2.2])) (hnd : (ys0.map fun x => x.2.1).Nodup) (hl5 : ys0.length ≤ 5)
    (hf1 : fa ≠ p) (hf2 : fa ≠ q) (hd : H d = some (.dK [])) (hod : H od = some (.dK okvs))
    (step : ∀ y ∈ ys0, ∀ G n', (∃ k, G d3 = some (.dK k)) → (∃ k, G d4 = some (.dK k)) → Spr G p q n' → n' ≤ n + 500 → But p q He G → ∀ Q : VK, (∀ v b G2 n2, R (Hx (R4 He d3 d4) G2) v b → good y b → Spr G2 p q n2 → n2 ≤ n' + 50 → But p q G G2 → Q v G2) → tv [some (.ref p), some (.ref t), some (.int (m : Nat)), some (.ref d3), some (.ref d4), some (.str y.2.1), some (.int y.2.2), none] G Q)
    (k : ∀ (ys : List Tri) (fs : List (Str × β)) (kvs : List (Key × V)) (G : Hp) (n' : Int) (o5 o6 : Option V), ys.Perm ys0 → A2 (fun y f => f.1 = y.2.1 ∧ good y f.2) ys fs → G d = some (.dK kvs) → A2 (KR (R (Hx (R4 He d3 d4) G))) kvs fs → G od = some (.dK okvs) → Go (R4 He d3 d4) H G → Spr G p q n' → n' ≤ n + 250 → But p q He G →
      tz D [some (.ref p), some (.ref t), some (.int (m : Nat)), some (.ref d3), some (.ref d4), o5, o6, none] G) :
    tSeq (tFor (iList K (tCB (rSortTI K) (tCons (tOp (rIxT K) (tVar 1) (tC (.int (ix : Nat)))) tNil))) (gPair K 5 6) (sDPut (tVar id) (tVar 5) tv)) tz D [some (.ref p), some (.ref t), some (.int (m : Nat)), some (.ref d3), some (.ref d4), o5, o6, none] H := by
  obtain ⟨n0, SHe⟩ := SHe
  obtain ⟨sx, sy, hsp, hsq⟩ := SHe.lst
  have txe : ∀ G, But p q He G → Tx He G := fun G B => SHe.tx B
  have hdo : d ≠ od := by
    rcases hsel with ⟨_, a, b⟩ | ⟨_, a, b⟩
    · rw [a, b]; exact hne
    · rw [a, b]; exact hne.symm
  have hdR : R4 He d3 d4 d := by
    rcases hsel with ⟨_, a, b⟩ | ⟨_, a, b⟩
    · exact .inr (.inl a)
    · exact .inr (.inr a)
  have hdn : He d = none ∧ d ≠ p ∧ d ≠ q := by
    rcases hsel with ⟨_, a, b⟩ | ⟨_, a, b⟩
    · rw [a]; exact ⟨hd3, h3p⟩
    · rw [a]; exact ⟨hd4, h4p⟩
  have hon : od ≠ p ∧ od ≠ q := by
    rcases hsel with ⟨_, a, b⟩ | ⟨_, a, b⟩
    · rw [b]; exact h4p
    · rw [b]; exact h3p
  refine ⟨.ref t, rfl, t, tus, ix, .ref fa, rfl, rfl, st_of (txe H hB _ _ ht), atI_nat hix, fa, ys0, rfl, sq_of (hB _ _ hf1 hf2 hfa), fun x hx => st_of (txe H hB _ _ (hys x hx)), fun ys l hperm hl => ?_⟩
  have hlne := S.nep hl
  have hld : l ≠ d := (ne_of_none hd hl).symm
  have xl : Ex H (upd H l (.lst (ys.map fun x => V.ref x.1))) := Ex.new hl
  refine ⟨l, rfl, ⟨_, sq_of upd_same⟩, for_list (xs := ys.map fun x => V.ref x.1) (fun i σ' G => ∃ (o5 o6 : Option V) (kvs : List (Key × V)) (fs : List (Str × β)) (n' : Int), σ' = [some (.ref p), some (.ref t), some (.int (m : Nat)), some (.ref d3), some (.ref d4), o5, o6, none] ∧ G l = some (.lst (ys.map fun x => V.ref x.1)) ∧ G d = some (.dK kvs) ∧ A2 (KR (R (Hx (R4 He d3 d4) G))) kvs fs ∧ A2 (fun y f => f.1 = y.2.1 ∧ good y f.2) (ys.take i) fs ∧ G od = some (.dK okvs) ∧ Go (R4 He d3 d4) H G ∧ Spr G p q n' ∧ n' ≤ n + 50 * (i : Int) ∧ But p q He G) ?_ ?_ ?_ ?_⟩
  · exact ⟨o5, o6, [], [], n, rfl, upd_same, xl _ _ hd, trivial, trivial, xl _ _ hod, Go.of xl, S.ext xl, by omega, hB.trans (But.of xl)⟩
  · rintro i σ' G hi ⟨_, _, _, _, _, _, h, _⟩
    exact sq_of h
  · rintro i x σ' G hx ⟨o5, o6, kvs, fs, n', rfl, hlG, hdG, hA, hF, hoG, hGo, S', hn', hBG⟩
    rw [List.getElem?_map] at hx
    obtain ⟨y, hy, rfl⟩ := Option.map_eq_some_iff.mp hx
    have hym := hperm.mem_iff.mp (List.mem_of_getElem? hy)
    have hil := (List.getElem?_eq_some_iff.mp hy).1
    have hpl := hperm.length_eq
    refine ⟨y.1, _, rfl, st_of (txe G hBG _ _ (hys y hym)), rfl, _, _, rfl, _, _, rfl, rfl, ?_⟩
    have h34 : (∃ k, G d3 = some (.dK k)) ∧ (∃ k, G d4 = some (.dK k)) := by
      rcases hsel with ⟨_, a, b⟩ | ⟨_, a, b⟩
      · rw [← a, ← b]; exact ⟨⟨_, hdG⟩, ⟨_, hoG⟩⟩
      · rw [← a, ← b]; exact ⟨⟨_, hoG⟩, ⟨_, hdG⟩⟩
    refine step y hym G n' h34.1 h34.2 S' (by omega) hBG _ fun v b G2 n2 hv hgood S2 hn2 B2 => ?_
    have hd2 : G2 d = some (.dK kvs) := B2 _ _ hdn.2.1 hdn.2.2 hdG
    have hkl : kvs.length = fs.length := A2.length hA
    have hfl2 : (ys.take i).length = fs.length := A2.length hF
    have hkey : (Sum.inr y.2.1 : Key) ∉ kvs.map (·.1) := by
      intro hc
      obtain ⟨kv, hkv, e⟩ := List.mem_map.mp hc
      obtain ⟨j, hj, rfl⟩ := List.getElem_of_mem hkv
      obtain ⟨f, hf, hfe, _⟩ := A2.get hA (List.getElem?_eq_getElem hj)
      obtain ⟨z, hz, hze, _⟩ := A2.getb hF hf
      have e2 : y.2.1 = z.2.1 := by rw [← hze]; exact Sum.inr.inj (e.symm.trans hfe)
      have hnd2 : (ys.map fun x => x.2.1).Nodup := (hperm.map _).nodup_iff.mpr hnd
      have h6 : ((ys.take (i + 1)).map fun x => x.2.1).Nodup := by
        rw [List.map_take]
        exact hnd2.sublist (List.take_sublist _ _)
      rw [take_snoc hy, List.map_append] at h6
      exact (List.nodup_append.mp h6).2.2 z.2.1 (List.mem_map.mpr ⟨z, List.mem_of_getElem? hz, rfl⟩) y.2.1 (by simp) e2.symm
    have hslot : ([some (V.ref p), some (V.ref t), some (V.int (m : Nat)), some (V.ref d3), some (V.ref d4), some (V.str y.2.1), some (V.int y.2.2), none] : List (Option V))[id]? = some (some (V.ref d)) := by
      rcases hsel with ⟨a, b, c⟩ | ⟨a, b, c⟩
      · rw [a, b]; rfl
      · rw [a, b]; rfl
    refine ⟨.ref d, hslot, .str y.2.1, rfl, d, _, rfl, DPut.k (k := Sum.inr y.2.1) hd2 (sz_lt (by have : (ys.take i).length ≤ ys.length := List.length_take_le' i ys; omega)), ?_⟩
    have g2 : Go (R4 He d3 d4) G (upd G2 d (.dK (putK kvs (Sum.inr y.2.1) v))) := (Go.but B2 (.inl ⟨_, hsp⟩) (.inl ⟨_, hsq⟩)).trans (Go.upd hdR)
    have g3 : Go (R4 He d3 d4) G2 (upd G2 d (.dK (putK kvs (Sum.inr y.2.1) v))) := Go.upd hdR
    refine ⟨_, _, kvs ++ [(Sum.inr y.2.1, v)], fs ++ [(y.2.1, b)], n2, rfl, ?_, ?_, ?_, ?_, ?_, hGo.trans g2, S2.keep (fun o h => by rw [upd_ne hdn.2.1.symm]; exact h) (fun o h => by rw [upd_ne hdn.2.2.symm]; exact h), by omega, ?_⟩
    · rw [upd_ne hld]
      exact B2 _ _ hlne.1 hlne.2 hlG
    · rw [upd_same, putKn hkey]
    · refine a2_snoc (A2.mono (fun kv f h => ⟨h.1, Rext h.2 g2.ex⟩) hA) ⟨rfl, Rext hv g3.ex⟩
    · rw [take_snoc hy]
      exact a2_snoc hF ⟨rfl, hgood⟩
    · rw [upd_ne hdo.symm]
      exact B2 _ _ hon.1 hon.2 hoG
    · intro c o nb1 nb2 hc
      have := B2 _ _ nb1 nb2 (hBG _ _ nb1 nb2 hc)
      rw [upd_ne (ne_of_none hc hdn.1)]
      exact this
  · rintro σ' G ⟨o5, o6, kvs, fs, n', rfl, hlG, hdG, hA, hF, hoG, hGo, S', hn', hBG⟩
    rw [List.length_map] at hF hn'
    rw [List.take_length] at hF
    have hpl := hperm.length_eq
    exact k ys fs kvs G n' o5 o6 hperm hF hdG hA hoG hGo S' (by omega) hBG
end
theorem fst_inj {α β : Type} {f : α → β} : ∀ {l : List α}, (l.map f).Nodup → ∀ a ∈ l, ∀ b ∈ l, f a = f b → a = b
  | x :: l, h, a, ha, b, hb, e => by
    obtain ⟨h1, h2⟩ := List.nodup_cons.mp h
    rcases List.mem_cons.mp ha with ha | ha
    · rcases List.mem_cons.mp hb with hb | hb
      · rw [ha, hb]
      · exact absurd (List.mem_map.mpr ⟨b, hb, by rw [← e, ha]⟩) h1
    · rcases List.mem_cons.mp hb with hb | hb
      · exact absurd (List.mem_map.mpr ⟨a, ha, by rw [e, hb]⟩) h1
      · exact fst_inj h2 a ha b hb e
theorem tx_hx {B : Addr → Prop} {G : Hp} (h : ∀ b, B b → ∀ xs, G b ≠ some (.tup xs)) : Tx G (Hx B G) := fun a xs e => hx_of (fun hb => h a hb xs e) tup_tbl e
abbrev nWl : List Str := ["_law_stream", "_law_names", "_law_many", "_law_functions", "_law_predicates", "_law_name", "_law_places", "_law_row"]
theorem sc_wl : FnScope nWl ["_law_stream", "_law_names", "_law_many"] (defScope s__law_c_world) := ⟨rfl, rfl, rfl, by decide +kernel, rfl, by decide +kernel, by decide +kernel⟩
def spWl : Sp := fun vs H Q _ => ∃ (p q : Addr) (nv : V) (n : Int) (nm : Nms) (m : Nat), vs = [.ref p, nv, .int (m : Nat)] ∧ Spr H p q n ∧ n < 60000 ∧ NmV H p q nv nm ∧ 1 ≤ m ∧ m < 4 ∧
  ∀ (v : V) (w : PW) (n' : Int) (G : Hp), WOK nm w → WdV (Hx (Old H) G) v w → Spr G p q n' → n' ≤ n + 500 → But p q H G → Q v G
section
variable {P : Program} {w : World} {K : PySem.W.Frag} {mg : Str → Option Value} {base : Heap}
theorem ok_world (T : T17 P w K mg base) : Ok P w K mg base CX0 "_law_c_world" ["_law_stream", "_law_names", "_law_many"] 3 spWl := by
  obtain ⟨fR, dR, GR, bR, kR, mR⟩ := (ok_rows T).ex
  obtain ⟨fD, dD, GD, bD, kD, mD⟩ := (ok_dr T).ex
  refine T.ok 29 rfl sc_wl (fun vs H Q E h => ?_) (fun kV doc pm an cdv ct us hl => match us, hl with | [_, _, _], _ => rfl) (fun f cdv A outer s H vs Q E hr h => ?_)
  · obtain ⟨p, q, nv, n, nm, m, rfl, _⟩ := h
    rfl
  · obtain ⟨p, q, nv, n, nm, m, rfl, S, hn, hnm, hm1, hm4, k⟩ := h
    refine ⟨_, pss_cons (ps_par (i := 3) (j := 4) rfl sc_wl.nd rfl rfl (by decide) rfl rfl (pa_cons pe_dnewK (pa_cons pe_dnewK pa_nil)) (by rfl))
      (pss_cons (ps_for PassesOwn.never rfl (pi_list (pe_callB cr_sortedTI (by rfl) T.sorted (by decide +kernel) (pa_cons (pe_ix ix_tup (pv 1) pe_int (fun _ _ => rfl)) pa_nil))) (pg_tup rfl (pgs_cons (pg_name (i := 5) sc_wl.nd rfl (Or.inl rfl)) (pgs_cons (pg_name (i := 6) sc_wl.nd rfl (Or.inl rfl)) pgs_nil)))
        (pss_one (ps_dput (hu_of hr) (pv 3) (pv 5) (pe_callTy (call_dictT rfl (hu3_of hr)) (by rfl) T.dict boot_dict23 (pa_cons
          (pe_lc (own := [("_law_row", 7)]) (g := gName 7) (tt := tYes) (te := tTup (tCons (tVar 7) (tCons (tCall spDr [] E0 (tCons (tVar 0) (tCons (tVar 2) tNil))) tNil))) rfl sc_wl.nd (pi_list (pe_call GR (hr.mono (by decide)) (by rfl) mR kR bR .nil pass0 (pa_cons (pv 2) (pa_cons (pv 6) pa_nil)))) (blkOk_by (N := nWl) (sc := defScope s__law_c_world) (by decide +kernel))
            (fun _ _ _ _ _ => pg_name (i := 7) sc_wl.nd rfl (Or.inl rfl)) (fun _ _ _ _ _ => pts_nil) (fun _ _ _ _ _ => pe_tup (pa_cons (pv 7) (pa_cons (pe_call GD (hr.mono (by decide)) (by rfl) mD kD bD .nil pass0 (pa_cons (pv 0) (pa_cons (pv 2) pa_nil))) pa_nil)))) pa_nil)) rfl)))
      (pss_cons (ps_for PassesOwn.never rfl (pi_list (pe_callB cr_sortedTI (by rfl) T.sorted (by decide +kernel) (pa_cons (pe_ix ix_tup (pv 1) pe_int (fun _ _ => rfl)) pa_nil))) (pg_tup rfl (pgs_cons (pg_name (i := 5) sc_wl.nd rfl (Or.inl rfl)) (pgs_cons (pg_name (i := 6) sc_wl.nd rfl (Or.inl rfl)) pgs_nil)))
        (pss_one (ps_dput (hu_of hr) (pv 4) (pv 5)
          (pe_lc (own := [("_law_row", 7)]) (g := gName 7) (tt := tTest (tOp rEq (tCall spDr [] E0 (tCons (tVar 0) (tCons (tC (.int 2)) tNil))) (tC (.int 0)))) (te := tVar 7) rfl sc_wl.nd (pi_list (pe_call GR (hr.mono (by decide)) (by rfl) mR kR bR .nil pass0 (pa_cons (pv 2) (pa_cons (pv 6) pa_nil)))) (blkOk_by (N := nWl) (sc := defScope s__law_c_world) (by decide +kernel))
            (fun _ _ _ _ _ => pg_name (i := 7) sc_wl.nd rfl (Or.inl rfl)) (fun _ _ _ _ _ => pts_one (pt_cmpR op_eq (pe_call GD (hr.mono (by decide)) (by rfl) mD kD bD .nil pass0 (pa_cons (pv 0) (pa_cons pe_int pa_nil))) pe_int (nomark _))) (fun _ _ _ _ _ => pv 7)) rfl)))
      (pss_one (ps_ret (pe_tup (pa_cons (pv 2) (pa_cons (pv 3) (pa_cons (pv 4) pa_nil)))))))), ?_⟩
    obtain ⟨t, fa, pa, fu, pu, rfl, ht, t1, t2, hfa, f1, f2, hfu, hpa, p1, p2, hpu, hpx, hfx⟩ := hnm.at_
    obtain ⟨nd1, nd2, ar1, fl⟩ := nn_nd nm hnm.mem
    obtain ⟨nn1, nn2, nn3, nn4⟩ := nn_ok nm hnm.mem
    refine fun fd hfd0 => fun pd hpd0 => ⟨_, _, rfl, ?_⟩
    have x1 : Ex H (upd H fd (.dK [])) := Ex.new hfd0
    have x2 : Ex (upd H fd (.dK [])) (upd (upd H fd (.dK [])) pd (.dK [])) := Ex.new hpd0
    have x12 := x1.trans x2
    have nfd := S.nep hfd0
    have hpd1 : H pd = none := fresh_back x1 hpd0
    have npd := S.nep hpd1
    have nfp : fd ≠ pd := ne_of_none upd_same hpd0
    have hfd2 : (upd (upd H fd (.dK [])) pd (.dK [])) fd = some (.dK []) := x2 _ _ upd_same
    have hpd2 : (upd (upd H fd (.dK [])) pd (.dK [])) pd = some (.dK []) := upd_same
    revert hfd2 hpd2 x2 x12
    generalize upd (upd H fd (.dK [])) pd (.dK []) = H2
    intro x2 x12 hfd2 hpd2
    obtain ⟨xs1, rfl, ez1, hx1⟩ := tris hfu
    obtain ⟨xs2, rfl, ez2, hx2⟩ := tris hpu
    have of1 : ∀ y ∈ xs1, ∃ z ∈ nm.1, y.2 = (z.1, ((z.2 : Nat) : Int)) := fun y hy => by
      have : y.2 ∈ xs1.map (·.2) := List.mem_map.mpr ⟨y, hy, rfl⟩
      rw [ez1] at this
      obtain ⟨z, hz, e⟩ := List.mem_map.mp this
      exact ⟨z, hz, e.symm⟩
    have of2 : ∀ y ∈ xs2, ∃ z ∈ nm.2, y.2 = (z.1, ((z.2 : Nat) : Int)) := fun y hy => by
      have : y.2 ∈ xs2.map (·.2) := List.mem_map.mpr ⟨y, hy, rfl⟩
      rw [ez2] at this
      obtain ⟨z, hz, e⟩ := List.mem_map.mp this
      exact ⟨z, hz, e.symm⟩
    have nm1 : (xs1.map fun x => x.2.1) = nm.1.map (·.1) := by
      rw [show (fun x : Tri => x.2.1) = (fun x : Str × Int => x.1) ∘ (fun x : Tri => x.2) from rfl, ← List.map_map, ez1, List.map_map]
      rfl
    have nm2 : (xs2.map fun x => x.2.1) = nm.2.map (·.1) := by
      rw [show (fun x : Tri => x.2.1) = (fun x : Str × Int => x.1) ∘ (fun x : Tri => x.2) from rfl, ← List.map_map, ez2, List.map_map]
      rfl
    have l1 : xs1.length ≤ 5 := by have := congrArg List.length nm1; simp only [List.length_map] at this; omega
    have l2 : xs2.length ≤ 5 := by have := congrArg List.length nm2; simp only [List.length_map] at this; omega
    have nR : ∀ {G : Hp} {n' : Int} {a : Addr}, (∃ o, G fd = some o) → (∃ o, G pd = some o) → Spr G p q n' → But p q H G → G a = none → ¬ R4 H fd pd a := by
      rintro G n' a ⟨o1, h1⟩ ⟨o2, h2⟩ S' B ha hc
      have := S'.nep ha
      rcases hc with ⟨xs, hx⟩ | rfl | rfl
      · rw [B _ _ this.1 this.2 hx] at ha; cases ha
      · rw [ha] at h1; cases h1
      · rw [ha] at h2; cases h2
    refine q_fill (β := Tbl) (R := TV) (good := fun y tb => TG m y.2.2.toNat tb) (d := fd) (od := pd) (d3 := fd) (d4 := pd) (n := n) (ys0 := xs1) (ix := 0) (He := H) (fun h e => h.ext e) (.inl ⟨rfl, rfl, rfl⟩) nfp nfd npd hfd0 hpd1 (S.ext x12) (by omega) (But.of x12) ⟨n, S⟩ ht rfl hfa hx1 (by rw [nm1]; exact nd1) l1 f1 f2 hfd2 hpd2 (fun y hy G n' hg3 hg4 S' hn' B Q kQ => ?_) fun ys fs kvs G n' o5 o6 hperm hF hfG hA hpG hGo S' hn' B => ?_
    · obtain ⟨z, hz, ey⟩ := of1 y hy
      have ez : y.2.2 = ((z.2 : Nat) : Int) := by rw [ey]
      have hz1 := ar1 z hz
      have hlr := rowsL_len m hm4 z.2 (by omega)
      refine cb_drawn (m := m) (L := rowsL m z.2) (fun H1 e Q q => ⟨_, rfl, _, rfl, m, z.2, by rw [ez]; rfl, hm1, hm4, by omega, q⟩) (by omega) S' (by omega) hm1 hm4 (fun _ => rfl) (fun _ => rfl) (fun _ => rfl) (fun _ => rfl) fun c acc tb n2 G2 hc hcG hacc htk htv S2 hn2 B2 => ?_
      obtain ⟨ps, rfl, hps⟩ := e_paired (K := K) hacc
      refine ⟨c, ps, tb.map tK, rfl, sq_of hcG, hps, tab_nd hm4 (show z.2 < 5 by omega) htk, fun a ha => ?_⟩
      obtain ⟨o1, h1⟩ := hg3
      obtain ⟨o2, h2⟩ := hg4
      have x9 : Ex G2 (upd G2 a (.dT (tb.map tK))) := Ex.new ha
      refine kQ (.ref a) tb _ n2 ⟨a, rfl, hx_of (nR ⟨_, B2 _ _ nfd.1 nfd.2 h1⟩ ⟨_, B2 _ _ npd.1 npd.2 h2⟩ S2 (B.trans B2) ha) (fun _ z => nomatch z) upd_same⟩ ?_ (S2.ext x9) ?_ (B2.trans (But.of x9))
      · show TG m y.2.2.toNat tb
        rw [ez, Int.toNat_natCast]
        exact tg_of hm1 htk htv
      · have h7 : ∀ k ≤ 1, (rowsL m k).length ≤ 3 := by
          have h8 : ∀ m < 4, ∀ k ≤ 1, (rowsL m k).length ≤ 3 := by decide +kernel
          exact h8 m hm4
        have := h7 z.2 hz1
        omega
    refine q_fill (β := List (List Nat)) (R := PV) (good := fun _ _ => True) (d := pd) (od := fd) (d3 := fd) (d4 := pd) (n := n') (ys0 := xs2) (ix := 1) (He := H) (fun h e => h.ext e) (.inr ⟨rfl, rfl, rfl⟩) nfp nfd npd hfd0 hpd1 S' (by omega) B ⟨n, S⟩ ht rfl hpa hx2 (by rw [nm2]; exact nd2) l2 p1 p2 hpG hfG (fun y hy G n' hg3 hg4 S' hn' B Q kQ => ?_) fun ys2 fs2 kvs2 G3 n3 o5 o6 hperm2 hF2 hpG3 hA2 hfG3 hGo3 S3 hn3 B3 => ?_
    · obtain ⟨z, hz, ey⟩ := of2 y hy
      have ez : y.2.2 = ((z.2 : Nat) : Int) := by rw [ey]
      have hz1 := (nn4 z hz).1
      have h7 : (rowsL m z.2).length ≤ 9 := by
        have h8 : ∀ m < 4, ∀ k ≤ 2, (rowsL m k).length ≤ 9 := by decide +kernel
        exact h8 m hm4 z.2 hz1
      refine lc_some (L := rowsL m z.2) (fun H1 e Q q => ⟨_, rfl, _, rfl, m, z.2, by rw [ez]; rfl, hm1, hm4, by omega, q⟩) (by omega) S' (by omega) (fun _ => rfl) (fun _ => rfl) (fun _ => rfl) fun c acc rs n2 G2 hc hcG hacc hrs S2 hn2 B2 => ?_
      have hcR := nR (let ⟨_, h⟩ := hg3; ⟨_, h⟩) (let ⟨_, h⟩ := hg4; ⟨_, h⟩) S' B hc
      have hfdG : ∃ k, G2 fd = some (.dK k) := by
        obtain ⟨k, hk⟩ := hg3
        exact ⟨k, B2 _ _ nfd.1 nfd.2 hk⟩
      have hpdG : ∃ k, G2 pd = some (.dK k) := by
        obtain ⟨k, hk⟩ := hg4
        exact ⟨k, B2 _ _ npd.1 npd.2 hk⟩
      have tx : Tx G2 (Hx (R4 H fd pd) G2) := by
        refine tx_hx ?_
        obtain ⟨sx, sy, s1, s2⟩ := S2.lst
        obtain ⟨k1, hk1⟩ := hfdG
        obtain ⟨k2, hk2⟩ := hpdG
        rintro b (⟨zs, hz⟩ | rfl | rfl) xs e
        · by_cases e1 : b = p
          · rw [e1, s1] at e; cases e
          · by_cases e2 : b = q
            · rw [e2, s2] at e; cases e
            · rw [(B.trans B2) _ _ e1 e2 hz] at e; cases e
        · rw [hk1] at e; cases e
        · rw [hk2] at e; cases e
      refine kQ (.ref c) rs G2 n2 ⟨c, acc, rfl, hx_of hcR lst_tbl hcG, OVs.tx tx (hasLs_all.mpr fun o ho => by obtain ⟨x, _, rfl⟩ := List.mem_map.mp ho; exact row_noL x) (nods_all.mpr fun o ho => by obtain ⟨x, _, rfl⟩ := List.mem_map.mp ho; exact row_nod x) hacc⟩ trivial S2 (by omega) B2
    · refine s_retU (eu_tup (ea_cons (ev_var (i := 2) rfl) (ea_cons (ev_var (i := 3) rfl) (ea_cons (ev_var (i := 4) rfl) ea_nil))) (by show 3 ≤ 100000; decide)) fun u G4 hu e4 h4 => ?_
      have nu : ¬ Old H u := fun ⟨xs, hx⟩ => by
        have := S3.nep hu
        rw [B3 _ _ this.1 this.2 hx] at hu
        cases hu
      have x5 : Ex (Hx (R4 H fd pd) G3) (Hx (Old H) G4) := fun b o h => (Go.of e4 : Go (Old H) G3 G4).ex b o (hx_mono (fun b h => Or.inl h) b o h)
      have uq1 : ∀ a ∈ ys, ∀ b ∈ ys, a.2.1 = b.2.1 → a.2.2 = b.2.2 := by
        intro a ha b hb e
        obtain ⟨z, hz, ez⟩ := of1 a (hperm.mem_iff.mp ha)
        obtain ⟨z', hz', ez'⟩ := of1 b (hperm.mem_iff.mp hb)
        have : z = z' := fst_inj nd1 z hz z' hz' (by rw [ez, ez'] at e; exact e)
        rw [ez, ez', this]
      have uq2 : ∀ a ∈ ys2, ∀ b ∈ ys2, a.2.1 = b.2.1 → a.2.2 = b.2.2 := by
        intro a ha b hb e
        obtain ⟨z, hz, ez⟩ := of2 a (hperm2.mem_iff.mp ha)
        obtain ⟨z', hz', ez'⟩ := of2 b (hperm2.mem_iff.mp hb)
        have : z = z' := fst_inj nd2 z hz z' hz' (by rw [ez, ez'] at e; exact e)
        rw [ez, ez', this]
      refine k (.ref u) ⟨m, fs, fs2⟩ n3 G4 ⟨hm1, hm4, fun z hz => ?_, fun z hz => ?_⟩ ⟨u, fd, pd, rfl, hx_of nu tup_tbl h4, ⟨kvs, hx_of (not_old hfd0) (fun _ z => nomatch z) (e4 _ _ hfG3), A2.mono (fun kv f h => ⟨h.1, h.2.ext (fun b o hh => x5 b o (hGo3.ex b o hh))⟩) hA⟩, ⟨kvs2, hx_of (not_old hpd1) (fun _ z => nomatch z) (e4 _ _ hpG3), A2.mono (fun kv f h => ⟨h.1, h.2.ext x5⟩) hA2⟩⟩ (S3.ext e4) (by omega) (B3.trans (But.of e4))
      · have : (z.1, ((z.2 : Nat) : Int)) ∈ xs1.map (·.2) := by rw [ez1]; exact List.mem_map.mpr ⟨z, hz, rfl⟩
        obtain ⟨y, hy, ey⟩ := List.mem_map.mp this
        obtain ⟨y', tb, h1, h2, h3⟩ := a2_alk (R := fun y tb => TG m y.2.2.toNat tb) hF y (hperm.mem_iff.mpr hy) uq1
        have ey : y.2 = (z.1, ((z.2 : Nat) : Int)) := ey
        rw [ey] at h1 h2
        refine ⟨tb, h2, ?_⟩
        have h1 : y'.2.2 = ((z.2 : Nat) : Int) := h1
        rw [h1, Int.toNat_natCast] at h3
        exact h3
      · have : (z.1, ((z.2 : Nat) : Int)) ∈ xs2.map (·.2) := by rw [ez2]; exact List.mem_map.mpr ⟨z, hz, rfl⟩
        obtain ⟨y, hy, ey⟩ := List.mem_map.mp this
        obtain ⟨y', tb, h1, h2, h3⟩ := a2_alk (R := fun y tb => True) hF2 y (hperm2.mem_iff.mpr hy) uq2
        have ey : y.2 = (z.1, ((z.2 : Nat) : Int)) := ey
        rw [ey] at h2
        exact ⟨tb, h2⟩
end
end K17

set_option Elab.async false
set_option linter.all false
set_option maxRecDepth 100000
set_option maxHeartbeats 4000000
/-! _law_c_with, _law_c_worlds. -/
namespace K17
open PySem PySem.Spec PyProof.Rows L2 Evl
abbrev nWi : List Str := ["_law_some", "_law_key", "_law_thing", "_law_found"]
theorem sc_wi : FnScope nWi ["_law_some", "_law_key", "_law_thing"] (defScope s__law_c_with) := ⟨rfl, rfl, rfl, by decide +kernel, rfl, by decide +kernel, by decide +kernel⟩
def spWi : Sp := fun vs H Q _ => ∃ (d : Addr) (s : Str) (v : V) (kvs : List (Key × V)), vs = [.ref d, .str s, v] ∧ H d = some (.dK kvs) ∧ (Sum.inr s : Key) ∉ kvs.map (·.1) ∧ kvs.length ≤ 1000 ∧ ∀ a G, H a = none → Ex H G → G a = some (.dK (kvs ++ [(Sum.inr s, v)])) → Q (.ref a) G
section
variable {P : Program} {w : World} {K : PySem.W.Frag} {mg : Str → Option Value} {base : Heap}
theorem ok_with (T : T17 P w K mg base) : Ok P w K mg base CX0 "_law_c_with" ["_law_some", "_law_key", "_law_thing"] 1 spWi := by
  refine T.ok 19 rfl sc_wi (fun vs H Q E h => ?_) (fun kV doc pm an cdv ct us hl => match us, hl with | [_, _, _], _ => rfl) (fun f cdv A outer s H vs Q E hr h => ?_)
  · obtain ⟨d, s, v, kvs, rfl, _⟩ := h
    rfl
  · obtain ⟨d, sk, v, kvs, rfl, hd, hk, hl, k⟩ := h
    refine ⟨_, pss_cons (ps_set (i := 3) sc_wi.nd rfl (Or.inl rfl) (pe_callTy call_dictD (by rfl) T.dict boot_dict23 (pa_cons (pv 0) pa_nil)))
      (pss_cons (ps_dput (hu_of hr) (pv 3) (pv 1) (pv 2) rfl)
      (pss_one (ps_ret (pv 3)))), ?_⟩
    refine ⟨_, rfl, d, kvs, rfl, .inl hd, fun a ha => ?_⟩
    have e1 : Ex H (upd H a (.dK kvs)) := Ex.new ha
    refine ⟨_, rfl, _, rfl, _, rfl, a, _, rfl, DPut.k (k := Sum.inr sk) upd_same (sz_lt (by omega)), ?_⟩
    rw [putKn hk]
    exact s_ret (ev_var rfl) fun G eG => k a G ha ((Ex.mut e1 ha).trans eG) (eG _ _ upd_same)
end
theorem alk_left {β : Type} {l l' : List (Str × β)} {s : Str} {t : β} (h : alk l s = some t) : alk (l ++ l') s = some t := by
  unfold alk at h ⊢
  rw [List.find?_append]
  cases e : l.find? fun p => decide (p.1 = s) with
  | none => rw [e] at h; cases h
  | some p => rw [e] at h; exact h
theorem alk_new {β : Type} {l : List (Str × β)} {s : Str} {t : β} (h : s ∉ l.map (·.1)) : alk (l ++ [(s, t)]) s = some t := by
  unfold alk
  rw [List.find?_append]
  cases e : l.find? fun p => decide (p.1 = s) with
  | none =>
    show (([(s, t)].find? fun p => decide (p.1 = s)).map (·.2)) = some t
    rw [List.find?_cons, decide_eq_true (show (s, t).1 = s from rfl)]
    rfl
  | some p =>
    have h1 := List.find?_some e
    exact absurd (List.mem_map.mpr ⟨p, List.mem_of_find?_eq_some e, of_decide_eq_true h1⟩) h
theorem pr_eqv (a b : Str × Nat) : (prO a).eqv (prO b) = decide (a = b) := by
  have e : (prO a).eqv (prO b) = ((a.1 == b.1) && (((a.2 : Nat) : Int) == ((b.2 : Nat) : Int))) := by
    simp only [prO, O.eqv, O.py, O.pys, PyData.eqv, PyData.eqvAll, Bool.and_true]
  rw [e]
  obtain ⟨a1, a2⟩ := a
  obtain ⟨b1, b2⟩ := b
  by_cases h1 : a1 = b1 <;> by_cases h2 : a2 = b2
  · simp [h1, h2]
  · have : ¬ ((a2 : Int) = (b2 : Int)) := by omega
    simp [h1, h2, this]
  · simp [h1, h2]
  · simp [h1, h2]
/-- how many worlds one name makes of one -/
def wide (m : Nat) (nm : Nms) (q : Str × Nat) : Nat := (rowsL (if q ∈ nm.1 then m else 2) (rowsL m q.2).length).length
def pr (m : Nat) (nm : Nms) (l : List (Str × Nat)) : Nat := l.foldl (fun a q => a * wide m nm q) 1
def okW (m : Nat) (nm : Nms) : Bool := (nm.1 ++ nm.2).all (fun q => decide (q.2 < 5) && decide ((rowsL m q.2).length < 5)) && (List.range ((nm.1 ++ nm.2).length + 1)).all fun i => decide (pr m nm ((nm.1 ++ nm.2).take i) ≤ 64)
theorem nn_one : ∀ nm ∈ NN, okW 1 nm = true := by decide +kernel
theorem nn_two : ∀ nm ∈ NN, (nm.1 ++ nm.2).length < 4 → (("r", 2) : Str × Nat) ∉ nm.2 → okW 2 nm = true := by decide +kernel
theorem nn_all : ∀ nm ∈ NN, ((nm.1 ++ nm.2).map (·.1)).Nodup ∧ (nm.1 ++ nm.2).length ≤ 6 ∧ (∀ q ∈ nm.2, q ∉ nm.1) ∧ ∀ q ∈ nm.1 ++ nm.2, SS.contains q.1 = true := by decide +kernel
/-- a world of the names done so far -/
structure WP (nm : Nms) (m : Nat) (done : List (Str × Nat)) (w : PW) : Prop where
  n : w.n = m
  f : ∀ q ∈ done, q ∈ nm.1 → ∃ t, alk w.fs q.1 = some t ∧ TG m q.2 t
  p : ∀ q ∈ done, q ∉ nm.1 → ∃ rs, alk w.ps q.1 = some rs
  kf : ∀ f ∈ w.fs, f.1 ∈ done.map (·.1)
  kp : ∀ f ∈ w.ps, f.1 ∈ done.map (·.1)
  lf : w.fs.length ≤ done.length
  lp : w.ps.length ≤ done.length
theorem WP.fun_ {nm : Nms} {m : Nat} {done : List (Str × Nat)} {w : PW} {q : Str × Nat} {t : Tbl} (h : WP nm m done w) (hq : q.1 ∉ done.map (·.1)) (hf : q ∈ nm.1) (ht : TG m q.2 t) : WP nm m (done ++ [q]) ⟨w.n, w.fs ++ [(q.1, t)], w.ps⟩ := by
  have hs : q.1 ∉ w.fs.map (·.1) := fun z => by
    obtain ⟨f, hf, e⟩ := List.mem_map.mp z
    exact hq (e ▸ h.kf f hf)
  refine ⟨h.n, fun r hr hrf => ?_, fun r hr hrf => ?_, fun f hf => ?_, fun f hf => ?_, ?_, ?_⟩
  · rcases List.mem_append.mp hr with hr | hr
    · obtain ⟨t', a, b⟩ := h.f r hr hrf
      exact ⟨t', alk_left a, b⟩
    · rw [List.mem_singleton.mp hr]
      exact ⟨t, alk_new hs, ht⟩
  · rcases List.mem_append.mp hr with hr | hr
    · exact h.p r hr hrf
    · rw [List.mem_singleton.mp hr] at hrf
      exact absurd hf hrf
  · rw [List.map_append]
    rcases List.mem_append.mp hf with hf | hf
    · exact List.mem_append_left _ (h.kf f hf)
    · rw [List.mem_singleton.mp hf]
      exact List.mem_append_right _ (by simp)
  · rw [List.map_append]
    exact List.mem_append_left _ (h.kp f hf)
  · have := h.lf
    show (w.fs ++ [(q.1, t)]).length ≤ (done ++ [q]).length
    rw [List.length_append, List.length_append]
    exact Nat.succ_le_succ this
  · have := h.lp
    show w.ps.length ≤ (done ++ [q]).length
    rw [List.length_append]
    omega
theorem WP.prd {nm : Nms} {m : Nat} {done : List (Str × Nat)} {w : PW} {q : Str × Nat} {t : List (List Nat)} (h : WP nm m done w) (hq : q.1 ∉ done.map (·.1)) (hf : q ∉ nm.1) : WP nm m (done ++ [q]) ⟨w.n, w.fs, w.ps ++ [(q.1, t)]⟩ := by
  have hs : q.1 ∉ w.ps.map (·.1) := fun z => by
    obtain ⟨f, hf, e⟩ := List.mem_map.mp z
    exact hq (e ▸ h.kp f hf)
  refine ⟨h.n, fun r hr hrf => ?_, fun r hr hrf => ?_, fun f hf => ?_, fun f hf => ?_, ?_, ?_⟩
  · rcases List.mem_append.mp hr with hr | hr
    · exact h.f r hr hrf
    · rw [List.mem_singleton.mp hr] at hrf
      exact absurd hrf hf
  · rcases List.mem_append.mp hr with hr | hr
    · obtain ⟨t', a⟩ := h.p r hr hrf
      exact ⟨t', alk_left a⟩
    · rw [List.mem_singleton.mp hr]
      exact ⟨t, alk_new hs⟩
  · rw [List.map_append]
    exact List.mem_append_left _ (h.kf f hf)
  · rw [List.map_append]
    rcases List.mem_append.mp hf with hf | hf
    · exact List.mem_append_left _ (h.kp f hf)
    · rw [List.mem_singleton.mp hf]
      exact List.mem_append_right _ (by simp)
  · have := h.lf
    show w.fs.length ≤ (done ++ [q]).length
    rw [List.length_append]
    omega
  · have := h.lp
    show (w.ps ++ [(q.1, t)]).length ≤ (done ++ [q]).length
    rw [List.length_append, List.length_append]
    exact Nat.succ_le_succ this
theorem kr_keys {β : Type} {R : V → β → Prop} : ∀ {kvs : List (Key × V)} {fs : List (Str × β)}, A2 (KR R) kvs fs → kvs.map (·.1) = fs.map fun f => (Sum.inr f.1 : Key)
  | [], [], _ => rfl
  | kv :: kvs, f :: fs, ⟨h, h2⟩ => by
    rw [List.map_cons, List.map_cons, kr_keys h2, h.1]
theorem zip_keys {H : Hp} : ∀ {L : List (List Nat)} {r : List Nat} {us : List V}, OVs H us (L.map rowO) → r.length = L.length → PySem.Paired (KeyAt H) us ((L.zip r).map tK) ∧ nums r = ((L.zip r).map tK).map (·.2) ∧ (L.zip r).map (·.1) = L
  | [], [], us, h, _ => by
    obtain rfl : us = [] := h
    exact ⟨.nil, rfl, rfl⟩
  | x :: L, i :: r, us, h, hl => by
    obtain ⟨u, us', rfl, h1, h2⟩ := h
    obtain ⟨a, b, c⟩ := zip_keys h2 (r := r) (by simpa using hl)
    obtain ⟨t, rfl, ht⟩ := row_at h1
    refine ⟨.cons ⟨t, rfl, by rw [show (tK (x, i)).1 = rK x from rfl, rK_nums]; exact ht⟩ a, ?_, ?_⟩
    · show V.int i :: nums r = V.int i :: ((L.zip r).map tK).map (·.2)
      rw [b]
    · show x :: (L.zip r).map (·.1) = x :: L
      rw [c]
section
variable {K : PySem.W.Frag} {σ : L2.St} {H G : Hp} {te ta : TE} {D : Ends}
theorem s_appP {l : Addr} {xs : List V} {P : V → Hp → Prop} (hl : H l = some (.lst xs)) (ha : Ev ta σ H (.ref l)) (hb : EvP te σ H P) (hz : xs.length < 100000) (k : ∀ y H1, Ex H H1 → P y H1 → D.nx σ (upd H1 l (.lst (xs ++ [y])))) :
    tDrop (tBM K "list" rAppend ta (tCons te tNil)) D σ H := ha H (Ex.refl H) _ fun H1 e1 => ⟨.inl ⟨rfl, _, sq_of (e1 l _ hl)⟩, hb H1 e1 _ fun y H2 e2 hy =>
  ⟨l, xs, y, rfl, rfl, e2 l _ (e1 l _ hl), sz_lt hz, k y H2 (e1.trans e2) hy⟩⟩
/-- [row for row, one in zip(rows, some) if one == 1] -/
theorem lcZ {rl t2 : Addr} {rus : List V} {L : List (List Nat)} {r : List Nat} (h6 : Ev te σ H (.ref rl)) (h8 : Ev ta σ H (.ref t2)) (hrl : H rl = some (.lst rus)) (hru : OVs H rus (L.map rowO)) (ht2 : H t2 = some (.tup (nums r))) (hl : r.length = L.length) (hL : L.length ≤ 100)
    (hw : ∀ x y, wipe (((wipe σ [10, 11]).set 10 (some x)).set 11 (some y)) [10, 11] = wipe σ [10, 11]) (h10 : ∀ x y, (((wipe σ [10, 11]).set 10 (some x)).set 11 (some y))[10]? = some (some x)) (h11 : ∀ x y, (((wipe σ [10, 11]).set 10 (some x)).set 11 (some y))[11]? = some (some y)) :
    EvLP (tLc (iZipM K (tCons te (tCons ta tNil))) (gPair K 10 11) (tTest (tOp rEq (tVar 11) (tC (.int 1)))) (tVar 10) [10, 11]) σ H (fun xs G => ∃ rs : List (List Nat), OVs G xs (rs.map rowO) ∧ rs.length ≤ 100) := fun H1 e Q q =>
  h6 H1 e _ fun H2 e2 => h8 H2 (e.trans e2) _ fun H3 e3 => ⟨rl, t2, rus, nums r, rfl, sq_of ((e.trans e2).trans e3 _ _ hrl), st_of ((e.trans e2).trans e3 _ _ ht2), fun Dl hD => by
    have hul : rus.length = L.length := by rw [hru.length, List.length_map]
    have hnl : rus.length = (nums r).length := by rw [nums_len]; omega
    have e123 := (e.trans e2).trans e3
    refine lc_it (walk_zipM (K := K) (a := rl) (b := t2) hnl) (Cwp H3 (fun i => decide (r[i]? = some 1)) (fun i v G => ∃ l, L[i]? = some l ∧ OV G v (rowO l)) Dl) (cwp0 hD) (fun i G _ p => ⟨sq_of (p.2.1 _ _ (e123 _ _ hrl)), st_of (p.2.1 _ _ (e123 _ _ ht2))⟩) (fun i x G G' hi p y => ?_) (fun G p => ?_)
    · obtain ⟨T, x1, x2, rfl, hT, rfl, a1, a2⟩ := y
      have eT : Ex G (upd G T (.tup [x1, x2])) := Ex.new hT
      obtain ⟨o, ho, hov⟩ := hru.get a1
      rw [List.getElem?_map] at ho
      obtain ⟨l, hl', rfl⟩ := Option.map_eq_some_iff.mp ho
      obtain ⟨k1, hk1, rfl⟩ := nums_get a2
      refine ⟨T, _, rfl, SqT.of upd_same, rfl, _, _, rfl, _, _, rfl, rfl, hw _ _, cwp_turn (fun i v => ?_) p eT (by omega) (et_is (et_test (ev_op (ev_var (h11 _ _)) ev_c (rv_eq rfl))) ?_) fun hf G3 g3 G4 g4 Q4 q4 => ⟨x1, h10 _ _, q4 x1 G4 (Ex.refl _) ⟨l, hl', hov.ext ((((e123.trans p.2.1).trans eT).trans g3).trans g4)⟩⟩⟩
      · intro A B ys hA eA eB kp ⟨l, hl, ov⟩
        exact ⟨l, hl, upd_ov (row_noL l) (row_nod l) A B ys hA eA eB kp ov⟩
      · rw [hk1]
        refine decide_eq_decide.mpr ⟨fun z => ?_, fun z => ?_⟩
        · have := V.int.inj z
          congr 1
          omega
        · obtain rfl := Option.some.inj z
          rfl
    · obtain ⟨p1, p2, acc, p3, p4, p5⟩ := p
      refine q Dl acc G (fresh_back (e2.trans e3) p1) ((e2.trans e3).trans p2) p3 ?_
      have : ∀ (is : List Nat) (acc : List V), A2 (fun i y => ∃ l, L[i]? = some l ∧ OV G y (rowO l)) is acc → ∃ rs : List (List Nat), OVs G acc (rs.map rowO) ∧ rs.length = acc.length := by
        intro is
        induction is with
        | nil =>
          intro acc h
          cases acc with
          | nil => exact ⟨[], .nil, rfl⟩
          | cons a b => exact h.elim
        | cons i is ih =>
          intro acc h
          cases acc with
          | nil => exact h.elim
          | cons a b =>
            obtain ⟨⟨l, _, ov⟩, h2⟩ := h
            obtain ⟨rs, c, d⟩ := ih b h2
            exact ⟨l :: rs, .cons ov c, by rw [List.length_cons, List.length_cons, d]⟩
      obtain ⟨rs, c, d⟩ := this _ _ p5
      exact ⟨rs, c, by omega⟩⟩
end
def spWs : Sp := fun vs H Q _ => ∃ (nv : V) (nm : Nms) (m : Nat) (B0 : Addr → Prop), vs = [nv, .int (m : Nat)] ∧ nm ∈ NN ∧ 1 ≤ m ∧ m < 4 ∧ okW m nm = true ∧ OV (Hx B0 H) nv (nmO nm) ∧ (∀ b, B0 b → ∃ o, H b = some (.lst o)) ∧
  ∀ (c : Addr) (us : List V) (G : Hp), H c = none → Ex H G → G c = some (.lst us) → us.length ≤ 64 → (∀ v ∈ us, ∃ w, WdV (Hx B0 G) v w ∧ WOK nm w) → Q (.ref c) G
abbrev nWs : List Str := ["_law_names", "_law_many", "_law_found", "_law_name", "_law_places", "_law_longer", "_law_rows", "_law_world", "_law_some", "_law_facts", "_law_row", "_law_one"]
theorem sc_ws : FnScope nWs ["_law_names", "_law_many"] (defScope s__law_c_worlds) := ⟨rfl, rfl, rfl, by decide +kernel, rfl, by decide +kernel, by decide +kernel⟩
end K17

set_option Elab.async false
set_option linter.all false
set_option maxRecDepth 100000
set_option maxHeartbeats 4000000
/-! _law_c_worlds. -/
namespace K17
open PySem PySem.Spec PyProof.Rows L2 Evl
abbrev BL (B0 : Addr → Prop) (lg : Addr) : Addr → Prop := fun b => B0 b ∨ b = lg
section
variable {K : PySem.W.Frag} {σ : L2.St} {H G : Hp}
abbrev tInF (K : PySem.W.Frag) : TT := tTest (tOp (rInD K) (tTup (tCons (tVar 3) (tCons (tVar 4) tNil))) (tOp (rIxT K) (tVar 0) (tC (.int 0))))
theorem et_inF {nv : V} {nm : Nms} {q : Str × Nat} (h0 : σ[0]? = some (some nv)) (h3 : σ[3]? = some (some (.str q.1))) (h4 : σ[4]? = some (some (.int (q.2 : Nat)))) (hnm : nm ∈ NN) (hnv : OV H nv (nmO nm)) (hq : q ∈ nm.1 ++ nm.2) : EvT (tInF K) σ H (decide (q ∈ nm.1)) := by
  obtain ⟨t, zs, rfl, ht, x1, z1, rfl, ⟨fa, fu, rfl, hfa, hfu⟩, hz⟩ := hnv
  obtain ⟨_, _, _, ss⟩ := nn_all nm hnm
  have eds : ∀ l : List (Str × Nat), (∀ r ∈ l, r ∈ nm.1 ++ nm.2) → O.eds (l.map prO) = true := fun l hl => eds_all.mpr fun o ho => by
    obtain ⟨r, hr, rfl⟩ := List.mem_map.mp ho
    show (SS.contains r.1 && (true && true)) = true
    rw [ss r (hl r hr)]
    rfl
  have dps : ∀ l : List (Str × Nat), O.dps (l.map prO) ≤ 1 := fun l => dps_all.mpr fun o ho => by
    obtain ⟨r, hr, rfl⟩ := List.mem_map.mp ho
    exact Nat.le_refl 1
  refine et_is (a := (nm.1.map prO).any fun o => o.eqv (prO q)) (et_test (ev_opO (a := prO q) (b := prsO nm.1) (eo_tup (eao_cons (eo_var h3 rfl) (eao_cons (eo_var h4 rfl) eao_nil)) (by show 2 ≤ 1000; decide)) (eo_of (ev_op (z := .ref fa) (ev_var h0) ev_c (rv_ixT (st_of ht) (atI_nat (j := 0) rfl))) ⟨fa, fu, rfl, hfa, hfu⟩) fun u w' G eG hu hw' => ?_)) ?_
  · obtain ⟨a2, us2, rfl, ha2, hov2⟩ := hw'
    exact rv_inO hu ha2 hov2 (show (SS.contains q.1 && (true && true)) = true by rw [ss q hq]; rfl) (eds _ fun r hr => List.mem_append_left _ hr) (show 1 ≤ 60 by decide) (Nat.le_trans (dps _) (by decide))
  · exact (any_map pr_eqv nm.1 q).trans (decide_eq_decide.mpr Iff.rfl)
theorem elp_rows2 {ta tb : TE} {n2 L : Nat} (h1 : Ev ta σ H (.int (n2 : Nat))) (h2 : Ev tb σ H (.int (L : Nat))) (a1 : 1 ≤ n2) (a2 : n2 < 4) (a3 : L < 5) : EvLP (tCall spRw [] E0 (tCons ta (tCons tb tNil))) σ H (fun us G => OVs G us ((rowsL n2 L).map rowO)) := fun H1 e Q q =>
  h1 H1 e _ fun H2 e2 => h2 H2 (e.trans e2) _ fun H3 e3 => ⟨n2, L, rfl, a1, a2, a3, fun p us G hp eG hG hu => q p us G (fresh_back (e2.trans e3) hp) ((e2.trans e3).trans eG) hG hu⟩
abbrev stW (nv : V) (m : Nat) (cf : V) (s : Str) (k : Nat) (lg rl : Addr) (v t2 : V) (o9 : Option V) : L2.St := [some nv, some (.int (m : Nat)), some cf, some (.str s), some (.int (k : Nat)), some (.ref lg), some (.ref rl), some v, some t2, o9, none, none]
abbrev tB3 (K : PySem.W.Frag) : TS := tIfS (tInF K)
  (tDrop (tBM K "list" rAppend (tVar 5) (tCons (tTup (tCons (tVar 1) (tCons (tCall spWi [] E0 (tCons (tOp (rIxT K) (tVar 7) (tC (.int 1))) (tCons (tVar 3) (tCons (tCB (rDZ K) (tCons (tVar 6) (tCons (tVar 8) tNil))) tNil)))) (tCons (tOp (rIxT K) (tVar 7) (tC (.int 2))) tNil)))) tNil)))
  (tSeq (tAsg (tLc (iZipM K (tCons (tVar 6) (tCons (tVar 8) tNil))) (gPair K 10 11) (tTest (tOp rEq (tVar 11) (tC (.int 1)))) (tVar 10) [10, 11]) (gName 9))
    (tDrop (tBM K "list" rAppend (tVar 5) (tCons (tTup (tCons (tVar 1) (tCons (tOp (rIxT K) (tVar 7) (tC (.int 1))) (tCons (tCall spWi [] E0 (tCons (tOp (rIxT K) (tVar 7) (tC (.int 2))) (tCons (tVar 3) (tCons (tVar 9) tNil)))) tNil)))) tNil))))
theorem st_world {D : Ends} {B0 : Addr → Prop} {nv v cf : V} {nm : Nms} {m : Nat} {lg rl t2 : Addr} {o9 : Option V} {q : Str × Nat} {done : List (Str × Nat)} {w : PW} {rus acc : List V} {r : List Nat}
    (hnm : nm ∈ NN) (hnv : OV G nv (nmO nm)) (hq : q ∈ nm.1 ++ nm.2) (hB0 : ∀ b, B0 b → ∃ o, G b = some (.lst o)) (hlg : G lg = some (.lst acc)) (hv : WdV (Hx (BL B0 lg) G) v w) (hw : WP nm m done w) (hqd : q.1 ∉ done.map (·.1)) (hdl : done.length ≤ 10)
    (hrl : G rl = some (.lst rus)) (hru : OVs G rus ((rowsL m q.2).map rowO)) (ht2 : G t2 = some (.tup (nums r))) (hr : r.length = (rowsL m q.2).length) (hrx : ∀ x ∈ r, x < if q ∈ nm.1 then m else 2) (hm1 : 1 ≤ m) (hm4 : m < 4) (hq5 : q.2 < 5) (hacc : acc.length < 90000)
    (k : ∀ y G1 o9', (∀ b o, b ≠ lg → G b = some o → G1 b = some o) → G1 lg = some (.lst (acc ++ [y])) → (∃ w', WdV (Hx (BL B0 lg) G1) y w' ∧ WP nm m (done ++ [q]) w') → D.nx (stW nv m cf q.1 q.2 lg rl v (.ref t2) o9') G1) :
    tB3 K D (stW nv m cf q.1 q.2 lg rl v (.ref t2) o9) G := by
  obtain ⟨t, fd, pd, rfl, htx, ⟨kf, hkf, hA⟩, ⟨kp, hkp, hB⟩⟩ := hv
  have ht := (hx_to htx).2.2
  have hkf' := (hx_to hkf).2.2
  have hkp' := (hx_to hkp).2.2
  have hll := rowsL_len m hm4 q.2 hq5
  have nof : (Sum.inr q.1 : Key) ∉ kf.map (·.1) := by
    rw [kr_keys hA]
    intro z
    obtain ⟨f, hf, e⟩ := List.mem_map.mp z
    exact hqd (Sum.inr.inj e ▸ hw.kf f hf)
  have nop : (Sum.inr q.1 : Key) ∉ kp.map (·.1) := by
    rw [kr_keys hB]
    intro z
    obtain ⟨f, hf, e⟩ := List.mem_map.mp z
    exact hqd (Sum.inr.inj e ▸ hw.kp f hf)
  have lkf : kf.length ≤ 1000 := by have := A2.length hA; have := hw.lf; omega
  have lkp : kp.length ≤ 1000 := by have := A2.length hB; have := hw.lp; omega
  have nB : ∀ {G1 : Hp} {a : Addr}, Ex G G1 → G1 a = none → ¬ BL B0 lg a := by
    rintro G1 a e ha (h | rfl)
    · obtain ⟨o, ho⟩ := hB0 a h
      rw [e _ _ ho] at ha
      cases ha
    · rw [e _ _ hlg] at ha
      cases ha
  have up : ∀ {G1 : Hp} {y : V}, Ex G G1 → (∀ b o, b ≠ lg → G b = some o → (upd G1 lg (.lst (acc ++ [y]))) b = some o) ∧ Ex (Hx (BL B0 lg) G) (Hx (BL B0 lg) (upd G1 lg (.lst (acc ++ [y])))) := by
    intro G1 y e
    refine ⟨fun b o nb hb => by rw [upd_ne nb]; exact e _ _ hb, ((Go.of e).trans (Go.upd (.inr rfl))).ex⟩
  have put : ∀ {G1 : Hp} {y : V} {a : Addr} {o : HO}, ¬ BL B0 lg a → (∀ ps, o ≠ .tbl ps) → G1 a = some o → Hx (BL B0 lg) (upd G1 lg (.lst (acc ++ [y]))) a = some o := by
    intro G1 y a o n t h
    refine hx_of n t ?_
    rw [upd_ne (fun z => n (.inr z))]
    exact h
  refine s_if (b := decide (q ∈ nm.1)) (et_inF rfl rfl rfl hnm hnv hq) (fun hb H1 e1 => ?_) fun hb H1 e1 => ?_
  · have hqf := of_decide_eq_true hb
    rw [if_pos hqf] at hrx
    obtain ⟨z1, z2, z3⟩ := zip_keys (hru.ext e1) hr
    refine s_appP (P := fun y G2 => ∃ u d' a', y = .ref u ∧ G2 u = some (.tup [.int (m : Nat), .ref d', .ref pd]) ∧ G2 d' = some (.dK (kf ++ [(Sum.inr q.1, .ref a')])) ∧ G2 a' = some (.dT (((rowsL m q.2).zip r).map tK)) ∧ H1 u = none ∧ H1 d' = none ∧ H1 a' = none) (e1 _ _ hlg) (ev_var rfl) (fun H2 e2 Q q' => ?_) (by omega) fun y G2 e2 ⟨u, d', a', ey, hu, hd', ha', nu, nd', na'⟩ => ?_
    · have e12 := e1.trans e2
      obtain ⟨y1, y2, y3⟩ := zip_keys (hru.ext e12) hr
      refine ⟨_, rfl, _, rfl, t, _, 1, .ref fd, rfl, rfl, st_of (e12 _ _ ht), atI_nat (j := 1) rfl, _, rfl, _, rfl, _, rfl, rl, t2, rus, nums r, rfl, sq_of (e12 _ _ hrl), st_of (e12 _ _ ht2), .inr ⟨_, y1, y2, tab_nd hm4 hq5 y3, fun a' ha' => ?_⟩⟩
      have e3 : Ex H2 (upd H2 a' (.dT (((rowsL m q.2).zip r).map tK))) := Ex.new ha'
      refine ⟨fd, q.1, .ref a', kf, rfl, (e12.trans e3) _ _ hkf', nof, lkf, fun d' G3 hd' e4 h4 => ?_⟩
      have e34 := e3.trans e4
      refine ⟨_, rfl, t, _, 2, .ref pd, rfl, rfl, st_of ((e12.trans e34) _ _ ht), atI_nat (j := 2) rfl, by show 3 ≤ sizeLine; decide, fun u hu => ?_⟩
      have e5 : Ex G3 (upd G3 u (.tup [.int (m : Nat), .ref d', .ref pd])) := Ex.new hu
      exact q' (.ref u) _ (e34.trans e5) ⟨u, d', a', rfl, upd_same, e5 _ _ h4, (e4.trans e5) _ _ upd_same, fresh_back (e2.trans e34) hu, fresh_back (e2.trans e3) hd', fresh_back e2 ha'⟩
    · subst ey
      have e12 := e1.trans e2
      obtain ⟨u1, u2⟩ := up (y := .ref u) e12
      have nu' := nB e1 nu
      have nd'' := nB e1 nd'
      have na'' := nB e1 na'
      refine k (.ref u) _ o9 u1 upd_same ⟨⟨w.n, w.fs ++ [(q.1, (rowsL m q.2).zip r)], w.ps⟩, ⟨u, d', pd, rfl, put nu' tup_tbl (by rw [hw.n]; exact hu), ⟨_, put nd'' (fun _ z => nomatch z) hd', A2.append (A2.mono (fun kv f h => ⟨h.1, h.2.ext u2⟩) hA) ⟨⟨rfl, a', rfl, put na'' (fun _ z => nomatch z) ha'⟩, trivial⟩⟩, ⟨kp, u2 _ _ hkp, A2.mono (fun kv f h => ⟨h.1, h.2.ext u2⟩) hB⟩⟩, hw.fun_ hqd hqf (tg_of hm1 z3 fun x hx => hrx x.2 ?_)⟩
      exact (List.of_mem_zip (show (x.1, x.2) ∈ _ from hx)).2
  · have hqf := of_decide_eq_false hb
    refine q_asgLP (lcZ (ev_var (i := 6) rfl) (ev_var (i := 8) rfl) (e1 _ _ hrl) (hru.ext e1) (e1 _ _ ht2) hr (by omega) (fun _ _ => rfl) (fun _ _ => rfl) (fun _ _ => rfl)) fun fl xs H2 nfl e2 hfl ⟨rs, hrs, hrsl⟩ => ?_
    have e12 := e1.trans e2
    refine s_appP (P := fun y G2 => ∃ u d', y = .ref u ∧ G2 u = some (.tup [.int (m : Nat), .ref fd, .ref d']) ∧ G2 d' = some (.dK (kp ++ [(Sum.inr q.1, .ref fl)])) ∧ H1 u = none ∧ H1 d' = none) (e12 _ _ hlg) (ev_var rfl) (fun H3 e3 Q q' => ?_) (by omega) fun y G2 e3 ⟨u, d', ey, hu, hd', nu, nd'⟩ => ?_
    · have e13 := e12.trans e3
      refine ⟨_, rfl, _, rfl, t, _, 1, .ref fd, rfl, rfl, st_of (e13 _ _ ht), atI_nat (j := 1) rfl, _, rfl, t, _, 2, .ref pd, rfl, rfl, st_of (e13 _ _ ht), atI_nat (j := 2) rfl, _, rfl, _, rfl, pd, q.1, .ref fl, kp, rfl, e13 _ _ hkp', nop, lkp, fun d' G3 hd' e4 h4 => ⟨by show 3 ≤ sizeLine; decide, fun u hu => ?_⟩⟩
      have e5 : Ex G3 (upd G3 u (.tup [.int (m : Nat), .ref fd, .ref d'])) := Ex.new hu
      exact q' (.ref u) _ (e4.trans e5) ⟨u, d', rfl, upd_same, e5 _ _ h4, fresh_back ((e2.trans e3).trans e4) hu, fresh_back (e2.trans e3) hd'⟩
    · subst ey
      have e13 := e12.trans e3
      obtain ⟨u1, u2⟩ := up (y := .ref u) e13
      have nfl' := nB e1 nfl
      have txr : Tx G2 (Hx (BL B0 lg) (upd G2 lg (.lst (acc ++ [.ref u])))) := fun b ys hb => by
        refine hx_of ?_ tup_tbl ?_
        · rintro (h | rfl)
          · obtain ⟨o, ho⟩ := hB0 b h
            rw [e13 _ _ ho] at hb
            cases hb
          · rw [e13 _ _ hlg] at hb
            cases hb
        · rw [upd_ne (fun z => by rw [z, e13 _ _ hlg] at hb; cases hb)]
          exact hb
      refine k (.ref u) _ _ u1 upd_same ⟨⟨w.n, w.fs, w.ps ++ [(q.1, rs)]⟩, ⟨u, fd, d', rfl, put (nB e1 nu) tup_tbl (by rw [hw.n]; exact hu), ⟨kf, u2 _ _ hkf, A2.mono (fun kv f h => ⟨h.1, h.2.ext u2⟩) hA⟩, ⟨_, put (nB e1 nd') (fun _ z => nomatch z) hd', A2.append (A2.mono (fun kv f h => ⟨h.1, h.2.ext u2⟩) hB) ⟨⟨rfl, fl, xs, rfl, put nfl' lst_tbl (e3 _ _ hfl), OVs.tx txr (hasLs_all.mpr fun o ho => by obtain ⟨x, _, rfl⟩ := List.mem_map.mp ho; exact row_noL x) (nods_all.mpr fun o ho => by obtain ⟨x, _, rfl⟩ := List.mem_map.mp ho; exact row_nod x) (hrs.ext e3)⟩, trivial⟩⟩⟩, hw.prd hqd hqf⟩
end
section
variable {P : Program} {w : World} {K : PySem.W.Frag} {mg : Str → Option Value} {base : Heap}
theorem ok_worlds (T : T17 P w K mg base) : Ok P w K mg base CX0 "_law_c_worlds" ["_law_names", "_law_many"] 3 spWs := by
  obtain ⟨fR, dR, GR, bR, kR, mR⟩ := (ok_rows T).ex
  obtain ⟨fW, dW, GW, bW, kW, mW⟩ := (ok_with T).ex
  refine T.ok 27 rfl sc_ws (fun vs H Q E h => ?_) (fun kV doc pm an cdv ct us hl => match us, hl with | [_, _], _ => rfl) (fun f cdv A outer s H vs Q E hr h => ?_)
  · obtain ⟨nv, nm, m, B0, rfl, _⟩ := h
    rfl
  obtain ⟨nv, nm, m, B0, rfl, hnm, hm1, hm4, hok, hnv, hB0, k⟩ := h
  refine ⟨_, pss_cons (ps_set (i := 2) sc_ws.nd rfl (Or.inl rfl) (pe_lst (pa_cons (pe_tup (pa_cons (pv 1) (pa_cons pe_dnewK (pa_cons pe_dnewK pa_nil)))) pa_nil)))
    (pss_cons (ps_for PassesOwn.never rfl (pi_list (pe_op op_cat (pe_ix ix_tup (pv 0) pe_int (fun _ _ => rfl)) (pe_ix ix_tup (pv 0) pe_int (fun _ _ => rfl)))) (pg_tup rfl (pgs_cons (pg_name (i := 3) sc_ws.nd rfl (Or.inl rfl)) (pgs_cons (pg_name (i := 4) sc_ws.nd rfl (Or.inl rfl)) pgs_nil)))
      (pss_cons (ps_par (i := 5) (j := 6) rfl sc_ws.nd rfl rfl (by decide) rfl rfl (pa_cons (pe_lst pa_nil) (pa_cons (pe_call GR (hr.mono (by decide)) (by rfl) mR kR bR .nil pass0 (pa_cons (pv 1) (pa_cons (pv 4) pa_nil))) pa_nil)) (by rfl))
      (pss_cons (ps_for PassesOwn.never rfl (pi_list (pv 2)) (pg_name (i := 7) sc_ws.nd rfl (Or.inl rfl))
        (pss_one (ps_for PassesOwn.never rfl (pi_list (pe_call GR (hr.mono (by decide)) (by rfl) mR kR bR .nil pass0 (pa_cons (pe_ifExp (pt_cmpR (op_inD (u65 hr)) (pe_tup (pa_cons (pv 3) (pa_cons (pv 4) pa_nil))) (pe_ix ix_tup (pv 0) pe_int (fun _ _ => rfl)) (by rfl)) (pv 1) pe_int) (pa_cons (pe_callB call_len (by rfl) T.len PySem.boot_len (pa_cons (pv 6) pa_nil)) pa_nil)))) (pg_name (i := 8) sc_ws.nd rfl (Or.inl rfl))
          (pss_one (ps_if (pt_cmpR (op_inD (u65 hr)) (pe_tup (pa_cons (pv 3) (pa_cons (pv 4) pa_nil))) (pe_ix ix_tup (pv 0) pe_int (fun _ _ => rfl)) (by rfl))
            (pss_one (ps_expr (pe_bm PySem.F.plainAttrs_list PySem.F.slot_list_append PySem.F.type_list_append mt_append (pv 5) (pa_cons (pe_tup (pa_cons (pv 1) (pa_cons (pe_call GW (hr.mono (by decide)) (by rfl) mW kW bW .nil pass0 (pa_cons (pe_ix ix_tup (pv 7) pe_int (fun _ _ => rfl)) (pa_cons (pv 3) (pa_cons (pe_dictZip rfl (hu3_of hr) (by rfl) T.dict (by rfl) T.zip (pa_cons (pv 6) (pa_cons (pv 8) pa_nil))) pa_nil)))) (pa_cons (pe_ix ix_tup (pv 7) pe_int (fun _ _ => rfl)) pa_nil)))) pa_nil))))
            (pss_cons (ps_setLc (i := 9) (own := [("_law_row", 10), ("_law_one", 11)]) (g := gPair K 10 11) (tt := tTest (tOp rEq (tVar 11) (tC (.int 1)))) (te := tVar 10) (by rfl) sc_ws.nd rfl rfl (sw_true rfl rfl rfl (by decide +kernel)) (pi_zipM (by rfl) T.zip (pa_cons (pv 6) (pa_cons (pv 8) pa_nil))) (blkOk_by (N := nWs) (sc := defScope s__law_c_worlds) (by decide +kernel))
                (fun _ _ _ _ _ => pg_tup rfl (pgs_cons (pg_name (i := 10) sc_ws.nd rfl (Or.inl rfl)) (pgs_cons (pg_name (i := 11) sc_ws.nd rfl (Or.inl rfl)) pgs_nil))) (fun _ _ _ _ _ => pts_one (pt_cmpR op_eq (pv 11) pe_int (nomark _))) (fun _ _ _ _ _ => pv 10))
              (pss_one (ps_expr (pe_bm PySem.F.plainAttrs_list PySem.F.slot_list_append PySem.F.type_list_append mt_append (pv 5) (pa_cons (pe_tup (pa_cons (pv 1) (pa_cons (pe_ix ix_tup (pv 7) pe_int (fun _ _ => rfl)) (pa_cons (pe_call GW (hr.mono (by decide)) (by rfl) mW kW bW .nil pass0 (pa_cons (pe_ix ix_tup (pv 7) pe_int (fun _ _ => rfl)) (pa_cons (pv 3) (pa_cons (pv 9) pa_nil)))) pa_nil)))) pa_nil))))))))))
      (pss_one (ps_set (i := 2) sc_ws.nd rfl (Or.inl rfl) (pv 5))))))
    (pss_one (ps_ret (pv 2)))), ?_⟩
  have hok' := hok
  unfold okW at hok'
  rw [Bool.and_eq_true, List.all_eq_true, List.all_eq_true] at hok'
  obtain ⟨hsz, hpr⟩ := hok'
  have hsz2 : ∀ q ∈ nm.1 ++ nm.2, q.2 < 5 ∧ (rowsL m q.2).length < 5 := fun q hq => by
    have := hsz q hq
    rw [Bool.and_eq_true] at this
    exact ⟨of_decide_eq_true this.1, of_decide_eq_true this.2⟩
  have hpr2 : ∀ i ≤ (nm.1 ++ nm.2).length, pr m nm ((nm.1 ++ nm.2).take i) ≤ 64 := fun i hi => of_decide_eq_true (hpr i (List.mem_range.mpr (by omega)))
  obtain ⟨and1, and2, and3, and4⟩ := nn_all nm hnm
  have hnv0 := hnv.ext hx_ex
  have hnv1 := hnv0
  obtain ⟨t, zs, rfl, ht, x1, z1, rfl, ⟨fa, fu, rfl, hfa, hfu⟩, x2, z2, rfl, ⟨pa, pu, rfl, hpa, hpu⟩, hz⟩ := hnv0
  obtain rfl : z2 = [] := hz
  have hall : OVs H (fu ++ pu) ((nm.1 ++ nm.2).map prO) := by
    rw [List.map_append]
    exact OVs.append hfu hpu
  have hlen : (fu ++ pu).length = (nm.1 ++ nm.2).length := by rw [hall.length, List.length_map]
  refine q_asgLP (P := fun xs G => ∃ u d1 d2, xs = [.ref u] ∧ G u = some (.tup [.int (m : Nat), .ref d1, .ref d2]) ∧ G d1 = some (.dK []) ∧ G d2 = some (.dK []) ∧ H u = none ∧ H d1 = none ∧ H d2 = none) (fun H1 e Q q => ?_) fun cf us0 H1 hcf e1 h1 ⟨u, d1, d2, eu, hu, hd1, hd2, nu, nd1, nd2⟩ => ?_
  · refine ⟨_, rfl, fun d1 hd1 => fun d2 hd2 => ⟨by show 3 ≤ sizeLine; decide, fun u hu => ⟨by show 1 ≤ sizeLine; decide, fun c hc => ?_⟩⟩⟩
    have a1 : Ex H1 (upd H1 d1 (.dK [])) := Ex.new hd1
    have a2 : Ex (upd H1 d1 (.dK [])) (upd (upd H1 d1 (.dK [])) d2 (.dK [])) := Ex.new hd2
    have a3 : Ex (upd (upd H1 d1 (.dK [])) d2 (.dK [])) (upd (upd (upd H1 d1 (.dK [])) d2 (.dK [])) u (.tup [.int (m : Nat), .ref d1, .ref d2])) := Ex.new hu
    have a4 := Ex.new (o := .lst [.ref u]) hc
    have b2 := a1.trans a2
    have b3 := b2.trans a3
    exact q c _ _ (fresh_back b3 hc) (b3.trans a4) upd_same ⟨u, d1, d2, rfl, a4 _ _ upd_same, ((a2.trans a3).trans a4) _ _ upd_same, (a3.trans a4) _ _ upd_same, fresh_back e (fresh_back b2 hu), fresh_back e hd1, fresh_back e (fresh_back a1 hd2)⟩
  subst eu
  have nB : ∀ {G1 : Hp} {a : Addr}, Ex H G1 → G1 a = none → ¬ B0 a := fun e ha hb => by
    obtain ⟨o, ho⟩ := hB0 _ hb
    rw [e _ _ ho] at ha
    cases ha
  refine ⟨_, rfl, t, _, 0, .ref fa, rfl, rfl, st_of (e1 _ _ ht), atI_nat (j := 0) rfl, _, rfl, t, _, 1, .ref pa, rfl, rfl, st_of (e1 _ _ ht), atI_nat (j := 1) rfl, fa, pa, fu, pu, rfl, rfl, e1 _ _ hfa, e1 _ _ hpa, sz_of (by rw [← List.length_append]; omega), fun al hal => ⟨al, rfl, ⟨_, sq_of upd_same⟩, ?_⟩⟩
  have eal : Ex H1 (upd H1 al (.lst (fu ++ pu))) := Ex.new hal
  refine for_list (xs := fu ++ pu) (fun i σ' G => ∃ (cf : Addr) (us : List V) (o3 o4 o5 o6 o7 o8 o9 : Option V), σ' = [some (.ref t), some (.int (m : Nat)), some (.ref cf), o3, o4, o5, o6, o7, o8, o9, none, none] ∧ Ex H G ∧ G al = some (.lst (fu ++ pu)) ∧ H cf = none ∧ G cf = some (.lst us) ∧ us.length = pr m nm ((nm.1 ++ nm.2).take i) ∧ ∀ v ∈ us, ∃ w, WdV (Hx B0 G) v w ∧ WP nm m ((nm.1 ++ nm.2).take i) w) ?_ ?_ ?_ ?_
  · refine ⟨cf, [.ref u], none, none, none, none, none, none, none, rfl, e1.trans eal, upd_same, hcf, eal _ _ h1, rfl, fun v hv => ?_⟩
    rw [List.mem_singleton.mp hv]
    have g : Go B0 H1 (upd H1 al (.lst (fu ++ pu))) := Go.of eal
    refine ⟨⟨m, [], []⟩, ⟨u, d1, d2, rfl, hx_of (nB (Ex.refl _) nu) tup_tbl (eal _ _ hu), ⟨[], hx_of (nB (Ex.refl _) nd1) (fun _ z => nomatch z) (eal _ _ hd1), trivial⟩, ⟨[], hx_of (nB (Ex.refl _) nd2) (fun _ z => nomatch z) (eal _ _ hd2), trivial⟩⟩, ⟨rfl, (fun q hq => nomatch hq), (fun q hq => nomatch hq), (fun q hq => nomatch hq), (fun q hq => nomatch hq), Nat.le_refl _, Nat.le_refl _⟩⟩
  · rintro i σ' G hi ⟨_, _, _, _, _, _, _, _, _, _, _, h, _⟩
    exact sq_of h
  · rintro i x σ' G hx ⟨cf, us, o3, o4, o5, o6, o7, o8, o9, rfl, eG, haG, hcfH, hcfG, hul, hws⟩
    obtain ⟨o, ho, hov⟩ := hall.get hx
    rw [List.getElem?_map] at ho
    obtain ⟨q, hq, rfl⟩ := Option.map_eq_some_iff.mp ho
    have hqm := List.mem_of_getElem? hq
    have hil := (List.getElem?_eq_some_iff.mp hq).1
    obtain ⟨qt, rfl, hqt⟩ := pr_at hov
    obtain ⟨hq5, hL5⟩ := hsz2 q hqm
    refine ⟨qt, _, rfl, st_of (eG _ _ hqt), rfl, _, _, rfl, _, _, rfl, rfl, ?_⟩
    refine ⟨by show 0 ≤ sizeLine; decide, fun lg hlg0 => ⟨_, rfl, _, rfl, m, q.2, rfl, hm1, hm4, hq5, fun rl rus H2 hrl0 e2 hrl hru => ⟨_, _, rfl, ?_⟩⟩⟩
    have elg : Ex G (upd G lg (.lst [])) := Ex.new hlg0
    have eG2 := elg.trans e2
    have hlg2 : H2 lg = some (.lst []) := e2 _ _ upd_same
    have hlgH : H lg = none := fresh_back eG hlg0
    have hrll : rl ≠ lg := fun z => by rw [z, upd_same] at hrl0; cases hrl0
    have hcl : cf ≠ lg := ne_of_none hcfG hlg0
    have hal2 : al ≠ lg := ne_of_none haG hlg0
    have keyq : q.1 ∉ ((nm.1 ++ nm.2).take i).map (·.1) := by
      have h6 : ((nm.1 ++ nm.2).take (i + 1)).map (·.1) = ((nm.1 ++ nm.2).map (·.1)).take (i + 1) := List.map_take
      have h7 : (((nm.1 ++ nm.2).take (i + 1)).map (·.1)).Nodup := by rw [h6]; exact and1.sublist (List.take_sublist _ _)
      rw [take_snoc hq, List.map_append] at h7
      exact fun z => (List.nodup_append.mp h7).2.2 _ z q.1 (by simp) rfl
    have hdone : ((nm.1 ++ nm.2).take i).length ≤ 10 := by
      have : ((nm.1 ++ nm.2).take i).length ≤ (nm.1 ++ nm.2).length := List.length_take_le' i _
      omega
    have hpri : pr m nm ((nm.1 ++ nm.2).take (i + 1)) = us.length * wide m nm q := by
      rw [take_snoc hq]
      unfold pr at hul ⊢
      rw [List.foldl_append, ← hul]
      rfl
    have hprb := hpr2 (i + 1) (by omega)
    rw [hpri] at hprb
    -- old things stay
    have old : ∀ {G' : Hp}, (∀ b o, b ≠ lg → H2 b = some o → G' b = some o) → (∀ b o, G b = some o → G' b = some o) := fun bt b o hb => bt b o (ne_of_none hb hlg0) (eG2 _ _ hb)
    have exw : ∀ {G' : Hp}, (∀ b o, b ≠ lg → H2 b = some o → G' b = some o) → Ex (Hx B0 G) (Hx (BL B0 lg) G') := fun bt b o h => by
      obtain ⟨a1, a2, a3⟩ := hx_to h
      refine hx_of (fun z => ?_) a2 (old bt b o a3)
      rcases z with z | z
      · exact a1 z
      · rw [z, hlg0] at a3; cases a3
    refine q_forL (xs := us) (ev_var rfl) (sq_of (eG2 _ _ hcfG)) (fun a σ' G' => ∃ (acc : List V) (o7 o8 o9 : Option V), σ' = [some (.ref t), some (.int (m : Nat)), some (.ref cf), some (.str q.1), some (.int (q.2 : Nat)), some (.ref lg), some (.ref rl), o7, o8, o9, none, none] ∧ (∀ b o, b ≠ lg → H2 b = some o → G' b = some o) ∧ G' lg = some (.lst acc) ∧ acc.length = a * wide m nm q ∧ ∀ v ∈ acc, ∃ w, WdV (Hx (BL B0 lg) G') v w ∧ WP nm m ((nm.1 ++ nm.2).take (i + 1)) w) ?_ ?_ ?_ ?_
    · intro H3 e3
      exact ⟨[], _, _, _, rfl, fun b o _ h => e3 _ _ h, e3 _ _ hlg2, by simp, fun v hv => nomatch hv⟩
    · rintro a σ' G' ha ⟨acc, _, _, _, _, bt, _⟩
      exact sq_of (bt _ _ hcl (eG2 _ _ hcfG))
    · rintro a x σ' G' hxa ⟨acc, o7, o8, o9, rfl, bt, hlgG, hal', hwacc⟩
      obtain ⟨w0, hw0, hwp0⟩ := hws x (List.mem_of_getElem? hxa)
      have hau := (List.getElem?_eq_some_iff.mp hxa).1
      have exH : Ex H G' := fun b o h => old bt b o (eG _ _ h)
      have txG : Tx H2 G' := fun b ys h => bt b _ (ne_of h hlg2 (by intro z; cases z)) h
      have rowsP : ∀ os : List (List Nat), O.hasLs (os.map rowO) = false ∧ O.nods (os.map rowO) = true := fun os => ⟨hasLs_all.mpr fun o ho => by obtain ⟨x, _, rfl⟩ := List.mem_map.mp ho; exact row_noL x, nods_all.mpr fun o ho => by obtain ⟨x, _, rfl⟩ := List.mem_map.mp ho; exact row_nod x⟩
      have hru' : OVs G' rus ((rowsL m q.2).map rowO) := OVs.tx txG (rowsP _).1 (rowsP _).2 hru
      have hrl' : G' rl = some (.lst rus) := bt _ _ hrll hrl
      have hrn : rus.length = (rowsL m q.2).length := by rw [hru.length, List.length_map]
      have hn2 : 1 ≤ (if q ∈ nm.1 then m else 2) ∧ (if q ∈ nm.1 then m else 2) < 4 := by
        by_cases c : q ∈ nm.1
        · rw [if_pos c]; exact ⟨hm1, hm4⟩
        · rw [if_neg c]; exact ⟨by decide, by decide⟩
      refine (elp_rows2 (n2 := if q ∈ nm.1 then m else 2) (L := (rowsL m q.2).length) (ev_if (b := decide (q ∈ nm.1)) (et_inF rfl rfl rfl hnm (hnv1.ext exH) hqm) (fun hb => ev_is (ev_var rfl) (by rw [if_pos (of_decide_eq_true hb)])) (fun hb => ev_is ev_c (by rw [if_neg (of_decide_eq_false hb)]; rfl))) (ev_is (ev_lenL (ev_var rfl) (sq_of hrl')) (by rw [hrn])) hn2.1 hn2.2 hL5) G' (Ex.refl _) _ fun sl sus G3 hsl e3 h3 hsr => ⟨sl, rfl, ⟨_, sq_of h3⟩, ?_⟩
      have hsl3 : sl ≠ lg := (ne_of_none hlgG hsl).symm
      have hsn : sus.length = wide m nm q := by rw [hsr.length, List.length_map]; rfl
      refine for_list (xs := sus) (fun b σ' G4 => ∃ (acc : List V) (o8 o9 : Option V), σ' = [some (.ref t), some (.int (m : Nat)), some (.ref cf), some (.str q.1), some (.int (q.2 : Nat)), some (.ref lg), some (.ref rl), some x, o8, o9, none, none] ∧ (∀ b o, b ≠ lg → G3 b = some o → G4 b = some o) ∧ G4 lg = some (.lst acc) ∧ acc.length = a * wide m nm q + b ∧ ∀ v ∈ acc, ∃ w, WdV (Hx (BL B0 lg) G4) v w ∧ WP nm m ((nm.1 ++ nm.2).take (i + 1)) w) ?_ ?_ ?_ ?_
      · exact ⟨acc, o8, o9, rfl, fun _ _ _ h => h, e3 _ _ hlgG, by omega, fun v hv => by
          obtain ⟨w, a1, a2⟩ := hwacc v hv
          exact ⟨w, a1.ext (Go.of e3 : Go (BL B0 lg) G' G3).ex, a2⟩⟩
      · rintro b σ' G4 hb ⟨_, _, _, _, bt4, _⟩
        exact sq_of (bt4 _ _ hsl3 h3)
      · rintro b y σ' G4 hyb ⟨acc, o8, o9, rfl, bt4, hlg4, hal4, hw4⟩
        have hbl := (List.getElem?_eq_some_iff.mp hyb).1
        obtain ⟨o, ho, hyo⟩ := hsr.get hyb
        rw [List.getElem?_map] at ho
        obtain ⟨r, hr, rfl⟩ := Option.map_eq_some_iff.mp ho
        obtain ⟨t2, rfl, ht2⟩ := row_at hyo
        obtain ⟨hr1, hr2⟩ := rowsL_ok _ hn2.2 _ hL5 r (List.mem_of_getElem? hr)
        have bt24 : ∀ b o, b ≠ lg → H2 b = some o → G4 b = some o := fun b o nb h => bt4 _ _ nb (e3 _ _ (bt _ _ nb h))
        have tx4 : Tx G3 G4 := fun b ys h => bt4 b _ (ne_of h (e3 _ _ hlgG) (by intro z; cases z)) h
        have hb1 : a * wide m nm q + b < 64 := by
          have h8 : (a + 1) * wide m nm q ≤ us.length * wide m nm q := Nat.mul_le_mul_right _ hau
          rw [Nat.add_mul, Nat.one_mul] at h8
          omega
        refine st_world (B0 := B0) hnm (hnv1.ext fun b o h => bt24 _ _ (ne_of_none h hlgH) (eG2 _ _ (eG _ _ h))) hqm (fun b hb => by
          obtain ⟨o, ho⟩ := hB0 b hb
          exact ⟨o, bt24 _ _ (ne_of_none ho hlgH) (eG2 _ _ (eG _ _ ho))⟩) hlg4 (hw0.ext (exw bt24)) hwp0 keyq hdone (bt24 _ _ hrll hrl) (OVs.tx tx4 (rowsP _).1 (rowsP _).2 (hru'.ext e3)) (tx4 _ _ ht2) hr1 hr2 hm1 hm4 hq5 (by omega) fun y G1 o9' bt1 hlg1 hwn => ?_
        refine ⟨acc ++ [y], _, o9', rfl, fun c o nc h => bt1 _ _ nc (bt4 _ _ nc h), hlg1, by rw [List.length_append, hal4]; rfl, fun v hv => ?_⟩
        rcases List.mem_append.mp hv with hv | hv
        · obtain ⟨w, a1, a2⟩ := hw4 v hv
          exact ⟨w, a1.ext (show Go (BL B0 lg) G4 G1 from fun c o nc _ h => bt1 c o (fun z => nc (.inr z)) h).ex, a2⟩
        · rw [List.mem_singleton.mp hv, take_snoc hq]
          exact hwn
      · rintro σ' G4 ⟨acc, o8, o9, rfl, bt4, hlg4, hal4, hw4⟩
        refine ⟨acc, _, _, _, rfl, fun b o nb h => bt4 _ _ nb (e3 _ _ (bt _ _ nb h)), hlg4, ?_, hw4⟩
        rw [hal4, hsn, Nat.add_mul, Nat.one_mul]
    · rintro σ' G' ⟨acc, o7, o8, o9, rfl, bt, hlgG, hal', hwacc⟩
      refine s_asg (v := .ref lg) (ev_var rfl) fun H5 e5 => ?_
      refine ⟨lg, acc, _, _, _, _, _, _, _, rfl, fun b o h => e5 _ _ (old bt b o (eG _ _ h)), e5 _ _ (bt _ _ hal2 (eG2 _ _ haG)), hlgH, e5 _ _ hlgG, by rw [hpri]; exact hal', fun v hv => ?_⟩
      obtain ⟨w, a1, a2⟩ := hwacc v hv
      exact ⟨w, (a1.ext (hx_mono fun b h => Or.inl h)).ext (Go.of e5 : Go B0 G' H5).ex, a2⟩
  · rintro σ' G ⟨cf, us, o3, o4, o5, o6, o7, o8, o9, rfl, eG, haG, hcfH, hcfG, hul, hws⟩
    rw [hlen, List.take_length] at hul hws
    refine s_ret (ev_var (i := 2) rfl) fun H5 e5 => k cf us H5 hcfH (eG.trans e5) (e5 _ _ hcfG) ?_ fun v hv => ?_
    · rw [hul]
      have := hpr2 _ (Nat.le_refl _)
      rw [List.take_length] at this
      exact this
    · obtain ⟨w, a1, a2⟩ := hws v hv
      refine ⟨w, a1.ext (Go.of e5 : Go B0 G H5).ex, ⟨by rw [a2.n]; exact hm1, by rw [a2.n]; exact hm4, fun q hq => ?_, fun q hq => a2.p q (List.mem_append_right _ hq) (and3 q hq)⟩⟩
      rw [a2.n]
      exact a2.f q (List.mem_append_left _ hq) hq
end
end K17

set_option Elab.async false
set_option linter.all false
set_option maxRecDepth 100000
set_option maxHeartbeats 4000000
/-! _law_c_some_worlds. -/
namespace K17
open PySem PySem.Spec PyProof.Rows L2 Evl
/-- worlds that may be asked -/
def WsV (H : Hp) (p q : Addr) (nm : Nms) (us : List V) : Prop := ∀ v ∈ us, ∃ w, WdV (Hx (PQ p q) H) v w ∧ WOK nm w
theorem WsV.ext {H G : Hp} {p q : Addr} {nm : Nms} {us : List V} (h : WsV H p q nm us) (e : Ex (Hx (PQ p q) H) (Hx (PQ p q) G)) : WsV G p q nm us := fun v hv => by
  obtain ⟨w, a, b⟩ := h v hv
  exact ⟨w, a.ext e, b⟩
theorem WsV.ex {H G : Hp} {p q : Addr} {nm : Nms} {us : List V} (h : WsV H p q nm us) (e : Ex H G) : WsV G p q nm us := h.ext (Go.of e : Go (PQ p q) H G).ex
theorem WsV.but {H G : Hp} {p q : Addr} {nm : Nms} {us : List V} (h : WsV H p q nm us) (B : But p q H G) : WsV G p q nm us := h.ext (go_pq B).ex
section
variable {K : PySem.W.Frag} {H G : Hp} {σ : L2.St} {te ta tb tl : TE} {tt : TT} {v : V} {vs : List Nat}
theorem ev_lenNL {xs : List V} (h : EvL te σ H xs) : Ev (tLen K te) σ H (.int (xs.length : Nat)) := fun H1 e Q q =>
  h H1 e _ fun p H2 hp e2 h2 => ⟨_, xs.length, rfl, .inl ⟨xs, sq_of h2, rfl⟩, q H2 e2⟩
theorem el_cat2 {a b : Addr} {xs ys : List V} (h1 : Ev ta σ H (.ref a)) (h2 : Ev tb σ H (.ref b)) (ha : H a = some (.lst xs)) (hb : H b = some (.lst ys)) (hl : xs.length + ys.length ≤ 1000) : EvL (tOp rCat ta tb) σ H (xs ++ ys) := fun H1 e Q q =>
  h1 H1 e _ fun H2 e2 => h2 H2 (e.trans e2) _ fun H3 e3 => ⟨a, b, xs, ys, rfl, rfl, ((e.trans e2).trans e3) _ _ ha, ((e.trans e2).trans e3) _ _ hb, sz_of (by omega), fun p hp => q p _ (fresh_back (e2.trans e3) hp) ((e2.trans e3).trans (Ex.new hp)) upd_same⟩
theorem elp_if {P : List V → Hp → Prop} {b : Bool} (h : EvT tt σ H b) (h1 : b = true → EvLP ta σ H P) (h2 : b = false → EvLP tb σ H P) : EvLP (tIf tt ta tb) σ H P := fun H1 e Q q =>
  h H1 e _ fun H2 e2 => by
    cases b with
    | true => exact h1 rfl H2 (e.trans e2) _ fun p xs H3 hp e3 h3 hP => q p xs H3 (fresh_back e2 hp) (e2.trans e3) h3 hP
    | false => exact h2 rfl H2 (e.trans e2) _ fun p xs H3 hp e3 h3 hP => q p xs H3 (fresh_back e2 hp) (e2.trans e3) h3 hP
end
section
variable {K : PySem.W.Frag} {H : Hp} {σ : L2.St} {ta tb : TE}
theorem q_asgIf {D : Ends} {tz : TS} {i : Nat} {tt : TT} {b : Bool} (h : EvT tt σ H b) (h1 : b = true → ∀ G, Ex H G → ta σ G (fun x G2 => tz D (σ.set i (some x)) G2)) (h2 : b = false → ∀ G, Ex H G → tb σ G (fun x G2 => tz D (σ.set i (some x)) G2)) : tSeq (tAsg (tIf tt ta tb) (gName i)) tz D σ H :=
  h H (Ex.refl _) _ fun G e => by
    cases b with
    | true => exact h1 rfl G e
    | false => exact h2 rfl G e
theorem elp_worlds {p q : Addr} {n : Int} {nv : V} {nm : Nms} {m : Nat} (S : Spr H p q n) (hnm : NmV H p q nv nm) (hm : 1 ≤ m) (hm4 : m < 4) (hok : okW m nm = true) (h1 : Ev ta σ H nv) (h2 : Ev tb σ H (.int (m : Nat))) : EvLP (tCall spWs [] E0 (tCons ta (tCons tb tNil))) σ H (fun us G => us.length ≤ 64 ∧ WsV G p q nm us) := fun H1 e Q k =>
  h1 H1 e _ fun H2 e2 => h2 H2 (e.trans e2) _ fun H3 e3 => by
    have e13 := (e.trans e2).trans e3
    obtain ⟨sx, sy, s1, s2⟩ := (S.ext e13).lst
    have hB : ∀ b, PQ p q b → ∃ o, H3 b = some (.lst o) := by
      rintro b (rfl | rfl)
      · exact ⟨_, s1⟩
      · exact ⟨_, s2⟩
    exact ⟨nv, nm, m, PQ p q, rfl, hnm.mem, hm, hm4, hok, (hnm.go (But.of e13)).ov, hB, fun c us G hc eG hG hl hw => k c us G (fresh_back (e2.trans e3) hc) ((e2.trans e3).trans eG) hG ⟨hl, hw⟩⟩
/-- [_law_c_world(stream, names, 2 + k) for k in (0, 0, 1)] -/
theorem lc_world3 {p q : Addr} {n : Int} {nv : V} {nm : Nms} {Q : VK} (S : Spr H p q n) (hn : n < 55000) (hnm : NmV H p q nv nm)
    (hw : ∀ x, wipe ((wipe σ [5]).set 5 (some x)) [5] = wipe σ [5]) (h0 : ∀ x, ((wipe σ [5]).set 5 (some x))[0]? = some (some (.ref p))) (h1 : ∀ x, ((wipe σ [5]).set 5 (some x))[1]? = some (some nv)) (h5 : ∀ x, ((wipe σ [5]).set 5 (some x))[5]? = some (some x))
    (kk : ∀ c us n' G, H c = none → G c = some (.lst us) → us.length = 3 → WsV G p q nm us → Spr G p q n' → n' ≤ n + 1500 → But p q H G → Q (.ref c) G) :
    tLc (iTup K (tTup (tCons (tC (.int 0)) (tCons (tC (.int 0)) (tCons (tC (.int 1)) tNil))))) (gName 5) tYes (tCall spWl [] E0 (tCons (tVar 0) (tCons (tVar 1) (tCons (tOp (rI0 fun i j => .int (i + j)) (tC (.int 2)) (tVar 5)) tNil)))) [5] σ H Q :=
  ⟨by show 3 ≤ sizeLine; decide, fun tt htt => ⟨tt, rfl, ⟨_, st_of upd_same⟩, fun Dl hD => by
    have e1 : Ex H (upd H tt (.tup [.int 0, .int 0, .int 1])) := Ex.new htt
    have hD0 : H Dl = none := fresh_back e1 hD
    have hDn := S.nep hD0
    have e2 : Ex (upd H tt (.tup [.int 0, .int 0, .int 1])) (upd (upd H tt (.tup [.int 0, .int 0, .int 1])) Dl (.lst [])) := Ex.new hD
    refine lc_tup (xs := [.int 0, .int 0, .int 1]) (fun i G => But p q (upd H tt (.tup [.int 0, .int 0, .int 1])) G ∧ ∃ (acc : List V) (n' : Int), G Dl = some (.lst acc) ∧ acc.length = i ∧ (∀ v ∈ acc, ∃ w, WdV (Hx (fun b => PQ p q b ∨ b = Dl) G) v w ∧ WOK nm w) ∧ Spr G p q n' ∧ n' ≤ n + 500 * (i : Int)) ⟨But.of e2, [], n, upd_same, rfl, (fun v hv => nomatch hv), (S.ext e1).ext e2, by omega⟩ (fun i G hi ⟨B, _⟩ => st_of ((S.ext e1).tx B _ _ upd_same)) (fun i x G hx ⟨B, acc, n', hacc, hal, hws, S', hn'⟩ => ?_) (fun G ⟨B, acc, n', hacc, hal, hws, S', hn'⟩ => ?_)
    · refine ⟨hw _, ?_⟩
      unfold tYes
      dsimp only
      rw [if_pos rfl]
      have hi := (List.getElem?_eq_some_iff.mp hx).1
      have hi : i < 3 := hi
      obtain ⟨j, rfl, hj⟩ : ∃ j : Nat, x = .int (j : Nat) ∧ j ≤ 1 := by
        match i, hi, hx with
        | 0, _, hx => exact ⟨0, (Option.some.inj hx).symm, by decide⟩
        | 1, _, hx => exact ⟨0, (Option.some.inj hx).symm, by decide⟩
        | 2, _, hx => exact ⟨1, (Option.some.inj hx).symm, by decide⟩
      have hnG := hnm.go ((But.of e1).trans B)
      refine ⟨_, h0 _, _, h1 _, _, h5 _, _, _, rfl, rfl, p, q, nv, n', nm, 2 + j, ?_, S', by omega, hnG, by omega, by omega, fun v w n2 G5 hok hwd S2 hn2 B2 => ?_⟩
      · show [V.ref p, nv, V.int (2 + (j : Nat))] = [V.ref p, nv, V.int ((2 + j : Nat) : Int)]
        rw [Int.natCast_add]
        rfl
      · have hD2 : G5 Dl = some (.lst acc) := B2 _ _ hDn.1 hDn.2 hacc
        obtain ⟨sx, sy, s1, s2⟩ := S'.lst
        have go1 : Go (fun b => PQ p q b ∨ b = Dl) G (upd G5 Dl (.lst (acc ++ [v]))) := (Go.but B2 (.inl (.inl rfl)) (.inl (.inr rfl))).trans (Go.upd (.inr rfl))
        have go2 : Go (fun b => PQ p q b ∨ b = Dl) G5 (upd G5 Dl (.lst (acc ++ [v]))) := Go.upd (.inr rfl)
        refine ⟨acc, hD2, sz_lt (by omega), ?_, acc ++ [v], n2, upd_same, by simp; omega, fun u hu => ?_, S2.keep (fun o h => by rw [upd_ne hDn.1.symm]; exact h) (fun o h => by rw [upd_ne hDn.2.symm]; exact h), by omega⟩
        · intro c o nb1 nb2 hc
          have := B2 _ _ nb1 nb2 (B _ _ nb1 nb2 hc)
          rw [upd_ne (ne_of_none hc hD)]
          exact this
        · rcases List.mem_append.mp hu with hu | hu
          · obtain ⟨w', a, b⟩ := hws u hu
            exact ⟨w', a.ext go1.ex, b⟩
          · rw [List.mem_singleton.mp hu]
            refine ⟨w, (hwd.ext (hx_mono ?_)).ext go2.ex, hok⟩
            rintro b ((rfl | rfl) | rfl)
            · exact ⟨_, s1⟩
            · exact ⟨_, s2⟩
            · exact ⟨_, hacc⟩
    · refine kk Dl acc n' G hD0 hacc hal (fun u hu => ?_) S' ?_ ((But.of e1).trans B)
      · obtain ⟨w', a, b⟩ := hws u hu
        exact ⟨w', a.ext (hx_mono fun b h => Or.inl h), b⟩
      · have : (([.int 0, .int 0, .int 1] : List V).length : Int) = 3 := rfl
        omega⟩⟩
end
abbrev nSw : List Str := ["_law_stream", "_law_names", "_law_widest", "_law_two", "_law_found", "_law_k", "_law_world"]
theorem sc_sw : FnScope nSw ["_law_stream", "_law_names", "_law_widest"] (defScope s__law_c_some_worlds) := ⟨rfl, rfl, rfl, by decide +kernel, rfl, by decide +kernel, by decide +kernel⟩
def spSW : Sp := fun vs H Q _ => ∃ (p q : Addr) (nv : V) (n : Int) (nm : Nms), vs = [.ref p, nv, .int 3] ∧ Spr H p q n ∧ n < 50000 ∧ NmV H p q nv nm ∧
  ∀ (c : Addr) (us : List V) (n' : Int) (G : Hp), H c = none → G c = some (.lst us) → us.length ≤ 200 → WsV G p q nm us → Spr G p q n' → n' ≤ n + 2000 → But p q H G → Q (.ref c) G
section
variable {P : Program} {w : World} {K : PySem.W.Frag} {mg : Str → Option Value} {base : Heap}
theorem ok_someW (T : T17 P w K mg base) : Ok P w K mg base CX0 "_law_c_some_worlds" ["_law_stream", "_law_names", "_law_widest"] 4 spSW := by
  obtain ⟨fW, dW, GW, bW, kW, mW⟩ := (ok_worlds T).ex
  obtain ⟨fO, dO, GO, bO, kO, mO⟩ := (ok_world T).ex
  obtain ⟨fM, dM, GM, bM, kM, mM⟩ := (ok_mixed T).ex
  refine T.ok 28 rfl sc_sw (fun vs H Q E h => ?_) (fun kV doc pm an cdv ct us hl => match us, hl with | [_, _, _], _ => rfl) (fun f cdv A outer s H vs Q E hr h => ?_)
  · obtain ⟨p, q, nv, n, nm, rfl, _⟩ := h
    rfl
  obtain ⟨p, q, nv, n, nm, rfl, S, hn, hnm, k⟩ := h
  refine ⟨_, pss_cons (ps_set (i := 3) sc_sw.nd rfl (Or.inl rfl) (pe_ifExp (PW.pt (pw_and (pt_cmpR op_lt (pe_callB call_len (by rfl) T.len PySem.boot_len (pa_cons (pe_op op_cat (pe_ix ix_tup (pv 1) pe_int (fun _ _ => rfl)) (pe_ix ix_tup (pv 1) pe_int (fun _ _ => rfl))) pa_nil)) pe_int (nomark _)) (pw_and1 (pt_cmpR (op_notInD (u65 hr)) (pe_tup (pa_cons pe_str (pa_cons pe_int pa_nil))) (pe_ix ix_tup (pv 1) pe_int (fun _ _ => rfl)) (by rfl)))))
        (pe_call GW (hr.mono (by decide)) (by rfl) mW kW bW .nil pass0 (pa_cons (pv 1) (pa_cons pe_int pa_nil))) (pe_lst pa_nil)))
    (pss_cons (ps_set (i := 3) sc_sw.nd rfl (Or.inl rfl) (pe_ifExp (pt_cmpR op_gt (pe_callB call_len (by rfl) T.len PySem.boot_len (pa_cons (pv 3) pa_nil)) pe_int (nomark _)) (pe_slice sl_list (pe_call GM (hr.mono (by decide)) (by rfl) mM kM bM .nil pass0 (pa_cons (pv 0) (pa_cons (pv 3) pa_nil))) po_none (po_some pe_int)) (pv 3)))
    (pss_cons (ps_set (i := 4) sc_sw.nd rfl (Or.inl rfl) (pe_op op_cat (pe_op op_cat (pe_call GW (hr.mono (by decide)) (by rfl) mW kW bW .nil pass0 (pa_cons (pv 1) (pa_cons pe_int pa_nil))) (pv 3))
        (pe_lc (own := [("_law_k", 5)]) (g := gName 5) (tt := tYes) (te := tCall spWl [] E0 (tCons (tVar 0) (tCons (tVar 1) (tCons (tOp (rI0 fun i j => .int (i + j)) (tC (.int 2)) (tVar 5)) tNil)))) rfl sc_sw.nd (pi_tup (pe_tup (pa_cons pe_int (pa_cons pe_int (pa_cons pe_int pa_nil))))) (blkOk_by (N := nSw) (sc := defScope s__law_c_some_worlds) (by decide +kernel))
          (fun _ _ _ _ _ => pg_name (i := 5) sc_sw.nd rfl (Or.inl rfl)) (fun _ _ _ _ _ => pts_nil) (fun _ _ _ _ _ => pe_call GO (hr.mono (by decide)) (by rfl) mO kO bO .nil pass0 (pa_cons (pv 0) (pa_cons (pv 1) (pa_cons (pe_op op_add pe_int (pv 5)) pa_nil)))))))
    (pss_one (ps_ret (pe_lc (own := [("_law_world", 6)]) (g := gName 6) (tt := tTest (tOp (rI0 fun i j => V.bl (decide (i ≤ j))) (tVar 2) (tOp (rIxT K) (tTup (tCons (tC (.int 99)) (tCons (tC (.int 99)) (tCons (tC (.int 6)) (tCons (tC (.int 5)) tNil))))) (tOp (rIxT K) (tVar 6) (tC (.int 0)))))) (te := tVar 6) rfl sc_sw.nd (pi_list (pv 4)) (blkOk_by (N := nSw) (sc := defScope s__law_c_some_worlds) (by decide +kernel))
          (fun _ _ _ _ _ => pg_name (i := 6) sc_sw.nd rfl (Or.inl rfl)) (fun _ _ _ _ _ => pts_one (pt_cmpR op_le (pv 2) (pe_ix ix_tup (pe_tup (pa_cons pe_int (pa_cons pe_int (pa_cons pe_int (pa_cons pe_int pa_nil))))) (pe_ix ix_tup (pv 6) pe_int (fun _ _ => rfl)) (fun _ _ => rfl)) (nomark _))) (fun _ _ _ _ _ => pv 6)))))), ?_⟩
  obtain ⟨t, fa, pa, fu, pu, rfl, ht, t1, t2, hfa, f1, f2, hfu, hpa, p1, p2, hpu, hpx, hfx⟩ := hnm.at_
  obtain ⟨and1, and2, and3, and4⟩ := nn_all nm hnm.mem
  have l1 : fu.length = nm.1.length := by rw [hfu.length, List.length_map]
  have l2 : pu.length = nm.2.length := by rw [hpu.length, List.length_map]
  rw [List.length_append] at and2
  refine q_asgLP (P := fun us G => us.length ≤ 64 ∧ WsV G p q nm us) (elp_if (b := decide ((nm.1 ++ nm.2).length < 4) && !decide ((("r", 2) : Str × Nat) ∈ nm.2)) (et_and (et_is (et_test (ev_op (ev_lenNL (el_cat2 (ev_op (z := .ref fa) (ev_var (i := 1) rfl) ev_c (rv_ixT (st_of ht) (atI_nat (j := 0) rfl))) (ev_op (z := .ref pa) (ev_var (i := 1) rfl) ev_c (rv_ixT (st_of ht) (atI_nat (j := 1) rfl))) hfa hpa (by omega))) ev_c fun H1 e Q q => ⟨_, _, rfl, rfl, q H1 (Ex.refl _)⟩)) ?_) fun _ => et_is (a := !(nm.2.map prO).any fun o => o.eqv (prO ("r", 2))) (et_test (ev_opO (a := prO ("r", 2)) (b := prsO nm.2) (eo_tup (eao_cons eo_str (eao_cons eo_int eao_nil)) (by show 2 ≤ 1000; decide)) (eo_of (ev_op (z := .ref pa) (ev_var (i := 1) rfl) ev_c (rv_ixT (st_of ht) (atI_nat (j := 1) rfl))) ⟨pa, pu, rfl, hpa, hpu⟩) fun u w' G eG hu hw' => ?_)) ?_) (fun hb => ?_) fun _ => ?_) fun c3 us3 H1 hc3 e1 h1 hP => ?_
  · refine decide_eq_decide.mpr ?_
    rw [List.length_append, List.length_append]
    omega
  · obtain ⟨a2, us2, rfl, ha2, hov2⟩ := hw'
    refine rv_niO hu ha2 hov2 (by decide +kernel) (eds_all.mpr fun o ho => ?_) (show 1 ≤ 60 by decide) (Nat.le_trans (dps_all.mpr fun o ho => ?_) (show 1 ≤ 50 by decide))
    · obtain ⟨r, hr, rfl⟩ := List.mem_map.mp ho
      show (SS.contains r.1 && (true && true)) = true
      rw [and4 r (List.mem_append_right _ hr)]
      rfl
    · obtain ⟨r, hr, rfl⟩ := List.mem_map.mp ho
      exact Nat.le_refl 1
  · rw [any_map pr_eqv]
    exact congrArg _ (decide_eq_decide.mpr Iff.rfl)
  · rw [Bool.and_eq_true] at hb
    refine elp_worlds (m := 2) S hnm (by decide) (by decide) (nn_two nm hnm.mem (of_decide_eq_true hb.1) fun z => ?_) (ev_var rfl) ev_c
    rw [decide_eq_true z] at hb
    exact absurd hb.2 (by decide)
  · exact (EvLP.of (el_lst ea_nil (by show 0 ≤ 100000; decide))).imp fun xs G eG h => by subst h; exact ⟨Nat.zero_le _, fun v hv => nomatch hv⟩
  obtain ⟨hl3, hw3⟩ := hP
  have goB : ∀ (c3' : Addr) (us3' : List V) (G : Hp) (n1 : Int), H c3' = none → G c3' = some (.lst us3') → us3'.length ≤ 64 → WsV G p q nm us3' → Spr G p q n1 → n1 ≤ n + 64 → But p q H G →
      tSeq (tAsg (tOp rCat (tOp rCat (tCall spWs [] E0 (tCons (tVar 1) (tCons (tC (.int 1)) tNil))) (tVar 3)) (tLc (iTup K (tTup (tCons (tC (.int 0)) (tCons (tC (.int 0)) (tCons (tC (.int 1)) tNil))))) (gName 5) tYes (tCall spWl [] E0 (tCons (tVar 0) (tCons (tVar 1) (tCons (tOp (rI0 fun i j => .int (i + j)) (tC (.int 2)) (tVar 5)) tNil)))) [5])) (gName 4))
        (tRet (tLc (iList K (tVar 4)) (gName 6) (tTest (tOp (rI0 fun i j => V.bl (decide (i ≤ j))) (tVar 2) (tOp (rIxT K) (tTup (tCons (tC (.int 99)) (tCons (tC (.int 99)) (tCons (tC (.int 6)) (tCons (tC (.int 5)) tNil))))) (tOp (rIxT K) (tVar 6) (tC (.int 0)))))) (tVar 6) [6])) { nx := fun x H' => Q V.non H', rt := Q } [some (.ref p), some (.ref t), some (.int 3), some (.ref c3'), none, none, none] G := by
    intro c3' us3' G n1 hcH hcG hul hws S1 hn1 B
    have hnG := hnm.go B
    refine elp_worlds (m := 1) S1 hnG (by decide) (by decide) (nn_one nm hnm.mem) (ev_var rfl) ev_c G (Ex.refl _) _ fun c1 us1 G1 hc1 eG1 hG1 ⟨hl1, hw1⟩ => ⟨_, rfl, c1, c3', us1, us3', rfl, rfl, hG1, eG1 _ _ hcG, sz_of (by omega), fun c2 hc2 => ?_⟩
    have e2 : Ex G1 (upd G1 c2 (.lst (us1 ++ us3'))) := Ex.new hc2
    have e12 := eG1.trans e2
    have S2 := S1.ext e12
    have n2 := (S1.ext eG1).nep hc2
    refine lc_world3 (n := n1) S2 (by omega) (hnG.go (But.of e12)) (fun _ => rfl) (fun _ => rfl) (fun _ => rfl) (fun _ => rfl) fun c4 us4 n' G4 hc4 hG4 hl4 hw4 S4 hn4 B4 => ⟨c2, c4, us1 ++ us3', us4, rfl, rfl, B4 _ _ n2.1 n2.2 upd_same, hG4, sz_of (by rw [List.length_append]; omega), fun c5 hc5 => ?_⟩
    have e5 : Ex G4 (upd G4 c5 (.lst (us1 ++ us3' ++ us4))) := Ex.new hc5
    have wall : WsV (upd G4 c5 (.lst (us1 ++ us3' ++ us4))) p q nm (us1 ++ us3' ++ us4) := by
      intro v hv
      rcases List.mem_append.mp hv with hv | hv
      · rcases List.mem_append.mp hv with hv | hv
        · exact (((hw1.ex e2).but B4).ex e5) v hv
        · exact (((hws.ex e12).but B4).ex e5) v hv
      · exact (hw4.ex e5) v hv
    have hlen : (us1 ++ us3' ++ us4).length ≤ 140 := by
      rw [List.length_append, List.length_append]
      omega
    have BB : But p q H (upd G4 c5 (.lst (us1 ++ us3' ++ us4))) := ((B.trans (But.of e12)).trans B4).trans (But.of e5)
    have hgiv := given_map (us1 ++ us3' ++ us4) id _ rfl
    rw [List.map_id] at hgiv
    show tRet (tLc (iList K (tVar 4)) (gName 6) (tTest (tOp (rI0 fun i j => V.bl (decide (i ≤ j))) (tVar 2) (tOp (rIxT K) (tTup (tCons (tC (.int 99)) (tCons (tC (.int 99)) (tCons (tC (.int 6)) (tCons (tC (.int 5)) tNil))))) (tOp (rIxT K) (tVar 6) (tC (.int 0)))))) (tVar 6) [6]) { nx := fun x H' => Q V.non H', rt := Q } [some (.ref p), some (.ref t), some (.int 3), some (.ref c3'), some (.ref c5), none, none] (upd G4 c5 (.lst (us1 ++ us3' ++ us4)))
    refine s_retL (xs := us1 ++ us3' ++ us4) ?_ fun c6 G6 hc6 e6 h6 => ?_
    · have := el_lcL (K := K) (te := tVar 6) (σ := [some (.ref p), some (.ref t), some (.int 3), some (.ref c3'), some (.ref c5), none, none]) (H := upd G4 c5 (.lst (us1 ++ us3' ++ us4))) (tl := tVar 4) (j := 6) (vs := [6]) (t := tTest (tOp (rI0 fun i j => V.bl (decide (i ≤ j))) (tVar 2) (tOp (rIxT K) (tTup (tCons (tC (.int 99)) (tCons (tC (.int 99)) (tCons (tC (.int 6)) (tCons (tC (.int 5)) tNil))))) (tOp (rIxT K) (tVar 6) (tC (.int 0)))))) (fun _ => true) (fun i => (((us1 ++ us3' ++ us4)[i]?).map id).getD .non) (ev_var rfl) (sq_of upd_same) (by omega) (fun _ => rfl) (fun i x H1 e hx => ?_) (fun i x H1 e hx _ => ?_)
      · rw [hgiv] at this
        exact this
      · obtain ⟨w', a, b⟩ := wall x (List.mem_of_getElem? hx)
        obtain ⟨wt, fd, pd, rfl, hwt, _⟩ := a
        have hwt' := e _ _ (hx_to hwt).2.2
        refine et_test fun H2 e2 Q2 q2 => ⟨_, rfl, by show 4 ≤ sizeLine; decide, fun tt htt => ⟨_, rfl, wt, _, 0, .int (w'.n : Nat), rfl, rfl, st_of (Ex.new htt _ _ (e2 _ _ hwt')), atI_nat (j := 0) rfl, ?_⟩⟩
        have hn1 := b.n1
        have hn3 := b.n3
        obtain ⟨z, hz, hz3⟩ : ∃ z : Int, ([.int 99, .int 99, .int 6, .int 5] : List V)[w'.n]? = some (.int z) ∧ 3 ≤ z := by
          have : w'.n = 1 ∨ w'.n = 2 ∨ w'.n = 3 := by omega
          rcases this with h | h | h
          · rw [h]; exact ⟨99, rfl, by decide⟩
          · rw [h]; exact ⟨6, rfl, by decide⟩
          · rw [h]; exact ⟨5, rfl, by decide⟩
        refine ⟨tt, _, (w'.n : Nat), .int z, rfl, rfl, st_of upd_same, atI_nat hz, 3, z, rfl, rfl, ?_⟩
        show Q2 (.bl (decide (3 ≤ z))) _
        rw [decide_eq_true hz3]
        exact q2 _ (Ex.new htt)
      · refine ev_is (ev_var rfl) ?_
        rw [hx]
        rfl
    · exact k c6 _ n' G6 (BB.back (S4.ext e5) hc6) h6 (by omega) (wall.ex e6) ((S4.ext e5).ext e6) (by omega) (BB.trans (But.of e6))
  have S1 := S.ext e1
  have n3 := S.nep hc3
  refine q_asgIf (b := decide (16 < us3.length)) (et_is (et_test (ev_op (ev_lenL (ev_var rfl) (sq_of h1)) ev_c fun H1 e Q q => ⟨_, _, rfl, rfl, q H1 (Ex.refl _)⟩)) (decide_eq_decide.mpr (by omega))) (fun hb G eG => ?_) fun hb G eG => ?_
  · have hcG := eG _ _ h1
    refine ⟨_, rfl, _, rfl, p, q, c3, n, us3, rfl, S1.ext eG, by omega, by omega, sq_of hcG, fun r G2 ys hr hG2 hperm S2 B2 => ⟨_, rfl, r, ys, rfl, sq_of hG2, fun c hc => ?_⟩⟩
    have e3 : Ex G2 (upd G2 c (.lst (cutV ys none (some 12)))) := Ex.new hc
    have BB : But p q H (upd G2 c (.lst (cutV ys none (some 12)))) := (((But.of e1).trans (But.of eG)).trans B2).trans (But.of e3)
    have hcH : H c = none := (((But.of e1).trans (But.of eG)).trans B2).back S2 hc
    refine goB c (ys.take 12) _ _ hcH (by rw [upd_same, show (some 12 : Option Int) = some ((12 : Nat) : Int) from rfl, cut_to]) (by have : (ys.take 12).length ≤ 12 := List.length_take_le 12 ys; omega) (fun v hv => ?_) (S2.ext e3) (by omega) BB
    exact (((hw3.ex eG).but B2).ex e3) v (hperm.mem_iff.mp (List.mem_of_mem_take hv))
  · exact ⟨_, rfl, goB c3 us3 G n hc3 (eG _ _ h1) hl3 (hw3.ex eG) (S1.ext eG) (by omega) ((But.of e1).trans (But.of eG))⟩
end
end K17

set_option Elab.async false
set_option linter.all false
set_option maxRecDepth 100000
set_option maxHeartbeats 4000000
/-! _law_list. -/
namespace K17
open PySem PySem.Spec PyProof.Rows L2 Evl
def V4 : List Str := ["X", "Y", "Z7", "X12"]
structure Li (nm : Nms) (l : Lit) : Prop where
  lg : Lg l
  aw : Aw nm l.2
  vr : ∀ s ∈ l.2.allv, s ∈ V4
  sz : l.2.sz ≤ 20
theorem li_atom {nm : Nms} {ss : List Str} {z : W} {b : Bool} (h : Atw nm ss z) (hs : ∀ s ∈ ss, s ∈ V4) : Li nm (b, z) := ⟨⟨h.eq, by have := h.dp; show z.dp ≤ 8; omega, by have := h.sz; show z.sz ≤ 200; omega, h.wd⟩, h.aw, fun s q => hs s (h.vr s q), h.sz⟩
theorem li_eq {nm : Nms} {ss : List Str} {z : W} {b : Bool} (h : Wq nm.1 ss 2 z) (hs : ∀ s ∈ ss, s ∈ V4) : Li nm (b, .n "=" [z, z]) := by
  have h1 := h.dp
  have h2 := h.sz
  refine ⟨⟨⟨_, _, rfl, fun _ => ⟨z, z, rfl⟩⟩, ?_, ?_, ?_⟩, ⟨_, _, rfl, ?_, by decide +kernel, .inl ⟨rfl, rfl⟩⟩, ?_, ?_⟩
  · show max z.dp (max z.dp 0) + 1 ≤ 8
    omega
  · show z.sz + (z.sz + 0) + 2 ≤ 200
    omega
  · show (SS.contains "=" && (z.o.wd && (z.o.wd && true))) = true
    rw [h.wd]
    decide +kernel
  · show (z.wf nm.1 && (z.wf nm.1 && true)) = true
    rw [h.wf]
    rfl
  · intro s hs'
    have hs' : s ∈ z.allv ++ (z.allv ++ []) := hs'
    rw [List.append_nil] at hs'
    rcases List.mem_append.mp hs' with q | q <;> exact hs s (h.vr s q)
  · show z.sz + (z.sz + 0) + 2 ≤ 20
    omega
/-- a literal that may be asked -/
def LitV (nm : Nms) (G : Hp) (v : V) : Prop := ∃ l, OV G v (litO l) ∧ Li nm l
theorem LitV.tx {nm : Nms} {H G : Hp} {v : V} (h : LitV nm H v) (e : Tx H G) : LitV nm G v := by
  obtain ⟨l, a, b⟩ := h
  exact ⟨l, OV.tx e (lit_noL l) (lit_nod l) a, b⟩
theorem LitV.ext {nm : Nms} {H G : Hp} {v : V} (h : LitV nm H v) (e : Ex H G) : LitV nm G v := h.tx (Tx.of e)
theorem lits_of {nm : Nms} {G : Hp} : ∀ {us : List V}, (∀ v ∈ us, LitV nm G v) → ∃ ls : List Lit, OVs G us (ls.map litO) ∧ ∀ l ∈ ls, Li nm l
  | [], _ => ⟨[], .nil, (fun l hl => nomatch hl)⟩
  | v :: us, h => by
    obtain ⟨l, a, b⟩ := h v List.mem_cons_self
    obtain ⟨ls, c, d⟩ := lits_of fun u hu => h u (List.mem_cons_of_mem _ hu)
    refine ⟨l :: ls, .cons a c, fun m hm => ?_⟩
    rcases List.mem_cons.mp hm with rfl | hm
    · exact b
    · exact d m hm
theorem cut_mem {x : V} {xs : List V} {lo hi : Option Int} (h : x ∈ cutV xs lo hi) : x ∈ xs := by
  unfold cutV at h
  exact List.mem_of_mem_drop (List.mem_of_mem_take h)
theorem cut_len (xs : List V) (lo hi : Option Int) : (cutV xs lo hi).length ≤ xs.length := by
  unfold cutV
  rw [List.length_take, List.length_drop]
  omega
section
variable {K : PySem.W.Frag} {H G : Hp} {σ : L2.St} {te ta tb tl : TE} {tt : TT} {v : V} {vs : List Nat}
theorem lit_ov {G : Hp} {t : Addr} {b : Bool} {y : V} {z : W} (h : G t = some (.tup [.bl b, y])) (hy : WV G y z) : OV G (.ref t) (litO (b, z)) := ⟨t, _, rfl, h, .cons rfl (.cons hy .nil)⟩
/-- [(not is_so, one) for is_so, one in some if _law_draw(stream, 2) == 0] -/
theorem lc_flip {p q : Addr} {n : Int} {nm : Nms} {zs : List V} {Q : VK} (hr : EvL tl σ H zs) (hz : ∀ v ∈ zs, LitV nm H v) (hL : zs.length ≤ 100) (S : Spr H p q n) (hn : n < 90000)
    (hw : ∀ x y, wipe (((wipe σ [7, 8]).set 7 (some x)).set 8 (some y)) [7, 8] = wipe σ [7, 8]) (h0 : ∀ x y, (((wipe σ [7, 8]).set 7 (some x)).set 8 (some y))[0]? = some (some (.ref p))) (h7 : ∀ x y, (((wipe σ [7, 8]).set 7 (some x)).set 8 (some y))[7]? = some (some x)) (h8 : ∀ x y, (((wipe σ [7, 8]).set 7 (some x)).set 8 (some y))[8]? = some (some y))
    (kk : ∀ c acc n' G, H c = none → G c = some (.lst acc) → acc.length ≤ zs.length → (∀ v ∈ acc, LitV nm G v) → Spr G p q n' → n' ≤ n + zs.length → But p q H G → Q (.ref c) G) :
    tLc (iList K tl) (gPair K 7 8) (tTest (tOp rEq (tCall spDr [] E0 (tCons (tVar 0) (tCons (tC (.int 2)) tNil))) (tC (.int 0)))) (tTup (tCons (tNotV (tVar 7)) (tCons (tVar 8) tNil))) [7, 8] σ H Q :=
  hr H (Ex.refl _) _ fun a H1 ha e1 h1 => ⟨a, rfl, ⟨zs, sq_of h1⟩, fun Dl hD => by
    have hD0 : H Dl = none := fresh_back e1 hD
    have hDn := S.nep hD0
    have hap := S.nep ha
    refine lc_list (xs := zs) (fun i G => But p q H1 G ∧ ∃ (acc : List V) (n' : Int), G Dl = some (.lst acc) ∧ acc.length ≤ i ∧ (∀ v ∈ acc, LitV nm G v) ∧ Spr G p q n' ∧ n' ≤ n + (i : Int)) ⟨But.of (Ex.new hD), [], n, upd_same, Nat.le_refl _, (fun v hv => nomatch hv), (S.ext e1).ext (Ex.new hD), by omega⟩ (fun i G hi ⟨B, _⟩ => sq_of (B _ _ hap.1 hap.2 h1)) (fun i x G hx ⟨B, acc, n', hacc, hal, hat, S', hn'⟩ => ?_) (fun G ⟨B, acc, n', hacc, hal, hat, S', hn'⟩ => ?_)
    · have hi := (List.getElem?_eq_some_iff.mp hx).1
      obtain ⟨l, hl, hli⟩ := ((hz x (List.mem_of_getElem? hx)).ext e1).tx ((S.ext e1).tx B)
      obtain ⟨t, ys, rfl, ht, x1, z1, rfl, hx1, x2, z2, rfl, hx2, hz2⟩ := hl
      obtain rfl : z2 = [] := hz2
      obtain rfl : x1 = .bl l.1 := hx1
      refine ⟨t, _, rfl, st_of ht, rfl, _, _, rfl, _, _, rfl, rfl, hw _ _, ?_⟩
      refine ⟨_, h0 _ _, p, q, n', 2, rfl, S', by omega, by decide, by decide, fun r G2 r0 r1 S2 B2 => ⟨rfl, _, rfl, ?_⟩⟩
      have hD2 : G2 Dl = some (.lst acc) := B2 _ _ hDn.1 hDn.2 hacc
      by_cases hv : V.int r = V.int 0
      · rw [decide_eq_true hv]
        dsimp only
        rw [if_pos rfl]
        refine ⟨_, h7 _ _, _, rfl, _, h8 _ _, by show 2 ≤ sizeLine; decide, fun u hu => ?_⟩
        have e5 : Ex G2 (upd G2 u (.tup [.bl (!l.1), x2])) := Ex.new hu
        have hD5 := e5 _ _ hD2
        have tx6 : Tx (upd G2 u (.tup [.bl (!l.1), x2])) (upd (upd G2 u (.tup [.bl (!l.1), x2])) Dl (.lst (acc ++ [.ref u]))) := Tx.lst hD5
        have tx5 := ((S'.tx B2).trans (Tx.of e5)).trans tx6
        refine ⟨acc, hD5, sz_lt (by omega), ?_, acc ++ [.ref u], n' + 1, upd_same, by simp; omega, fun v hv => ?_, ((S2.ext e5).keep (fun o h => by rw [upd_ne hDn.1.symm]; exact h) (fun o h => by rw [upd_ne hDn.2.symm]; exact h)), by omega⟩
        · intro c o nb1 nb2 hc
          have := e5 _ _ (B2 _ _ nb1 nb2 (B _ _ nb1 nb2 hc))
          rw [upd_ne (ne_of_none hc hD)]
          exact this
        · rcases List.mem_append.mp hv with hv | hv
          · exact (hat v hv).tx tx5
          · rw [List.mem_singleton.mp hv]
            exact ⟨(!l.1, l.2), lit_ov (tx6 _ _ upd_same) (WV.tx tx5 hx2), ⟨⟨hli.lg.at_, hli.lg.dp, hli.lg.sz, hli.lg.wd⟩, hli.aw, hli.vr, hli.sz⟩⟩
      · rw [decide_eq_false hv]
        dsimp only
        rw [if_neg (by decide)]
        exact ⟨B.trans B2, acc, n' + 1, hD2, by omega, (fun v hv => (hat v hv).tx (S'.tx B2)), S2, by omega⟩
    · exact kk Dl acc n' G hD0 hacc (by omega) hat S' (by omega) ((But.of e1).trans B)⟩
theorem elp_lstO {os : List O} {ta : TA} (h : EvAO ta σ H os) (n : os.length ≤ 1000) : EvLP (tLst ta) σ H (fun xs G => OVs G xs os) := fun H1 e Q q =>
  h H1 e _ fun vs H2 e2 hvs => ⟨sz_of (by rw [hvs.length]; omega), fun p hp => q p vs _ (fresh_back e2 hp) (e2.trans (Ex.new hp)) upd_same (hvs.ext (Ex.new hp))⟩
theorem el_cut {a : Addr} {xs : List V} {lo hi : Option Int} {t1 t2 : TO} (h : Ev te σ H (.ref a)) (hx : H a = some (.lst xs)) (h1 : ∀ G Q, Q lo G → t1 σ G Q) (h2 : ∀ G Q, Q hi G → t2 σ G Q) : EvL (tSl (rSlL K) te t1 t2) σ H (cutV xs lo hi) := fun H1 e Q q =>
  h H1 e _ fun H2 e2 => h1 _ _ (h2 _ _ ⟨a, xs, rfl, sq_of (e2 _ _ (e _ _ hx)), fun p hp => q p _ (fresh_back e2 hp) (e2.trans (Ex.new hp)) upd_same⟩)
end
abbrev nLi : List Str := ["_law_stream", "_law_names", "_law_found", "_law_k", "_law_atom", "_law_word", "_law_some", "_law_is_so", "_law_one"]
theorem sc_li : FnScope nLi ["_law_stream", "_law_names"] (defScope s__law_list) := ⟨rfl, rfl, rfl, by decide +kernel, rfl, by decide +kernel, by decide +kernel⟩
def spLi : Sp := fun vs H Q _ => ∃ (p q : Addr) (nv : V) (n : Int) (nm : Nms), vs = [.ref p, nv] ∧ Spr H p q n ∧ n < 50000 ∧ NmV H p q nv nm ∧
  ∀ (c : Addr) (us : List V) (ls : List Lit) (n' : Int) (G : Hp), H c = none → G c = some (.lst us) → OVs G us (ls.map litO) → (∀ l ∈ ls, Li nm l) → ls.length ≤ 5 → Spr G p q n' → n' ≤ n + 300 → But p q H G → Q (.ref c) G
section
variable {P : Program} {w : World} {K : PySem.W.Frag} {mg : Str → Option Value} {base : Heap}
theorem ok_list (T : T17 P w K mg base) : Ok P w K mg base CX0 "_law_list" ["_law_stream", "_law_names"] 8 spLi := by
  obtain ⟨fR, dR, GR, bR, kR, mR⟩ := (ok_word T 3).ex
  obtain ⟨fA, dA, GA, bA, kA, mA⟩ := (ok_atom T).ex
  obtain ⟨fD, dD, GD, bD, kD, mD⟩ := (ok_dr T).ex
  obtain ⟨fK, dK, GK, bK, kK, mK⟩ := (ok_pick T).ex
  refine T.ok 33 rfl sc_li (fun vs H Q E h => ?_) (fun kV doc pm an cdv ct us hl => match us, hl with | [_, _], _ => rfl) (fun f cdv A outer s H vs Q E hr h => ?_)
  · obtain ⟨p, q, nv, n, nm, rfl, _⟩ := h
    rfl
  obtain ⟨p, q, nv, n, nm, rfl, S, hn, hnm, k⟩ := h
  refine ⟨_, pss_cons (ps_set (i := 2) sc_li.nd rfl (Or.inl rfl) (pe_lst pa_nil))
    (pss_cons (ps_for PassesOwn.never rfl (pi_range1 (by rfl) T.range (pa_cons (pe_call GD (hr.mono (by omega)) (by rfl) mD kD bD .nil pass0 (pa_cons (pv 0) (pa_cons pe_int pa_nil))) pa_nil)) (pg_name (i := 3) sc_li.nd rfl (Or.inl rfl))
      (pss_cons (ps_set (i := 4) sc_li.nd rfl (Or.inl rfl) (pe_call GA (hr.mono (by omega)) (by rfl) mA kA bA .nil pass0 (pa_cons (pv 0) (pa_cons (pv 1) (pa_cons (pe_slice sl_list (pe_lst (pa_cons pe_str (pa_cons pe_str (pa_cons pe_str pa_nil)))) po_none (po_some (pe_op op_add pe_int (pe_call GD (hr.mono (by omega)) (by rfl) mD kD bD .nil pass0 (pa_cons (pv 0) (pa_cons pe_int pa_nil)))))) pa_nil)))))
      (pss_cons (ps_set (i := 5) sc_li.nd rfl (Or.inl rfl) (pe_call GR (hr.mono (by omega)) (by rfl) mR kR bR .nil pass0 (pa_cons (pv 0) (pa_cons (pe_ix ix_tup (pv 1) pe_int (fun _ _ => rfl)) (pa_cons (pe_lst (pa_cons pe_str (pa_cons pe_str pa_nil))) (pa_cons pe_int pa_nil))))))
      (pss_cons (ps_set (i := 6) sc_li.nd rfl (Or.inl rfl) (pe_op op_cat (pe_lst (pa_cons (pe_tup (pa_cons pe_bl (pa_cons (pv 4) pa_nil))) (pa_cons (pe_tup (pa_cons pe_bl (pa_cons (pv 4) pa_nil))) (pa_cons (pe_tup (pa_cons pe_bl (pa_cons (pe_tup (pa_cons pe_str (pa_cons (pv 5) (pa_cons (pv 5) pa_nil)))) pa_nil))) pa_nil)))) (pe_slice sl_list (pv 2) po_none (po_some pe_int))))
      (pss_cons (ps_expr (pe_bm PySem.F.plainAttrs_list PySem.F.slot_list_append PySem.F.type_list_append mt_append (pv 6) (pa_cons (pe_tup (pa_cons (pe_cmpR op_eq (pe_call GD (hr.mono (by omega)) (by rfl) mD kD bD .nil pass0 (pa_cons (pv 0) (pa_cons pe_int pa_nil))) pe_int (nomark _)) (pa_cons (pe_tup (pa_cons pe_str (pa_cons (pv 5) (pa_cons (pv 5) pa_nil)))) pa_nil))) pa_nil)))
      (pss_cons (ps_expr (pe_bm PySem.F.plainAttrs_list PySem.F.slot_list_extend PySem.F.type_list_extend mt_extend (pv 6) (pa_cons
        (pe_lc (own := [("_law_is_so", 7), ("_law_one", 8)]) (g := gPair K 7 8) (tt := tTest (tOp rEq (tCall spDr [] E0 (tCons (tVar 0) (tCons (tC (.int 2)) tNil))) (tC (.int 0)))) (te := tTup (tCons (tNotV (tVar 7)) (tCons (tVar 8) tNil))) rfl sc_li.nd (pi_list (pe_slice sl_list (pv 2) (po_some (pe_un un_neg pe_int)) po_none)) (blkOk_by (N := nLi) (sc := defScope s__law_list) (by decide +kernel))
          (fun _ _ _ _ _ => pg_tup rfl (pgs_cons (pg_name (i := 7) sc_li.nd rfl (Or.inl rfl)) (pgs_cons (pg_name (i := 8) sc_li.nd rfl (Or.inl rfl)) pgs_nil))) (fun _ _ _ _ _ => pts_one (pt_cmpR op_eq (pe_call GD (hr.mono (by omega)) (by rfl) mD kD bD .nil pass0 (pa_cons (pv 0) (pa_cons pe_int pa_nil))) pe_int (nomark _))) (fun _ _ _ _ _ => pe_tup (pa_cons (pe_not (pv 7)) (pa_cons (pv 8) pa_nil)))) pa_nil)))
      (pss_one (ps_expr (pe_bm PySem.F.plainAttrs_list PySem.F.slot_list_append PySem.F.type_list_append mt_append (pv 2) (pa_cons (pe_call GK (hr.mono (by omega)) (by rfl) mK kK bK .nil pass0 (pa_cons (pv 0) (pa_cons (pv 6) pa_nil))) pa_nil))))))))))
    (pss_one (ps_ret (pv 2)))), ?_⟩
  obtain ⟨sx, sy, sp, sq⟩ := S.lst
  refine q_asgL (el_lst ea_nil (by show 0 ≤ 100000; decide)) fun fo H1 hfo e1 h1 => ?_
  have nfo := S.nep hfo
  refine ⟨_, rfl, p, q, n, 6, rfl, S.ext e1, by omega, by decide, by decide, fun r G0 r0 r1 S0 B0 => ⟨_, rfl, by omega, by omega, ?_⟩⟩
  refine for_range (lo := 0) (n := r.toNat) (fun i σ' G => ∃ (us : List V) (o3 o4 o5 o6 : Option V) (n' : Int), σ' = [some (.ref p), some nv, some (.ref fo), o3, o4, o5, o6, none, none] ∧ But p q H G ∧ G fo = some (.lst us) ∧ us.length = i ∧ (∀ v ∈ us, LitV nm G v) ∧ Spr G p q n' ∧ n' ≤ n + 1 + 50 * (i : Int)) ?_ ?_ ?_
  · exact ⟨[], none, none, none, none, n + 1, rfl, (But.of e1).trans B0, B0 _ _ nfo.1 nfo.2 h1, rfl, (fun v hv => nomatch hv), S0, by omega⟩
  · rintro i σ' G hi ⟨us, o3, o4, o5, o6, n', rfl, B, hfoG, hul, hus, S', hn'⟩
    have hi5 : i < 5 := by omega
    have hnG := hnm.go B
    -- the atom
    refine ⟨_, rfl, _, rfl, by show 3 ≤ sizeLine; decide, fun sl hsl => ?_⟩
    have x1 : Ex G (upd G sl (.lst [.str "X", .str "Y", .str "Z7"])) := Ex.new hsl
    have nsl := S'.nep hsl
    refine ⟨_, rfl, p, q, n', 3, rfl, S'.ext x1, by omega, by decide, by decide, fun r2 G2 s0 s1 S2 B2 => ⟨1, r2, rfl, rfl, _, rfl, sl, [.str "X", .str "Y", .str "Z7"], rfl, sq_of (B2 _ _ nsl.1 nsl.2 upd_same), fun vl hvl => ?_⟩⟩
    obtain ⟨kk, hkk, hk1, hk3⟩ : ∃ kk : Nat, (1 + r2) = ((kk : Nat) : Int) ∧ 1 ≤ kk ∧ kk ≤ 3 := ⟨(1 + r2).toNat, by omega, by omega, by omega⟩
    have hkk' : (some (1 + r2) : Option Int) = some ((kk : Nat) : Int) := by rw [hkk]
    rw [hkk', cut_to]
    have esv : ([.str "X", .str "Y", .str "Z7"] : List V).take kk = sVs ((["X", "Y", "Z7"] : List Str).take kk) := by
      unfold sVs
      rw [List.map_take]
      rfl
    rw [esv]
    have x3 : Ex G2 (upd G2 vl (.lst (sVs ((["X", "Y", "Z7"] : List Str).take kk)))) := Ex.new hvl
    have nvl := S2.nep hvl
    have BB3 : But p q H (upd G2 vl (.lst (sVs ((["X", "Y", "Z7"] : List Str).take kk)))) := ((B.trans (But.of x1)).trans B2).trans (But.of x3)
    have hss : ∀ kk, 1 ≤ kk → kk ≤ 3 → ((["X", "Y", "Z7"] : List Str).take kk) ≠ [] ∧ ((["X", "Y", "Z7"] : List Str).take kk).length ≤ 10 ∧ (∀ s ∈ (["X", "Y", "Z7"] : List Str).take kk, SS.contains s = true) ∧ ∀ s ∈ (["X", "Y", "Z7"] : List Str).take kk, s ∈ V4 := by
      intro kk h1 h3
      have : kk = 1 ∨ kk = 2 ∨ kk = 3 := by omega
      rcases this with rfl | rfl | rfl <;> exact ⟨by decide, by decide, by decide +kernel, by decide +kernel⟩
    obtain ⟨ss1, ss2, ss3, ss4⟩ := hss kk hk1 hk3
    refine ⟨p, q, vl, nv, n' + 1, nm, (["X", "Y", "Z7"] : List Str).take kk, rfl, S2.ext x3, by omega, hnm.go BB3, upd_same, nvl.1, nvl.2, ss1, ss2, ss3, fun av z n4 G4 hat hav S4 hn4 B4 => ?_⟩
    have BB4 := BB3.trans B4
    -- the word
    obtain ⟨t, fa, pa, fu, pu, rfl, ht, t1, t2, hfa, f1, f2, hfu, hpa, p1, p2, hpu, hpx, hfx⟩ := (hnm.go BB4).at_
    refine ⟨_, rfl, _, rfl, t, _, 0, .ref fa, rfl, rfl, st_of ht, atI_nat (j := 0) rfl, by show 2 ≤ sizeLine; decide, fun wl hwl => ?_⟩
    have x5 : Ex G4 (upd G4 wl (.lst [.str "X", .str "X12"])) := Ex.new hwl
    have nwl := S4.nep hwl
    refine ⟨p, q, fa, wl, n4, fu, nm.1, ["X", "X12"], 2, rfl, S4.ext x5, by omega, x5 _ _ hfa, hfu.ext x5, (nn_ok nm hnm.mem).1, upd_same, f1, f2, nwl.1, nwl.2, by decide, by decide, by decide +kernel, by decide, by decide, fun wv z2 n6 G6 hwq hwv S6 hn6 B6 => ?_⟩
    have B46 : But p q G4 G6 := (But.of x5).trans B6
    have BB6 := BB4.trans B46
    have BG6 : But p q G G6 := ((((But.of x1).trans B2).trans (But.of x3)).trans B4).trans B46
    have hfo6 : G6 fo = some (.lst us) := BG6 _ _ nfo.1 nfo.2 hfoG
    have hus6 : ∀ v ∈ us, LitV nm G6 v := fun v hv => (hus v hv).tx (S'.tx BG6)
    have hav6 : WV G6 av z := WV.tx (S4.tx B46) hav
    have li1 : ∀ b, Li nm (b, z) := fun b => li_atom hat ss4
    have li2 : ∀ b, Li nm (b, .n "=" [z2, z2]) := fun b => li_eq hwq (by decide +kernel)
    -- some = [..] + found[:1]
    refine q_asgLP (elp_cat (elp_lstO (os := [litO (true, z), litO (false, z), litO (false, .n "=" [z2, z2])]) (eao_cons (eo_tup (eao_cons eo_bl (eao_cons (eo_var rfl hav6) eao_nil)) (by show 2 ≤ 1000; decide)) (eao_cons (eo_tup (eao_cons eo_bl (eao_cons (eo_var rfl hav6) eao_nil)) (by show 2 ≤ 1000; decide)) (eao_cons (eo_tup (eao_cons eo_bl (eao_cons (eo_tup (eao_cons eo_str (eao_cons (eo_var rfl hwv) (eao_cons (eo_var rfl hwv) eao_nil))) (by show 3 ≤ 1000; decide)) eao_nil)) (by show 2 ≤ 1000; decide)) eao_nil))) (by show 3 ≤ 1000; decide)) (EvLP.of (el_cut (lo := none) (hi := some 1) (ev_var rfl) hfo6 (fun G Q h => h) (fun G Q h => ⟨_, rfl, h⟩))) (fun _ => up_ovs) (fun _ _ _ _ h => h) ?_) fun so xs7 H7 hso e7 h7 ⟨xa, xb, exs, hxa, exb⟩ => ?_
    · rintro xs ys G' h rfl
      have := h.length
      have := cut_len us none (some 1)
      simp at *
      omega
    subst exs exb
    have hso6 := S6.nep hso
    have hl7 : (xa ++ cutV us none (some 1)).length ≤ 8 := by
      have a1 := hxa.length
      have a2 := cut_len us none (some 1)
      rw [List.length_append]
      have : ([litO (true, z), litO (false, z), litO (false, .n "=" [z2, z2])] : List O).length = 3 := rfl
      omega
    have hx7 : ∀ v ∈ xa ++ cutV us none (some 1), LitV nm H7 v := fun v hv => by
      rcases List.mem_append.mp hv with hv | hv
      · obtain ⟨o, ho, ov⟩ := ovs_mem hxa hv
        simp only [List.mem_cons, List.not_mem_nil, or_false] at ho
        rcases ho with rfl | rfl | rfl
        · exact ⟨_, ov, li1 true⟩
        · exact ⟨_, ov, li1 false⟩
        · exact ⟨_, ov, li2 false⟩
      · exact (hus6 v (cut_mem hv)).ext e7
    have S7 := S6.ext e7
    -- some.append(..)
    refine ⟨_, rfl, .inl ⟨rfl, _, sq_of h7⟩, _, rfl, p, q, n6, 9, rfl, S7, by omega, by decide, by decide, fun r8 G8 u0 u1 S8 B8 => ⟨rfl, _, rfl, _, rfl, by show 3 ≤ sizeLine; decide, fun w1 hw1 => ⟨by show 2 ≤ sizeLine; decide, fun w2 hw2 => ?_⟩⟩⟩
    have y1 : Ex G8 (upd G8 w1 (.tup [.str "=", wv, wv])) := Ex.new hw1
    have y2 : Ex (upd G8 w1 (.tup [.str "=", wv, wv])) (upd (upd G8 w1 (.tup [.str "=", wv, wv])) w2 (.tup [.bl (decide (V.int r8 = V.int 0)), .ref w1])) := Ex.new hw2
    have y12 := y1.trans y2
    have hso9 : (upd (upd G8 w1 (.tup [.str "=", wv, wv])) w2 (.tup [.bl (decide (V.int r8 = V.int 0)), .ref w1])) so = some (.lst (xa ++ cutV us none (some 1))) := y12 _ _ (B8 _ _ hso6.1 hso6.2 h7)
    have tx9 := Tx.lst (o := .lst (xa ++ cutV us none (some 1) ++ [.ref w2])) hso9
    have tx79 := ((S7.tx B8).trans (Tx.of y12)).trans tx9
    refine ⟨so, _, .ref w2, rfl, rfl, hso9, sz_lt (by omega), ?_⟩
    have hfs : fo ≠ so := ne_of_none hfo6 hso
    have hwv9 : WV (upd (upd (upd G8 w1 (.tup [.str "=", wv, wv])) w2 (.tup [.bl (decide (V.int r8 = V.int 0)), .ref w1])) so (.lst (xa ++ cutV us none (some 1) ++ [.ref w2]))) wv z2 := WV.tx (((S6.tx (But.of e7)).trans tx79)) hwv
    have hx9 : ∀ v ∈ xa ++ cutV us none (some 1) ++ [.ref w2], LitV nm (upd (upd (upd G8 w1 (.tup [.str "=", wv, wv])) w2 (.tup [.bl (decide (V.int r8 = V.int 0)), .ref w1])) so (.lst (xa ++ cutV us none (some 1) ++ [.ref w2]))) v := fun v hv => by
      rcases List.mem_append.mp hv with hv | hv
      · exact (hx7 v hv).tx tx79
      · rw [List.mem_singleton.mp hv]
        exact ⟨_, lit_ov (tx9 _ _ upd_same) (WV.of (as := [z2, z2]) (tx9 _ _ (y2 _ _ upd_same)) (.cons hwv9 (.cons hwv9 .nil))), li2 _⟩
    have S9 : Spr (upd (upd (upd G8 w1 (.tup [.str "=", wv, wv])) w2 (.tup [.bl (decide (V.int r8 = V.int 0)), .ref w1])) so (.lst (xa ++ cutV us none (some 1) ++ [.ref w2]))) p q (n6 + 1) := (S8.ext y12).keep (fun o h => by rw [upd_ne hso6.1.symm]; exact h) (fun o h => by rw [upd_ne hso6.2.symm]; exact h)
    have B69 : ∀ b o, b ≠ so → b ≠ p → b ≠ q → H7 b = some o → (upd (upd (upd G8 w1 (.tup [.str "=", wv, wv])) w2 (.tup [.bl (decide (V.int r8 = V.int 0)), .ref w1])) so (.lst (xa ++ cutV us none (some 1) ++ [.ref w2]))) b = some o := fun b o n1 n2 n3 h => by
      rw [upd_ne n1]
      exact y12 _ _ (B8 _ _ n2 n3 h)
    have hfo9 := B69 fo _ hfs nfo.1 nfo.2 (e7 _ _ hfo6)
    have hus9 : ∀ v ∈ us, LitV nm (upd (upd (upd G8 w1 (.tup [.str "=", wv, wv])) w2 (.tup [.bl (decide (V.int r8 = V.int 0)), .ref w1])) so (.lst (xa ++ cutV us none (some 1) ++ [.ref w2]))) v := fun v hv => ((hus6 v hv).ext e7).tx tx79
    have hso9' : (upd (upd (upd G8 w1 (.tup [.str "=", wv, wv])) w2 (.tup [.bl (decide (V.int r8 = V.int 0)), .ref w1])) so (.lst (xa ++ cutV us none (some 1) ++ [.ref w2]))) so = some (.lst (xa ++ cutV us none (some 1) ++ [.ref w2])) := upd_same
    have hl9 : (xa ++ cutV us none (some 1) ++ [V.ref w2]).length ≤ 9 := by rw [List.length_append]; exact Nat.succ_le_succ hl7
    have hsoH : H so = none := BB6.back S6 hso
    have BH9 : But p q H (upd (upd (upd G8 w1 (.tup [.str "=", wv, wv])) w2 (.tup [.bl (decide (V.int r8 = V.int 0)), .ref w1])) so (.lst (xa ++ cutV us none (some 1) ++ [.ref w2]))) := fun b o n1 n2 h => B69 b o (ne_of_none h hsoH) n1 n2 (e7 _ _ (BB6 _ _ n1 n2 h))
    have hne9 : xa ++ cutV us none (some 1) ++ [V.ref w2] ≠ [] := by simp
    revert hne9
    revert hfo9 hus9 hso9' hl9 S9 BH9 hx9
    generalize (upd (upd (upd G8 w1 (.tup [.str "=", wv, wv])) w2 (.tup [.bl (decide (V.int r8 = V.int 0)), .ref w1])) so (.lst (xa ++ cutV us none (some 1) ++ [.ref w2]))) = G9
    generalize xa ++ cutV us none (some 1) ++ [V.ref w2] = xs9
    intro hx9 S9 hfo9 hus9 hso9' hl9 BH9 hne9
    -- some.extend(..)
    refine ⟨_, rfl, .inl ⟨rfl, _, sq_of hso9'⟩, lc_flip (n := n6 + 1) (nm := nm) (zs := cutV us (some (-1)) none) (el_cut (lo := some (-1)) (hi := none) (ev_var rfl) hfo9 (fun G Q h => ⟨1, rfl, _, rfl, h⟩) (fun G Q h => h)) (fun v hv => hus9 v (cut_mem hv)) (by have := cut_len us (some (-1)) none; omega) S9 (by omega) (fun _ _ => rfl) (fun _ _ => rfl) (fun _ _ => rfl) (fun _ _ => rfl) fun c acc n10 G10 hc hcG hal hacc S10 hn10 B10 => ?_⟩
    have hcl := cut_len us (some (-1)) none
    have hso10 := B10 _ _ hso6.1 hso6.2 hso9'
    refine ⟨so, c, xs9, acc, rfl, rfl, hso10, hcG, sz_of (by omega), ?_⟩
    have tx11 := Tx.lst (o := .lst (xs9 ++ acc)) hso10
    have S11 : Spr (upd G10 so (.lst (xs9 ++ acc))) p q n10 := S10.keep (fun o h => by rw [upd_ne hso6.1.symm]; exact h) (fun o h => by rw [upd_ne hso6.2.symm]; exact h)
    have hfo10 := B10 _ _ nfo.1 nfo.2 hfo9
    have hfo11 : (upd G10 so (.lst (xs9 ++ acc))) fo = some (.lst us) := by rw [upd_ne hfs]; exact hfo10
    have hx11 : ∀ v ∈ xs9 ++ acc, LitV nm (upd G10 so (.lst (xs9 ++ acc))) v := fun v hv => by
      rcases List.mem_append.mp hv with hv | hv
      · exact ((hx9 v hv).tx (S9.tx B10)).tx tx11
      · exact (hacc v hv).tx tx11
    have hus11 : ∀ v ∈ us, LitV nm (upd G10 so (.lst (xs9 ++ acc))) v := fun v hv => ((hus9 v hv).tx (S9.tx B10)).tx tx11
    have BH11 : But p q H (upd G10 so (.lst (xs9 ++ acc))) := fun b o n1 n2 h => by
      rw [upd_ne (ne_of_none h hsoH)]
      exact B10 _ _ n1 n2 (BH9 _ _ n1 n2 h)
    -- found.append(pick(..))
    refine ⟨_, rfl, .inl ⟨rfl, _, sq_of hfo11⟩, _, rfl, _, rfl, p, q, so, n10, xs9 ++ acc, rfl, S11, by omega, upd_same, hso6.1, hso6.2, ?_, by rw [List.length_append]; omega, fun y G12 hy S12 B12 => ?_⟩
    · exact fun z => hne9 (List.append_eq_nil_iff.mp z).1
    have hfo12 := B12 _ _ nfo.1 nfo.2 hfo11
    have tx13 := Tx.lst (o := .lst (us ++ [y])) hfo12
    refine ⟨fo, us, y, rfl, rfl, hfo12, sz_lt (by omega), ?_⟩
    refine ⟨us ++ [y], _, _, _, _, n10 + 1, rfl, fun b o n1 n2 h => ?_, upd_same, by rw [List.length_append, hul]; rfl, fun v hv => ?_, S12.keep (fun o h => by rw [upd_ne nfo.1.symm]; exact h) (fun o h => by rw [upd_ne nfo.2.symm]; exact h), by omega⟩
    · rw [upd_ne (ne_of_none h hfo)]
      exact B12 _ _ n1 n2 (BH11 _ _ n1 n2 h)
    · rcases List.mem_append.mp hv with hv | hv
      · exact ((hus11 v hv).tx (S11.tx B12)).tx tx13
      · rw [List.mem_singleton.mp hv]
        exact ((hx11 y hy).tx (S11.tx B12)).tx tx13
  · rintro σ' G ⟨us, o3, o4, o5, o6, n', rfl, B, hfoG, hul, hus, S', hn'⟩
    refine s_ret (ev_var (i := 2) rfl) fun G5 e5 => ?_
    obtain ⟨ls, h1, h2⟩ := lits_of fun v hv => (hus v hv).ext e5
    have := h1.length
    rw [List.length_map] at this
    exact k fo us ls n' G5 hfo (e5 _ _ hfoG) h1 h2 (by omega) (S'.ext e5) (by omega) (B.trans (But.of e5))
end
end K17

set_option Elab.async false
set_option linter.all false
set_option maxRecDepth 100000
set_option maxHeartbeats 4000000
/-! Calls by a keyword alone: trimmed(literals=..), told_clause(literals=..). -/
namespace K17
open PySem PySem.Spec PyProof.Rows L2 Evl
/-- a def and its object -/
structure OkF (P : Program) (w : World) (K : PySem.W.Frag) (mg : Str → Option Value) (base : Heap) (st : Stmt) (x : Str) (ps : List Str) (k : Nat) (sp : Sp) : Prop where
  ex : ∃ f fd, FnOk P w K mg base CX0 k f fd ps sp ∧ FnP K x st f fd ∧ PySem.W.keepIn K (.ref f) = true ∧ mg x = some (.ref f)
section
variable {P : Program} {w : World} {K : PySem.W.Frag} {mg : Str → Option Value} {base : Heap}
theorem T17.okF (T : T17 P w K mg base) (i : Nat) {x : Str} {st : Stmt} {N ps : List Str} {k : Nat} {sp : Sp} (hi : fnA[i]? = some (dN x st)) (S : FnScope N ps (defScope st)) (len : ∀ vs H Q E, sp vs H Q E → vs.length = ps.length)
    (hbody : ∀ (f : Addr) (cdv : Value) (A : Around) (outer : List Env) (s : Shared) (H : Hp) (vs : List V) (Q : VK) (E : XK), Room k (A.deeper (envOfC x (defScope st) s.heap.objs.size f cdv)) → sp vs H Q E →
      ∃ t, PSs (cxOf CX0 P w K mg base N x (defScope st) f cdv A outer s H E).nox (defBody st) t ∧ t { nx := fun _ H' => Q .non H', rt := Q } (L2.start N vs) H) : OkF P w K mg base st x ps (k + 1) sp := by
  obtain ⟨⟨fd, F⟩, m⟩ := T.df i x st hi
  refine ⟨_, fd, F.ok S len (fun cdv A outer s H vs Q E hr h => ?_), F, F.kp, m⟩
  obtain ⟨t, h1, h2⟩ := hbody _ cdv A outer s H vs Q E hr h
  exact ⟨t, PSs.nox h1, h2⟩
theorem okF_trimmed (T : T17 P w K mg base) : OkF P w K mg base s_trimmed "trimmed" ["literals"] 4 spTr := by
  obtain ⟨fU, dU, GU, bU, kU, mU⟩ := (ok_unlike T).ex
  obtain ⟨fF, dF, GF, bF, kF, mF⟩ := (ok_frozen T).ex
  obtain ⟨fA, dA, GA, bA, kA, mA⟩ := (ok_always T).ex
  refine T.okF 7 rfl sc_tr (fun vs H Q E h => ?_) (fun f cdv A outer s H vs Q E hr h => ?_)
  · obtain ⟨v, o, ls, rfl, _⟩ := h
    rfl
  · obtain ⟨v, o, ls, rfl, g, k⟩ := h
    refine ⟨_, pss_cons (ps_set (i := 1) sc_tr.nd rfl (Or.inl rfl) (pe_call GU (hr.mono (by decide)) (by rfl) mU kU bU .nil pass0 (pa_cons (pe_call GF (hr.mono (by decide)) (by rfl) mF kF bF .nil pass0 (pa_cons (pv 0) pa_nil)) pa_nil)))
      (pss_cons (ps_if (pt_val (pe_call GA (hr.mono (by decide)) (by rfl) mA kA bA .nil pass0 (pa_cons (pv 1) pa_nil))) (pss_one (ps_ret pe_non)) pss_nil)
      (pss_one (ps_ret (pe_lc (own := [("is_so", 2), ("atom", 3)]) (g := gPair K 2 3) (tt := tOr (tTest (tOp rNe (tOp (rIxT K) (tVar 3) (tC (.int 0))) (tC (.str "=")))) (tTest (tOp (rNeD K) (tOp (rIxT K) (tVar 3) (tC (.int 1))) (tOp (rIxT K) (tVar 3) (tC (.int 2)))))) (te := tTup (tCons (tVar 2) (tCons (tVar 3) tNil))) rfl sc_tr.nd (pi_list (pv 1)) (blkOk_by (N := nTr) (sc := defScope s_trimmed) (by decide +kernel))
        (fun _ _ _ _ _ => pg_tup rfl (pgs_cons (pg_name (i := 2) sc_tr.nd rfl (Or.inl rfl)) (pgs_cons (pg_name (i := 3) sc_tr.nd rfl (Or.inl rfl)) pgs_nil)))
        (fun _ _ _ _ _ => pts_one (PW.pt (pw_or (pt_cmpR op_ne (pe_ix ix_tup (pv 3) pe_int (fun _ _ => rfl)) pe_str (nomark _)) (pw_or1 (pt_cmpR (op_neD hr.units) (pe_ix ix_tup (pv 3) pe_int (fun _ _ => rfl)) (pe_ix ix_tup (pv 3) pe_int (fun _ _ => rfl)) (nomark _))))))
        (fun _ _ _ _ _ => pe_tup (pa_cons (pv 2) (pa_cons (pv 3) pa_nil))))))), ?_⟩
    refine q_asgLP (elp_once rfl g) fun p us G hp eG hpG hus => ?_
    have hlg := dd_lgs g.lg
    have hlen : (dd [] ls).length ≤ 40 := by have h1 : (dd [] ls).length ≤ 0 + ls.length := dd_len ls []; have h2 := g.len; omega
    unfold trimL at k
    refine q_when (b := alw (dd [] ls)) (et_B (ev_call (ea_cons (ev_var rfl) ea_nil) fun H1 e Q q E => ⟨p, us, dd [] ls, rfl, e _ _ hpG, hus.ext e, hlg, hlen, q⟩)) (fun hb J eJ => ?_) fun hb J eJ => ?_
    · rw [if_pos hb] at k
      exact s_ret ev_c fun H4 e4 => k H4 ((eG.trans eJ).trans e4)
    · rw [if_neg (by rw [hb]; decide)] at k
      refine s_retLP (lcO (fun l => !same l.2) litO (ev_var rfl) (eJ _ _ hpG) (hus.ext eJ) (by omega) (fun _ _ => rfl) (fun l y G2 hl e2 hy => et_keep rfl hy (hlg l hl)) (fun l y G2 hl e2 hy _ => eo_tup (eao_cons (eo_var rfl rfl) (eao_cons (eo_var rfl hy) eao_nil)) (by show 2 ≤ 1000; decide)) fun l _ => ⟨lit_noL l, lit_nod l⟩) fun q xs H1 hq e1 h1 hx => ?_
      exact k q xs H1 (fresh_back (eG.trans eJ) hq) ((eG.trans eJ).trans e1) h1 hx
theorem okF_told (T : T17 P w K mg base) : OkF P w K mg base s_told_clause "told_clause" ["literals"] 24 spTd := by
  obtain ⟨fU, dU, GU, bU, kU, mU⟩ := (ok_unlike T).ex
  obtain ⟨fF, dF, GF, bF, kF, mF⟩ := (ok_frozen T).ex
  obtain ⟨fC, dC, GC, bC, kC, mC⟩ := (ok_clause_variables T).ex
  obtain ⟨fE, dE, GE, bE, kE, mE⟩ := (ok_exchanged T 20).ex
  refine T.okF 8 rfl sc_td (fun vs H Q E h => ?_) (fun f cdv A outer s H vs Q E hr h => ?_)
  · obtain ⟨v, o, ls, rfl, _⟩ := h
    rfl
  · obtain ⟨v, o, ls, rfl, g, hv, k⟩ := h
    refine ⟨_, pss_cons (ps_set (i := 1) sc_td.nd rfl (Or.inl rfl) (pe_call GU (hr.mono (by decide)) (by rfl) mU kU bU .nil pass0 (pa_cons (pe_call GF (hr.mono (by decide)) (by rfl) mF kF bF .nil pass0 (pa_cons (pv 0) pa_nil)) pa_nil)))
      (pss_cons (ps_set (i := 2) sc_td.nd rfl (Or.inr rfl) (pe_dc (own := [("at", 3), ("variable", 4)]) (g := gPair K 3 4) (tt := tYes) (tk := tVar 4) (tv := tFmt "X" (tOp (rI0 fun i j => .int (i + j)) (tVar 3) (tC (.int 1)))) rfl sc_td.nd (pi_enum (by rfl) T.enumerate (pa_cons (pe_call GC (hr.mono (by decide)) (by rfl) mC kC bC .nil pass0 (pa_cons (pv 1) pa_nil)) pa_nil)) (blkOk_by (N := nTd) (sc := defScope s_told_clause) (by decide +kernel))
        (fun _ _ _ _ _ => pg_tup rfl (pgs_cons (pg_name (i := 3) sc_td.nd rfl (Or.inl rfl)) (pgs_cons (pg_name (i := 4) sc_td.nd rfl (Or.inl rfl)) pgs_nil))) (fun _ _ _ _ _ => pts_nil) (fun _ _ _ _ _ => pv 4) (fun _ _ _ _ _ => pe_fmt (pe_op op_add (pv 3) pe_int) (by decide) rfl)))
      (pss_one (ps_ret (pe_lc (own := [("is_so", 5), ("atom", 6)]) (g := gPair K 5 6) (tt := tYes) (te := tTup (tCons (tVar 5) (tCons (tCall (spEx 20) [] E0 (tCons (tVar 6) (tCons (tVar 2) tNil))) tNil))) rfl sc_td.nd (pi_list (pv 1)) (blkOk_by (N := nTd) (sc := defScope s_told_clause) (by decide +kernel))
        (fun _ _ _ _ _ => pg_tup rfl (pgs_cons (pg_name (i := 5) sc_td.nd rfl (Or.inl rfl)) (pgs_cons (pg_name (i := 6) sc_td.nd rfl (Or.inl rfl)) pgs_nil)))
        (fun _ _ _ _ _ => pts_nil)
        (fun _ _ _ _ _ => pe_tup (pa_cons (pv 5) (pa_cons (pe_call GE (hr.mono (by decide)) (by rfl) mE kE bE .nil pass0 (pa_cons (pv 6) (pa_cons (pv 2) pa_nil))) pa_nil))))))), ?_⟩
    refine q_asgLP (elp_once rfl g) fun p us G hp eG hpG hus => ?_
    have hlg := dd_lgs g.lg
    have hlen : (dd [] ls).length ≤ 40 := by have h1 : (dd [] ls).length ≤ 0 + ls.length := dd_len ls []; have h2 := g.len; omega
    refine q_called (vs := lvars (dd [] ls)) (fun H1 e Q q => ⟨.ref p, rfl, p, us, dd [] ls, rfl, e _ _ hpG, hus.ext e, hlg, hlen, q⟩) (lvars_nodup _) hv (fun _ _ => rfl) (fun _ _ => rfl) (fun _ _ => rfl) fun d J hd eJ hsv => ?_
    refine s_retLP (lcO (fun _ => true) (fun l => litO (subL (called 0 (lvars (dd [] ls))) l)) (ev_var rfl) (eJ _ _ hpG) (hus.ext eJ) (by omega) (fun _ _ => rfl) (fun l y G2 hl e2 hy => et_yes) (fun l y G2 hl e2 hy _ => eo_tup (eao_cons (eo_var rfl rfl) (eao_cons (fun H1 e Q q => ⟨y, rfl, .ref d, rfl, y, d, l.2, _, rfl, hy.ext e, (hsv.ext e2).ext e, by have := (hlg l hl).dp; omega, by decide, by have := (hlg l hl).sz; omega, fun r G3 e3 h3 => q r G3 e3 h3⟩) eao_nil)) (by show 2 ≤ 1000; decide)) fun l _ => ⟨lit_noL _, lit_nod _⟩) fun q xs H1 hq e1 h1 hx => ?_
    refine k q xs H1 (fresh_back (eG.trans eJ) hq) ((eG.trans eJ).trans e1) h1 ?_
    unfold toldL
    rw [List.map_map]
    rw [List.filter_eq_self.mpr (fun _ _ => rfl)] at hx
    exact hx
end
section
variable {X : Cx} {sp : Sp} {k : Nat} {f : Addr} {fd : FuncData} {x : Str} {e : Expr} {te : TE} {p pos kpos : Pos} {kw : Str}
theorem pe_kw1 (F : FnOk X.prog X.w X.K X.mg X.base CX0 k f fd [kw] sp) (hr : Room k X.A) (hx : Gl X x) (hm : X.mg x = some (.ref f)) (hk : PySem.W.keepIn X.K (.ref f) = true) (hb : KBinds X.K fd [kw] [kw] (fun us ws => us ++ ws) (fun vs zs => vs ++ zs)) (he : PE X e te) (hdb : (x == ("__debug__" : Str)) = false := by decide) :
    PE X (.Call (.Name x p) [] [{ arg := some kw, value := e, pos := kpos }] pos) (tCall sp [] E0 (tCons te tNil)) := by
  refine ⟨fun pins s σ H Q I h => ?_⟩
  refine wpAny_Call_Name_kw (ld_glob I hx hm ?_ hdb)
  refine PySem.W.callWith_KW0 (h₀ := X.base) I.ok.mod.kin hk rfl ?_ rfl
  refine thn ((pk_cons he pk_nil).run pos pins s σ H _ I h) fun ws s1 ⟨zs, H1, I1, rz, q1⟩ => ⟨I1.kIn, ?_⟩
  have q1 : sp (zs ++ []) H1 Q E0 := q1
  rw [List.append_nil] at q1
  exact run_fnk (vs := []) (us := []) (ks := [kw]) F hr hb pass0 I1 .nil rz q1
end
section
variable {P : Program} {w : World} {K : PySem.W.Frag} {mg : Str → Option Value} {base : Heap}
theorem kb_of {x : Str} {st : Stmt} {f : Addr} {fd : FuncData} {kw : Str} (F : FnP K x st f fd) (h : ∀ (kV doc pm : Value) (an : Option Addr) (cdv ct : Value) (u : Value), bindArgs (PySem.W.fnOf x x (defArgs st) (defBody st) (defScope st) .none kV doc pm an cdv ct) ⟨[], [(kw, u)]⟩ = pure [(kw, u)])
    (h1 : ∀ (kV doc pm : Value) (an : Option Addr) (cdv ct : Value) (u : Value), bindArgs (PySem.W.fnOf x x (defArgs st) (defBody st) (defScope st) .none kV doc pm an cdv ct) ⟨[u], []⟩ = pure [(kw, u)]) : KBinds K fd [kw] [kw] (fun us ws => us ++ ws) (fun vs zs => vs ++ zs) := by
  obtain ⟨oc, od, dV, kV, doc, pm, an, cd, ct, osl, rfl, lk, hcd, hdv, hkv⟩ := F.ex
  have ed : dV = .none := by
    rcases hdv with ⟨_, h⟩ | ⟨h, _⟩
    · exact h
    · exact absurd rfl h
  subst ed
  refine ⟨fun s us ws hK hl => ?_, fun a b => ?_⟩
  · match us, ws, hl with
    | [], [u], _ =>
      intro M A E Q q
      show wpAny M A (bindArgs _ ⟨[], [(kw, u)]⟩) Q E s
      rw [h]
      exact wpAny_pure q
    | [u], [], _ =>
      intro M A E Q q
      show wpAny M A (bindArgs _ ⟨[u], []⟩) Q E s
      rw [h1]
      exact wpAny_pure q
    | [], [], hl => exact absurd hl (by simp)
    | [], _ :: _ :: _, hl => exact absurd hl (by simp)
    | _ :: _ :: _, _, hl => exact absurd hl (by simp)
    | [_], _ :: _, hl => exact absurd hl (by simp)
  · exact a.append b
theorem kb_trimmed {f : Addr} {fd : FuncData} (F : FnP K "trimmed" s_trimmed f fd) : KBinds K fd ["literals"] ["literals"] (fun us ws => us ++ ws) (fun vs zs => vs ++ zs) := kb_of F (fun _ _ _ _ _ _ _ => rfl) (fun _ _ _ _ _ _ _ => rfl)
theorem kb_told {f : Addr} {fd : FuncData} (F : FnP K "told_clause" s_told_clause f fd) : KBinds K fd ["literals"] ["literals"] (fun us ws => us ++ ws) (fun vs zs => vs ++ zs) := kb_of F (fun _ _ _ _ _ _ _ => rfl) (fun _ _ _ _ _ _ _ => rfl)
theorem OkF.b {st : Stmt} {x : Str} {f : Addr} {fd : FuncData} (F : FnP K x st f fd) (h : ∀ (kV doc pm : Value) (an : Option Addr) (cdv ct : Value) (u : Value), bindArgs (PySem.W.fnOf x x (defArgs st) (defBody st) (defScope st) .none kV doc pm an cdv ct) ⟨[u], []⟩ = pure [(("literals" : Str), u)]) : L2.Binds K fd ["literals"] [] := F.bindsN fun kV doc pm an cdv ct us hl => match us, hl with | [u], _ => h kV doc pm an cdv ct u
end
end K17

set_option Elab.async false
set_option linter.all false
set_option maxRecDepth 100000
set_option maxHeartbeats 4000000
/-! _law_list_right. -/
namespace K17
open PySem PySem.Spec PyProof.Rows L2 Evl
abbrev nLr : List Str := ["_law_stream", "_law_names", "_law_some", "_law_passed", "_law_due", "_law_was", "_law_found", "_law_world", "_law_holds", "_law_thing"]
theorem sc_lr : FnScope nLr ["_law_stream", "_law_names", "_law_some"] (defScope s__law_list_right) := ⟨rfl, rfl, rfl, by decide +kernel, rfl, by decide +kernel, by decide +kernel⟩
def stR (i : Nat) : Stmt := (defBody s__law_list_right).getD i (.Pass ⟨0, 0, 0, 0⟩)
section
variable {P : Program} {w : World} {K : PySem.W.Frag} {mg : Str → Option Value} {base : Heap} {f c : Addr} {A : Around} {outer : List Env} {s : Shared} {HX : Hp}
abbrev XR (P : Program) (w : World) (K : PySem.W.Frag) (mg : Str → Option Value) (base : Heap) (f c : Addr) (A : Around) (outer : List Env) (s : Shared) (HX : Hp) : Cx := (cxOf CX0 P w K mg base nLr "_law_list_right" (defScope s__law_list_right) f (.ref c) A outer s HX E0).nox
theorem rp0 (T : T17 P w K mg base) (hr : Room 25 (XR P w K mg base f c A outer s HX).A) : PS (XR P w K mg base f c A outer s HX) (stR 0) (tPar 3 4 (tCons (tCall (spLz 14) [] E0 (tCons (tVar 0) (tCons (tVar 2) tNil))) (tCons (tCall spCs [] E0 (tCons (tVar 2) tNil)) tNil))) := by
  obtain ⟨fL, dL, GL, bL, kL, mL⟩ := (ok_loose2 T 14).ex
  obtain ⟨fS, dS, GS, bS, kS, mS⟩ := (ok_cshort T).ex
  exact ps_par (i := 3) (j := 4) rfl sc_lr.nd rfl rfl (by decide) rfl rfl (pa_cons (pe_call GL (hr.mono (by decide)) (by rfl) mL kL bL .nil pass0 (pa_cons (pv 0) (pa_cons (pv 2) pa_nil))) (pa_cons (pe_call GS (hr.mono (by decide)) (by rfl) mS kS bS .nil pass0 (pa_cons (pv 2) pa_nil)) pa_nil)) (by rfl)
theorem rp1 (T : T17 P w K mg base) (hr : Room 25 (XR P w K mg base f c A outer s HX).A) (hg : (XR P w K mg base f c A outer s HX).A.guards = some []) : PS (XR P w K mg base f c A outer s HX) (stR 1) (tPar 5 6 (tCons (tRpr K (tVar 3)) (tCons (tLst (tCons (tCall spTr [] E0 (tCons (tVar 3) tNil)) (tCons (tCall spTr [] E0 (tCons (tVar 2) tNil)) tNil))) tNil))) := by
  obtain ⟨fT, dT, GT, FT, kT, mT⟩ := (okF_trimmed T).ex
  have u := hr.un
  exact ps_par (i := 5) (j := 6) rfl sc_lr.nd rfl rfl (by decide) rfl rfl (pa_cons (pe_callB (call_repr hg (by omega)) (by rfl) T.repr PyProof.Rows.boot_repr (pa_cons (pv 3) pa_nil)) (pa_cons (pe_lst (pa_cons (pe_call GT (hr.mono (by decide)) (by rfl) mT kT (OkF.b FT fun _ _ _ _ _ _ _ => rfl) .nil pass0 (pa_cons (pv 3) pa_nil)) (pa_cons (pe_kw1 GT (hr.mono (by decide)) (by rfl) mT kT (kb_trimmed FT) (pv 2)) pa_nil))) pa_nil)) (by rfl)
theorem rp2 (T : T17 P w K mg base) (hr : Room 25 (XR P w K mg base f c A outer s HX).A) (hg : (XR P w K mg base f c A outer s HX).A.guards = some []) : PS (XR P w K mg base f c A outer s HX) (stR 2) (tIfS (tOr (tNot (tB (tCall (spSa 14) [] E0 (tCons (tVar 6) (tCons (tLst (tCons (tVar 4) (tCons (tVar 4) tNil))) tNil))))) (tOr (tNot (tB (tCall (spSa 14) [] E0 (tCons (tCall spTd [] E0 (tCons (tVar 3) tNil)) (tCons (tCall spCt [] E0 (tCons (tVar 2) tNil)) tNil))))) (tTest (tOp rNe (tRpr K (tVar 3)) (tVar 5))))) tNever tNext) := by
  obtain ⟨fS, dS, GS, bS, kS, mS⟩ := (ok_same T 14).ex
  obtain ⟨fT, dT, GT, FT, kT, mT⟩ := (okF_told T).ex
  obtain ⟨fC, dC, GC, bC, kC, mC⟩ := (ok_ctold T).ex
  have u := hr.un
  exact ps_if (PW.pt (pw_or (pt_not (pt_val (pe_call GS (hr.mono (by decide)) (by rfl) mS kS bS .nil pass0 (pa_cons (pv 6) (pa_cons (pe_lst (pa_cons (pv 4) (pa_cons (pv 4) pa_nil))) pa_nil)))))
    (pw_or (pt_not (pt_val (pe_call GS (hr.mono (by decide)) (by rfl) mS kS bS .nil pass0 (pa_cons (pe_call GT (hr.mono (by decide)) (by rfl) mT kT (OkF.b FT fun _ _ _ _ _ _ _ => rfl) .nil pass0 (pa_cons (pv 3) pa_nil)) (pa_cons (pe_call GC (hr.mono (by decide)) (by rfl) mC kC bC .nil pass0 (pa_cons (pv 2) pa_nil)) pa_nil)))))
    (pw_or1 (pt_cmpR op_ne (pe_callB (call_repr hg (by omega)) (by rfl) T.repr PyProof.Rows.boot_repr (pa_cons (pv 3) pa_nil)) (pv 5) (nomark _)))))) (pss_one ps_never) pss_nil
theorem rp3 (T : T17 P w K mg base) (hr : Room 25 (XR P w K mg base f c A outer s HX).A) : PS (XR P w K mg base f c A outer s HX) (stR 3) (tFor (iList K (tCall spSW [] E0 (tCons (tVar 0) (tCons (tVar 1) (tCons (tC (.int 3)) tNil))))) (gName 7)
    (tSeq (tAsg (tCall spHo [] E0 (tCons (tVar 7) (tCons (tVar 2) tNil))) (gName 8))
      (tSeq (tIfS (tIfT (tB (tNotN (tVar 4))) (tTest (tOp rNe (tCall spHo [] E0 (tCons (tVar 7) (tCons (tOp (rIxL K) (tVar 6) (tC (.int 0))) tNil))) (tVar 8))) (tNot (tB (tVar 8)))) tNever tNext)
        (tIfS (tTest (tOp rNe (tCall spHo [] E0 (tCons (tVar 7) (tCons (tCall spTd [] E0 (tCons (tVar 2) tNil)) tNil))) (tVar 8))) tNever tNext)))) := by
  obtain ⟨fS, dS, GS, bS, kS, mS⟩ := (ok_someW T).ex
  obtain ⟨fH, dH, GH, bH, kH, mH⟩ := (ok_holds T).ex
  obtain ⟨fT, dT, GT, FT, kT, mT⟩ := (okF_told T).ex
  exact ps_for PassesOwn.never rfl (pi_list (pe_call GS (hr.mono (by decide)) (by rfl) mS kS bS .nil pass0 (pa_cons (pv 0) (pa_cons (pv 1) (pa_cons pe_int pa_nil))))) (pg_name (i := 7) sc_lr.nd rfl (Or.inl rfl))
    (pss_cons (ps_set (i := 8) sc_lr.nd rfl (Or.inl rfl) (pe_call GH (hr.mono (by decide)) (by rfl) mH kH bH .nil pass0 (pa_cons (pv 7) (pa_cons (pv 2) pa_nil))))
    (pss_cons (ps_if (pt_ifExp (pt_cmp (pc_notN (pv 4))) (pt_cmpR op_ne (pe_call GH (hr.mono (by decide)) (by rfl) mH kH bH .nil pass0 (pa_cons (pv 7) (pa_cons (pe_ix ix_list (pv 6) pe_int (fun _ _ => rfl)) pa_nil))) (pv 8) (nomark _)) (pt_not (pt_val (pv 8)))) (pss_one ps_never) pss_nil)
    (pss_one (ps_if (pt_cmpR op_ne (pe_call GH (hr.mono (by decide)) (by rfl) mH kH bH .nil pass0 (pa_cons (pv 7) (pa_cons (pe_kw1 GT (hr.mono (by decide)) (by rfl) mT kT (kb_told FT) (pv 2)) pa_nil))) (pv 8) (nomark _)) (pss_one ps_never) pss_nil))))
theorem rp4 (T : T17 P w K mg base) (hr : Room 25 (XR P w K mg base f c A outer s HX).A) : PS (XR P w K mg base f c A outer s HX) (stR 4) (tFor (iList K (tIf (tB (tNotN (tVar 4))) (tSl (rSlL K) (tVar 6) (tPart (tC (.int 1))) tNoPart) (tLst tNil))) (gName 9) (tDrop (tBM K "list" rAppend (tVar 9) (tCons (tC (.str "late")) tNil)))) :=
  ps_for PassesOwn.never rfl (pi_list (pe_ifExp (pt_cmp (pc_notN (pv 4))) (pe_slice sl_list (pv 6) (po_some pe_int) po_none) (pe_lst pa_nil))) (pg_name (i := 9) sc_lr.nd rfl (Or.inl rfl))
    (pss_one (ps_expr (pe_bm PySem.F.plainAttrs_list PySem.F.slot_list_append PySem.F.type_list_append mt_append (pv 9) (pa_cons pe_str pa_nil))))
theorem rp5 (T : T17 P w K mg base) (hr : Room 25 (XR P w K mg base f c A outer s HX).A) : PS (XR P w K mg base f c A outer s HX) (stR 5) (tRet (tCall (spSa 14) [] E0 (tCons (tLst (tCons (tCall spTr [] E0 (tCons (tVar 3) tNil)) (tCons (tCall spTd [] E0 (tCons (tCall spCt [] E0 (tCons (tVar 2) tNil)) tNil)) tNil))) (tCons (tLst (tCons (tVar 4) (tCons (tCall spCt [] E0 (tCons (tVar 2) tNil)) tNil))) tNil)))) := by
  obtain ⟨fS, dS, GS, bS, kS, mS⟩ := (ok_same T 14).ex
  obtain ⟨fT, dT, GT, bT, kT, mT⟩ := (ok_trimmed T).ex
  obtain ⟨fO, dO, GO, bO, kO, mO⟩ := (ok_told T).ex
  obtain ⟨fC, dC, GC, bC, kC, mC⟩ := (ok_ctold T).ex
  exact ps_ret (pe_call GS (hr.mono (by decide)) (by rfl) mS kS bS .nil pass0 (pa_cons (pe_lst (pa_cons (pe_call GT (hr.mono (by decide)) (by rfl) mT kT bT .nil pass0 (pa_cons (pv 3) pa_nil)) (pa_cons (pe_call GO (hr.mono (by decide)) (by rfl) mO kO bO .nil pass0 (pa_cons (pe_call GC (hr.mono (by decide)) (by rfl) mC kC bC .nil pass0 (pa_cons (pv 2) pa_nil)) pa_nil)) pa_nil)))
    (pa_cons (pe_lst (pa_cons (pv 4) (pa_cons (pe_call GC (hr.mono (by decide)) (by rfl) mC kC bC .nil pass0 (pa_cons (pv 2) pa_nil)) pa_nil))) pa_nil)))
end
end K17

set_option Elab.async false
set_option linter.all false
set_option maxRecDepth 100000
set_option maxHeartbeats 4000000
/-! _law_list_right: what each statement does. -/
namespace K17
open PySem PySem.Spec PyProof.Rows L2 Evl
mutual
theorem O.dq_dp : ∀ o : O, o.dq ≤ o.dp + 2
  | .non => Nat.zero_le _ | .bl _ => Nat.zero_le _ | .int _ => Nat.zero_le _ | .str _ => Nat.zero_le _ | .dct => Nat.le_refl _
  | .lst xs => by have := O.dqs_dp xs; show O.dqs xs + 1 ≤ O.dps xs + 1 + 2; omega
  | .tup xs => by have := O.dqs_dp xs; show O.dqs xs + 1 ≤ O.dps xs + 1 + 2; omega
theorem O.dqs_dp : ∀ xs : List O, O.dqs xs ≤ O.dps xs + 2
  | [] => Nat.zero_le _
  | x :: xs => by have h1 := O.dq_dp x; have h2 := O.dqs_dp xs; show max x.dq (O.dqs xs) ≤ max x.dp (O.dps xs) + 2; omega
end
def dueO : Option (List Lit) → O
  | none => .non
  | some ms => .lst (ms.map litO)
abbrev Lis (nm : Nms) (ls : List Lit) : Prop := ∀ l ∈ ls, Li nm l
theorem lits_dp9 {ls : List Lit} (h : Lgs ls) : O.dps (ls.map litO) ≤ 9 := dps_all.mpr fun o ho => by
  obtain ⟨l, hl, rfl⟩ := List.mem_map.mp ho
  exact lit_dp (h l hl)
theorem lits_szs {ls : List Lit} {m : Nat} (h : ∀ l ∈ ls, l.2.sz ≤ m) : O.szs (ls.map litO) ≤ (m + 2) * ls.length := by
  induction ls with
  | nil => exact Nat.zero_le _
  | cons l ls ih =>
    have h1 := h l List.mem_cons_self
    have h2 := ih fun x hx => h x (List.mem_cons_of_mem _ hx)
    show (litO l).sz + O.szs (ls.map litO) ≤ (m + 2) * (ls.length + 1)
    rw [lit_sz, Nat.mul_succ]
    omega
theorem dueO_ok {T : Option (List Lit)} (h : ∀ ms, T = some ms → Lgs ms ∧ ms.length ≤ 40) : (dueO T).dp ≤ 10 ∧ (dueO T).sz ≤ 9000 := by
  cases T with
  | none => exact ⟨Nat.zero_le _, by decide⟩
  | some ms =>
    obtain ⟨a, b⟩ := h ms rfl
    have h1 := lits_dp9 a
    have h2 := lits_szs (ls := ms) (m := 200) fun l hl => (a l hl).sz
    have h3 : (200 + 2) * ms.length ≤ (200 + 2) * 40 := Nat.mul_le_mul_left _ b
    refine ⟨Nat.succ_le_succ h1, ?_⟩
    show O.szs (ms.map litO) + 1 ≤ 9000
    omega
theorem trim_ok {ls : List Lit} (h : Lgs ls) (hl : ls.length ≤ 40) : ∀ ms, trimL ls = some ms → Lgs ms ∧ ms.length ≤ 40 := fun ms e => by
  refine ⟨fun l hl => h l (trim_sub e l hl), ?_⟩
  unfold trimL at e
  split at e
  · cases e
  · obtain rfl := Option.some.inj e
    have h1 := List.length_filter_le (fun l : Lit => !same l.2) (dd [] ls)
    have h2 : (dd [] ls).length ≤ 0 + ls.length := dd_len ls []
    omega
theorem v4_len {nm : Nms} {ls : List Lit} (h : Lis nm ls) : (lvars ls).length ≤ 4 := by
  have hs : ∀ s ∈ lvars ls, s ∈ V4 := by
    intro s hs
    have hs := lvars_mem.mp hs
    induction ls with
    | nil => cases hs
    | cons m ms ih =>
      rcases List.mem_append.mp (show s ∈ m.2.allv ++ av ms from hs) with q | q
      · exact (h m List.mem_cons_self).vr s q
      · exact ih (fun l hl => h l (List.mem_cons_of_mem _ hl)) (lvars_mem.mpr q) q
  have key : ∀ (as bs : List Str), as.Nodup → (∀ s ∈ as, s ∈ bs) → as.length ≤ bs.length := by
    intro as
    induction as with
    | nil => intro bs _ _; exact Nat.zero_le _
    | cons a as ih =>
      intro bs nd h
      obtain ⟨h1, h2⟩ := List.nodup_cons.mp nd
      have ha := h a List.mem_cons_self
      have := ih (bs.erase a) h2 fun s hs => (List.mem_erase_of_ne (fun z : s = a => h1 (z ▸ hs))).mpr (h s (List.mem_cons_of_mem _ hs))
      rw [List.length_erase_of_mem ha] at this
      have := List.length_pos_of_mem ha
      rw [List.length_cons]
      omega
  exact key _ V4 (lvars_nodup ls) hs
theorem given_lst {G : Hp} {a : Addr} {us : List V} {ls : List Lit} (ha : G a = some (.lst us)) (h : OVs G us (ls.map litO)) (hg : Lgs ls) (hl : ls.length ≤ 40) : Given G (.ref a) (.lst (ls.map litO)) ls := by
  have h2 := lits_szs (ls := ls) (m := 200) fun l hl => (hg l hl).sz
  have h3 : (200 + 2) * ls.length ≤ (200 + 2) * 40 := Nat.mul_le_mul_left _ hl
  refine ⟨⟨a, us, rfl, ha, h⟩, ?_, ?_, lits_nod ls, hg, hl⟩
  · show O.tup (O.strips (ls.map litO)) = _
    rw [strips_id (lits_noL ls)]
  · show O.szs (ls.map litO) + 1 ≤ 9000
    omega
section
variable {K : PySem.W.Frag} {H G : Hp} {σ : L2.St} {te ta tb : TE} {tt t1 t2 : TT} {v : V}
theorem et_ifT {b r : Bool} (h : EvT tt σ H b) (h1 : b = true → EvT t1 σ H r) (h2 : b = false → EvT t2 σ H r) : EvT (tIfT tt t1 t2) σ H r := fun H1 e Q q =>
  h H1 e _ fun H2 e2 => by
    cases b with
    | true => exact h1 rfl H2 (e.trans e2) _ fun H3 e3 => q H3 (e2.trans e3)
    | false => exact h2 rfl H2 (e.trans e2) _ fun H3 e3 => q H3 (e2.trans e3)
/-- what trimmed or the law's own answers with -/
def DueP (H : Hp) (T : Option (List Lit)) (v : V) (G : Hp) : Prop := OV G v (dueO T) ∧ ∀ a, v = .ref a → H a = none
theorem optL_of {Q : VK} : ∀ {T : Option (List Lit)}, (∀ v G, Ex H G → DueP H T v G → Q v G) → optL H Q T
  | none, k => fun G e => k .non G e ⟨rfl, fun a z => nomatch z⟩
  | some ms, k => fun p us G hp e hG h => k (.ref p) G e ⟨⟨p, us, rfl, hG, h⟩, fun a z => by rw [← V.ref.inj z]; exact hp⟩
theorem ep_trim {o : O} {ls : List Lit} (h : Ev te σ H v) (g : Given H v o ls) : EvP (tCall spTr [] E0 (tCons te tNil)) σ H (fun u G => DueP H (trimL ls) u G) := fun H1 e Q q =>
  h H1 e _ fun H2 e2 => ⟨v, o, ls, rfl, g.ext (e.trans e2), optL_of fun u G eG d => q u G (e2.trans eG) ⟨d.1, fun a z => fresh_back (e.trans e2) (d.2 a z)⟩⟩
theorem ep_told {o : O} {ls : List Lit} (h : Ev te σ H v) (g : Given H v o ls) (hl : (lvars ls).length ≤ 19) : EvLP (tCall spTd [] E0 (tCons te tNil)) σ H (fun us G => OVs G us ((toldL ls).map litO)) := fun H1 e Q q =>
  h H1 e _ fun H2 e2 => ⟨v, o, ls, rfl, g.ext (e.trans e2), by rw [lvars_dd]; exact hl, fun p us G hp eG hG hu => q p us G (fresh_back e2 hp) (e2.trans eG) hG hu⟩
theorem ep_ctold {a : Addr} {us : List V} {ls : List Lit} (h : Ev te σ H (.ref a)) (ha : H a = some (.lst us)) (hov : OVs H us (ls.map litO)) (hg : Lgs ls) (hlen : ls.length ≤ 40) (hl : (lvars ls).length ≤ 4) : EvLP (tCall spCt [] E0 (tCons te tNil)) σ H (fun us G => OVs G us ((ctold ls).map litO)) := fun H1 e Q q =>
  h H1 e _ fun H2 e2 => ⟨a, us, ls, rfl, (e.trans e2) _ _ ha, hov.ext (e.trans e2), hg, hlen, by omega, told_lgs hg hl, fun p us G hp eG hG hu => q p us G (fresh_back e2 hp) (e2.trans eG) hG hu⟩
theorem eo_LP {os : List O} (h : EvLP te σ H (fun us G => OVs G us os)) : EvO te σ H (.lst os) := fun H1 e Q q => h H1 e _ fun p us H2 hp e2 h2 hu => q (.ref p) H2 e2 ⟨p, us, rfl, h2, hu⟩
theorem eo_P {o : O} {P : V → Hp → Prop} (h : EvP te σ H P) (k : ∀ v G, P v G → OV G v o) : EvO te σ H o := fun H1 e Q q => h H1 e _ fun v H2 e2 hv => q v H2 e2 (k v H2 hv)
theorem ev_same {o : O} (h1 : EvO ta σ H o) (h2 : EvO tb σ H o) (hd : o.dp ≤ 11) (hs : o.sz ≤ 40000) : Ev (tCall (spSa 14) [] E0 (tCons ta (tCons tb tNil))) σ H (.bl true) := fun H1 e Q q =>
  h1 H1 e _ fun u H2 e2 hu => h2 H2 (e.trans e2) _ fun v H3 e3 hv => ⟨u, v, o, rfl, hu.ext e3, hv, by have := O.dq_dp o; omega, by decide, hs, fun G eG => q G ((e2.trans e3).trans eG)⟩
theorem ev_holds {wv : V} {a : Addr} {us : List V} {nm : Nms} {w : PW} {ls : List Lit} (h1 : Ev ta σ H wv) (h2 : Ev tb σ H (.ref a)) (hw : WdV H wv w) (hok : WOK nm w) (ha : H a = some (.lst us)) (hov : OVs H us (ls.map litO)) (hg : Lgs ls) (hlen : ls.length ≤ 40) (haw : ∀ l ∈ ls, Aw nm l.2) (hl : (lvars ls).length ≤ 4) : Ev (tCall spHo [] E0 (tCons ta (tCons tb tNil))) σ H (.bl (hold w ls)) := fun H1 e Q q =>
  h1 H1 e _ fun H2 e2 => h2 H2 (e.trans e2) _ fun H3 e3 => ⟨wv, a, us, nm, w, ls, rfl, hw.ext ((e.trans e2).trans e3), hok, ((e.trans e2).trans e3) _ _ ha, hov.ext ((e.trans e2).trans e3), hg, hlen, haw, hl, fun G eG => q G ((e2.trans e3).trans eG)⟩
theorem ev_holdsP {wv : V} {nm : Nms} {w : PW} {ls : List Lit} (h1 : Ev ta σ H wv) (h2 : EvLP tb σ H (fun us G => OVs G us (ls.map litO))) (hw : WdV H wv w) (hok : WOK nm w) (hg : Lgs ls) (hlen : ls.length ≤ 40) (haw : ∀ l ∈ ls, Aw nm l.2) (hl : (lvars ls).length ≤ 4) : Ev (tCall spHo [] E0 (tCons ta (tCons tb tNil))) σ H (.bl (hold w ls)) := fun H1 e Q q =>
  h1 H1 e _ fun H2 e2 => h2 H2 (e.trans e2) _ fun p us H3 hp e3 h3 hu => ⟨wv, p, us, nm, w, ls, rfl, hw.ext ((e.trans e2).trans e3), hok, h3, hu, hg, hlen, haw, hl, fun G eG => q G ((e2.trans e3).trans eG)⟩
end
end K17

set_option Elab.async false
set_option linter.all false
set_option maxRecDepth 100000
set_option maxHeartbeats 4000000
/-! _law_list_right. -/
namespace K17
open PySem PySem.Spec PyProof.Rows L2 Evl
def spLr : Sp := fun vs H Q _ => ∃ (p q a : Addr) (nv : V) (n : Int) (nm : Nms) (us : List V) (ls : List Lit), vs = [.ref p, nv, .ref a] ∧ Spr H p q n ∧ n < 40000 ∧ NmV H p q nv nm ∧ H a = some (.lst us) ∧ a ≠ p ∧ a ≠ q ∧ OVs H us (ls.map litO) ∧ Lis nm ls ∧ ls.length ≤ 5 ∧
  ∀ (G : Hp) (n' : Int), Spr G p q n' → n' ≤ n + 2200 → Q (.bl true) G
section
variable {P : Program} {w : World} {K : PySem.W.Frag} {mg : Str → Option Value} {base : Heap}
theorem spr_hx {H : Hp} {p q : Addr} {n : Int} (S : Spr H p q n) : Tx H (Hx (PQ p q) H) := by
  obtain ⟨sx, sy, s1, s2⟩ := S.lst
  refine tx_hx ?_
  rintro b (rfl | rfl) xs e
  · rw [s1] at e; cases e
  · rw [s2] at e; cases e
theorem lits_wd {ls : List Lit} (h : Lgs ls) : O.wds (ls.map litO) = true := by
  induction ls with
  | nil => rfl
  | cons l ls ih =>
    show ((litO l).wd && O.wds (ls.map litO)) = true
    rw [lit_wd (h l List.mem_cons_self), ih fun m hm => h m (List.mem_cons_of_mem _ hm)]
    rfl
theorem due_go {p q : Addr} {n : Int} {T : Option (List Lit)} {v : V} {G G' : Hp} (h : OV G v (dueO T)) (hn : ∀ a, v = .ref a → a ≠ p ∧ a ≠ q) (S : Spr G p q n) (B : But p q G G') : OV G' v (dueO T) := by
  cases T with
  | none => exact h
  | some ms =>
    obtain ⟨x, xs, rfl, hx, hxs⟩ := h
    obtain ⟨n1, n2⟩ := hn x rfl
    exact ⟨x, xs, rfl, B _ _ n1 n2 hx, OVs.tx (S.tx B) (lits_noL ms) (lits_nod ms) hxs⟩
theorem ep_toldP {σ : L2.St} {H : Hp} {te : TE} {ms : List Lit} (h : EvLP te σ H (fun us G => OVs G us (ms.map litO))) (hg : Lgs ms) (hlen : ms.length ≤ 40) (hl : (lvars ms).length ≤ 19) : EvLP (tCall spTd [] E0 (tCons te tNil)) σ H (fun us G => OVs G us ((toldL ms).map litO)) := fun H1 e Q q =>
  h H1 e _ fun p us H2 hp e2 h2 hu => ⟨.ref p, _, ms, rfl, given_lst h2 hu hg hlen, by rw [lvars_dd]; exact hl, fun p2 us2 G hp2 eG hG hu2 => q p2 us2 G (fresh_back e2 hp2) (e2.trans eG) hG hu2⟩
theorem ok_right (T : T17 P w K mg base) {fd : FuncData} (F : FnP K "_law_list_right" s__law_list_right (He.ga K "_law_list_right") fd) : FnG P w K mg base 26 (He.ga K "_law_list_right") fd ["_law_stream", "_law_names", "_law_some"] spLr := by
  refine FnG.of F sc_lr (fun vs H Q E h => ?_) (fun c _ A outer s H vs Q hg hr h => ?_)
  · obtain ⟨p, q, a, nv, n, nm, us, ls, rfl, _⟩ := h
    rfl
  obtain ⟨p, q, a, nv, n, nm, us, ls, rfl, S, hn, hnm, ha, ap, aq, hov, hli, hlen, k⟩ := h
  refine ⟨_, PSs.nox (pss_cons (rp0 (f := He.ga K "_law_list_right") (c := c) (outer := outer) (s := s) (HX := H) T hr) (pss_cons (rp1 (f := He.ga K "_law_list_right") (c := c) (outer := outer) (s := s) (HX := H) T hr hg) (pss_cons (rp2 (f := He.ga K "_law_list_right") (c := c) (outer := outer) (s := s) (HX := H) T hr hg) (pss_cons (rp3 (f := He.ga K "_law_list_right") (c := c) (outer := outer) (s := s) (HX := H) T hr) (pss_cons (rp4 (f := He.ga K "_law_list_right") (c := c) (outer := outer) (s := s) (HX := H) T hr) (pss_one (rp5 (f := He.ga K "_law_list_right") (c := c) (outer := outer) (s := s) (HX := H) T hr))))))), ?_⟩
  have hlg : Lgs ls := fun l hl => (hli l hl).lg
  have haw : ∀ l ∈ ls, Aw nm l.2 := fun l hl => (hli l hl).aw
  have hv4 := v4_len hli
  have hl40 : ls.length ≤ 40 := by omega
  have hsz := lits_szs (ls := ls) (m := 20) fun l hl => (hli l hl).sz
  have hsz2 : (20 + 2) * ls.length ≤ (20 + 2) * 5 := Nat.mul_le_mul_left _ hlen
  have hdp := lits_dp9 hlg
  have htk := trim_ok hlg hl40
  obtain ⟨hd1, hd2⟩ := dueO_ok htk
  obtain ⟨sx, sy, sp, sq⟩ := S.lst
  -- the literals passed, loosely; what is due
  refine ⟨_, rfl, _, rfl, p, q, .ref a, n, .lst (ls.map litO), rfl, S, by show n + ((O.szs (ls.map litO) + 1 : Nat) : Int) ≤ 90000; omega, ⟨a, us, rfl, hx_of (by rintro (h | h); exact ap h; exact aq h) lst_tbl ha, OVs.tx (spr_hx S) (lits_noL ls) (lits_nod ls) hov⟩, by show O.dps (ls.map litO) + 1 < 14; omega, by show O.szs (ls.map litO) + 1 ≤ 9000; omega, fun pv G1 n1 o' S1 hn1 B1 hpv hst => ?_⟩
  have hn1 : n1 ≤ n + ((O.szs (ls.map litO) + 1 : Nat) : Int) := hn1
  have ha1 := B1 _ _ ap aq ha
  have hov1 : OVs G1 us (ls.map litO) := OVs.tx (S.tx B1) (lits_noL ls) (lits_nod ls) hov
  refine ⟨_, rfl, a, us, ls, rfl, ha1, hov1, hlg, hl40, optL_of fun dv Ga ea hdue => ⟨_, _, rfl, ?_⟩⟩
  have est : O.strip (.lst (ls.map litO)) = .tup (ls.map litO) := by
    show O.tup (O.strips (ls.map litO)) = _
    rw [strips_id (lits_noL ls)]
  rw [est] at hst
  have Sa := S1.ext ea
  have Ba : But p q H Ga := B1.trans (But.of ea)
  have haa := ea _ _ ha1
  have hova := hov1.ext ea
  have m0 : ∀ b, PQ p q b → Old H b := by
    rintro b (rfl | rfl)
    · exact ⟨_, sp⟩
    · exact ⟨_, sq⟩
  have hpva : OV (Hx (PQ p q) Ga) pv o' := (hpv.ext (hx_mono m0)).ext (Go.of ea : Go (PQ p q) G1 Ga).ex
  have hsz' : o'.sz = O.szs (ls.map litO) + 1 := by rw [← strip_szz o', hst]; rfl
  have hdp' : o'.dp = O.dps (ls.map litO) + 1 := by rw [← strip_dp o', hst]; rfl
  have hwd' : o'.wd = true := by
    rw [← strip_wd o', hst]
    exact lits_wd hlg
  have hnd' : o'.nod = true := by
    rw [← strip_nod o', hst]
    exact lits_nod ls
  have hlt' : (o'.isLst || (o'.isTup || o'.isStr)) = true := by
    cases o' with
    | lst xs => rfl
    | tup xs => rfl
    | _ => cases hst
  have passed : ∀ G, But p q Ga G → Given G pv o' ls := fun G B => ⟨(hpva.ext (go_pq B).ex).ext hx_ex, hst, by omega, hnd', hlg, hl40⟩
  have somev : ∀ G, But p q Ga G → G a = some (.lst us) ∧ OVs G us (ls.map litO) := fun G B => ⟨B _ _ ap aq haa, OVs.tx (Sa.tx B) (lits_noL ls) (lits_nod ls) hova⟩
  have duev : ∀ G, But p q Ga G → OV G dv (dueO (trimL ls)) := by
    intro G B
    revert hdue
    cases trimL ls with
    | none => exact fun h => h.1
    | some ms =>
      rintro ⟨⟨x, xs, rfl, hx, hxs⟩, hf⟩
      have nx := S1.nep (hf x rfl)
      exact ⟨x, xs, rfl, B _ _ nx.1 nx.2 hx, OVs.tx (Sa.tx B) (lits_noL ms) (lits_nod ms) hxs⟩
  have rpr : ∀ G (σ : L2.St), But p q Ga G → σ[3]? = some (some pv) → Ev (tRpr K (tVar 3)) σ G (.str o'.py.shown) := fun G σ B h3 => ev_repr (ev_var h3) (passed G B).ov hwd' (by omega) (by omega) hlt'
  have told_ : ∀ G (σ : L2.St) (te : TE), But p q Ga G → Ev te σ G (.ref a) → EvLP (tCall spCt [] E0 (tCons te tNil)) σ G (fun us G => OVs G us ((ctold ls).map litO)) := fun G σ te B h => ep_ctold h (somev G B).1 (somev G B).2 hlg hl40 hv4
  -- was, found
  refine rpr Ga _ (But.refl) rfl Ga (Ex.refl _) _ fun G2 e2 => ?_
  refine ep_trim (ev_var rfl) (passed G2 (But.of e2)) G2 (Ex.refl _) _ fun v1 G3 e3 hv1 => ?_
  refine ep_trim (v := .ref a) (ev_var rfl) (given_lst (somev G3 ((But.of e2).trans (But.of e3))).1 (somev G3 ((But.of e2).trans (But.of e3))).2 hlg hl40) G3 (Ex.refl _) _ fun v2 G4 e4 hv2 => ⟨by show 2 ≤ sizeLine; decide, fun fl hfl => ⟨_, _, rfl, ?_⟩⟩
  have e5 : Ex G4 (upd G4 fl (.lst [v1, v2])) := Ex.new hfl
  have hfl5 : (upd G4 fl (.lst [v1, v2])) fl = some (.lst [v1, v2]) := upd_same
  have ea5 := ((e2.trans e3).trans e4).trans e5
  have hflA : Ga fl = none := fresh_back ((e2.trans e3).trans e4) hfl
  revert hfl5 e5 ea5
  generalize upd G4 fl (.lst [v1, v2]) = G5
  intro e5 hfl5 ea5
  have h15 : OV G5 v1 (dueO (trimL ls)) := (hv1.1.ext e4).ext e5
  have h25 : OV G5 v2 (dueO (trimL ls)) := hv2.1.ext e5
  have B5 : But p q Ga G5 := But.of ea5
  have S5 := Sa.ext ea5
  -- the comparisons
  refine q_when (b := false) (et_or (a := false) (b := false) (et_not (a := true) (et_B (ev_same (o := .lst [dueO (trimL ls), dueO (trimL ls)]) (eo_var rfl ⟨fl, _, rfl, hfl5, .cons h15 (.cons h25 .nil)⟩) (eo_lst (eao_cons (eo_var rfl (duev G5 B5)) (eao_cons (eo_var rfl (duev G5 B5)) eao_nil)) (by show 2 ≤ 1000; decide)) (by show max _ (max _ 0) + 1 ≤ 11; omega) (by show _ + (_ + 0) + 1 ≤ 40000; omega)))) fun _ => et_or (a := false) (b := false) (et_not (a := true) (et_B (ev_same (o := .lst ((ctold ls).map litO)) (eo_LP ?_) (eo_LP (told_ G5 _ _ B5 (ev_var rfl))) ?_ ?_))) fun _ => et_is (et_test (ev_op (rpr G5 _ B5 rfl) (ev_var rfl) (rv_ne rfl))) (by simp)) (fun z => nomatch z) fun _ G6 e6 => ?_
  · have := ep_told (σ := [some (.ref p), some nv, some (.ref a), some pv, some dv, some (.str o'.py.shown), some (.ref fl), none, none, none]) (H := G5) (te := tVar 3) (ev_var rfl) (passed G5 B5) (by omega)
    rw [told_ctold (by omega)] at this
    exact this
  · exact Nat.succ_le_succ (Nat.le_trans (lits_dp9 (ctold_lgs hlg hv4)) (by decide))
  · have h7 := lits_szs (ls := ctold ls) (m := 200) fun l hl => (ctold_lgs hlg hv4 l hl).sz
    have h8 := ctold_len ls
    have h9 : (200 + 2) * (ctold ls).length ≤ (200 + 2) * 5 := Nat.mul_le_mul_left _ (by omega)
    show O.szs ((ctold ls).map litO) + 1 ≤ 40000
    omega
  have nv1 : ∀ x, v1 = .ref x → x ≠ p ∧ x ≠ q := fun x z => (Sa.ext e2).nep (hv1.2 x z)
  have nv2 : ∀ x, v2 = .ref x → x ≠ p ∧ x ≠ q := fun x z => ((Sa.ext e2).ext e3).nep (hv2.2 x z)
  have nfl : fl ≠ p ∧ fl ≠ q := Sa.nep hflA
  have S6 := S5.ext e6
  have B6 : But p q Ga G6 := B5.trans (But.of e6)
  have hsome : (!decide (dv = .non)) = (trimL ls).isSome := by
    have := hdue.1
    revert this
    cases trimL ls with
    | none => intro h; rw [show dv = .non from h]; rfl
    | some ms =>
      rintro ⟨x, xs, rfl, _⟩
      rfl
  -- the worlds
  refine ⟨_, rfl, _, rfl, p, q, nv, n1, nm, rfl, S6, by omega, hnm.go (Ba.trans B6), fun cw ws n7 G7 hcw hG7 hwl hws S7 hn7 B7 => ⟨cw, rfl, ⟨_, sq_of hG7⟩, ?_⟩⟩
  have B67 : But p q Ga G7 := B6.trans B7
  have B57 : But p q G5 G7 := (But.of e6).trans B7
  refine for_list (xs := ws) (fun i σ' G => ∃ o7 o8 : Option V, σ' = [some (.ref p), some nv, some (.ref a), some pv, some dv, some (.str o'.py.shown), some (.ref fl), o7, o8, none] ∧ Ex G7 G) ?_ ?_ ?_ ?_
  · exact ⟨_, _, rfl, Ex.refl _⟩
  · rintro i σ' G hi ⟨_, _, _, e⟩
    exact sq_of (e _ _ hG7)
  · rintro i x σ' G hx ⟨o7, o8, rfl, e⟩
    obtain ⟨w0, hw, hok⟩ := hws x (List.mem_of_getElem? hx)
    have hwG : WdV G x w0 := (hw.ext hx_ex).ext e
    have BG : But p q Ga G := B67.trans (But.of e)
    have n1' := hok.n1
    have n3' := hok.n3
    refine q_asg (v := .bl (hold w0 ls)) (ev_holds (ev_var rfl) (ev_var rfl) hwG hok (somev G BG).1 (somev G BG).2 hlg hl40 haw hv4) fun G8 e8 => ?_
    have B8 : But p q Ga G8 := BG.trans (But.of e8)
    have B58 : But p q G5 G8 := (B57.trans (But.of e)).trans (But.of e8)
    refine q_when (b := false) (et_ifT (b := (trimL ls).isSome) (et_B (ev_notN (ev_var rfl) hsome)) (fun hb => ?_) (fun hb => ?_)) (fun z => nomatch z) fun _ G9 e9 => ?_
    · cases hT : trimL ls with
      | none => rw [hT] at hb; cases hb
      | some ms =>
        have h1 := due_go h15 nv1 S5 B58
        rw [hT] at h1
        obtain ⟨x1, xs1, ex1, hx1, hxs1⟩ := h1
        obtain ⟨m1, m2⟩ := htk ms hT
        refine et_is (et_test (ev_op (ev_holds (ev_var rfl) (ev_is (ev_op (ev_var rfl) ev_c (rv_ixL (sq_of (B58 _ _ nfl.1 nfl.2 hfl5)) (atI_nat (j := 0) rfl))) ex1) (hwG.ext e8) hok hx1 hxs1 m1 m2 (fun l hl => haw l (trim_sub hT l hl)) (Nat.le_trans (lvars_sub (trim_sub hT)) hv4)) (ev_var rfl) (rv_ne rfl))) ?_
        rw [hold_trim n1' n3' hv4 hT]
        simp
    · cases hT : trimL ls with
      | some ms => rw [hT] at hb; cases hb
      | none => exact et_not (a := true) (et_is (et_B (ev_var rfl)) (hold_none n1' n3' hv4 hT))
    · have B9 := B8.trans (But.of e9)
      refine s_when (b := false) (et_is (et_test (ev_op (z := .bl (!decide (V.bl (hold w0 (ctold ls)) = V.bl (hold w0 ls)))) (ev_holdsP (ls := ctold ls) (ev_var rfl) ?_ ((hwG.ext e8).ext e9) hok (ctold_lgs hlg hv4) (by have := ctold_len ls; omega) (ctold_aw haw) (by rw [ctold_vars (by omega)]; exact hv4)) (ev_var rfl) (rv_ne rfl))) ?_) (fun z => nomatch z) fun _ G10 e10 => ?_
      · have := ep_told (σ := [some (.ref p), some nv, some (.ref a), some pv, some dv, some (.str o'.py.shown), some (.ref fl), some x, some (.bl (hold w0 ls)), none]) (H := G9) (te := tVar 2) (v := .ref a) (ev_var rfl) (given_lst (somev G9 B9).1 (somev G9 B9).2 hlg hl40) (by omega)
        rw [told_ctold (by omega)] at this
        exact this
      · rw [hold_told n1' n3' hv4]
        simp
      · exact ⟨_, _, rfl, ((e.trans e8).trans e9).trans e10⟩
  -- 'late' put into one answer
  rintro σ' G ⟨o7, o8, rfl, e⟩
  have BG : But p q Ga G := B67.trans (But.of e)
  have B5G : But p q G5 G := B57.trans (But.of e)
  have SG := S7.ext e
  have hflG := B5G _ _ nfl.1 nfl.2 hfl5
  refine elp_if (P := fun xs _ => xs = if (trimL ls).isSome = true then [v2] else []) (b := (trimL ls).isSome) (et_B (ev_notN (ev_var rfl) hsome)) (fun hb => ?_) (fun hb => ?_) G (Ex.refl _) _ fun c5 xs G11 hc5 e11 h11 hxs => ⟨c5, rfl, ⟨_, sq_of h11⟩, ?_⟩
  · rw [if_pos hb]
    exact EvLP.of (el_cut (lo := some 1) (hi := none) (ev_var rfl) hflG (fun G Q h => ⟨1, rfl, h⟩) (fun G Q h => h))
  · rw [hb, if_neg (by decide)]
    exact EvLP.of (el_lst ea_nil (by show 0 ≤ 100000; decide))
  have nc5 := SG.nep hc5
  refine for_list (xs := xs) (fun i σ' G' => ∃ o9 : Option V, σ' = [some (.ref p), some nv, some (.ref a), some pv, some dv, some (.str o'.py.shown), some (.ref fl), o7, o8, o9] ∧ But p q Ga G' ∧ Spr G' p q n7 ∧ G' c5 = some (.lst xs) ∧ (i = 0 → OV G' v2 (dueO (trimL ls)))) ?_ ?_ ?_ ?_
  · exact ⟨none, rfl, BG.trans (But.of e11), SG.ext e11, h11, fun _ => (due_go h25 nv2 S5 B5G).ext e11⟩
  · rintro i σ' G' hi ⟨_, _, _, _, h, _⟩
    exact sq_of h
  · rintro i x σ' G' hx ⟨o9, rfl, BG', S', hc', h0⟩
    cases hT : trimL ls with
    | none =>
      rw [hT] at hxs
      rw [hxs] at hx
      cases hx
    | some ms =>
      rw [hT] at hxs
      have hxs : xs = [v2] := hxs
      have hi0 : i = 0 := by
        rw [hxs] at hx
        cases i with
        | zero => rfl
        | succ i => cases hx
      have hd := h0 hi0
      rw [hT] at hd
      obtain ⟨x2, ys, ex2, hx2, hys⟩ := hd
      have exx : x = v2 := by
        rw [hxs, hi0] at hx
        exact (Option.some.inj hx).symm
      rw [exx, ex2]
      have hx2a : Ga x2 = none := fresh_back (e2.trans e3) (hv2.2 x2 ex2)
      have nx2 := nv2 x2 ex2
      have hyl := hys.length
      rw [List.length_map] at hyl
      have := (htk ms hT).2
      have hc2 : c5 ≠ x2 := by
        intro z
        have h9 := due_go h25 nv2 S5 B5G
        rw [hT] at h9
        obtain ⟨x3, ys3, ex3, hx3, _⟩ := h9
        have : x3 = x2 := V.ref.inj (ex3.symm.trans ex2)
        rw [this, ← z, hc5] at hx3
        cases hx3
      refine s_app hx2 (ev_var rfl) ev_c (by omega) fun G12 e12 => ?_
      refine ⟨_, rfl, fun b o nb1 nb2 hb => ?_, (S'.ext e12).keep (fun o h => by rw [upd_ne nx2.1.symm]; exact h) (fun o h => by rw [upd_ne nx2.2.symm]; exact h), ?_, fun z => absurd z (Nat.succ_ne_zero _)⟩
      · rw [upd_ne (ne_of_none hb hx2a)]
        exact e12 _ _ (BG' _ _ nb1 nb2 hb)
      · rw [upd_ne hc2]
        exact e12 _ _ hc'
  -- the answer
  rintro σ' G' ⟨o9, rfl, BG', S', hc', _⟩
  have cl := ctold_lgs hlg hv4
  have clen : (ctold ls).length ≤ 40 := by have := ctold_len ls; omega
  have cv : (lvars (ctold ls)).length ≤ 19 := by rw [ctold_vars (by omega)]; omega
  have h7 := lits_szs (ls := ctold ls) (m := 200) fun l hl => (cl l hl).sz
  have h9 : (200 + 2) * (ctold ls).length ≤ (200 + 2) * 40 := Nat.mul_le_mul_left _ clen
  have h10 := lits_dp9 cl
  refine s_ret (ev_same (o := .lst [dueO (trimL ls), .lst ((ctold ls).map litO)]) (eo_lst (eao_cons (eo_P (ep_trim (ev_var rfl) (passed G' BG')) fun v G h => h.1) (eao_cons (eo_LP ?_) eao_nil)) (by show 2 ≤ 1000; decide)) (eo_lst (eao_cons (eo_var rfl (duev G' BG')) (eao_cons (eo_LP (told_ G' _ _ BG' (ev_var rfl))) eao_nil)) (by show 2 ≤ 1000; decide)) ?_ ?_) fun G13 e13 => k G13 n7 (S'.ext e13) (by omega)
  · have := ep_toldP (told_ G' [some (.ref p), some nv, some (.ref a), some pv, some dv, some (.str o'.py.shown), some (.ref fl), o7, o8, o9] (tVar 2) BG' (ev_var rfl)) cl clen cv
    rw [told_told (by omega)] at this
    exact this
  · show max _ (max (O.dps ((ctold ls).map litO) + 1) 0) + 1 ≤ 11
    omega
  · show _ + (O.szs ((ctold ls).map litO) + 1 + 0) + 1 ≤ 40000
    omega
end
end K17

set_option Elab.async false
set_option linter.all false
set_option maxRecDepth 100000
set_option maxHeartbeats 4000000
/-! The law's statements. -/
namespace K17
open PySem PySem.Spec PyProof.Rows L2 Evl
abbrev nLw : List Str := ["_law_script", "_law_stream", "_law_turn", "_law_names", "_law_p", "_law_q", "_law_same_here", "_law_found", "_law_turned", "_law_due"]
theorem sc_lw : FnScope nLw ["_law_script"] (defScope s_law) := ⟨rfl, rfl, rfl, by decide +kernel, rfl, by decide +kernel, by decide +kernel⟩
def stL (i : Nat) : Stmt := (defBody s_law).getD i (.Pass ⟨0, 0, 0, 0⟩)
def wp : W := .n "p" [.v "Y", .v "X"]
def wq : W := .n "p" [.v "X", .v "Y"]
def wsh : W := .n "=" [.n "c" [], .n "c" []]
def wt1 : W := .n "=" [.v "X", .n "c" []]
def wt2 : W := .n "=" [.n "c" [], .v "X"]
def trn : List Lit := [(true, wt1), (false, wt2)]
def lst12 : List Lit := [(true, .n "p" [.v "X1", .v "X2"]), (false, .n "p" [.v "X2", .v "X1"])]
section
variable {P : Program} {w : World} {K : PySem.W.Frag} {mg : Str → Option Value} {base : Heap} {f c : Addr} {A : Around} {outer : List Env} {s : Shared} {HX : Hp}
abbrev XL (P : Program) (w : World) (K : PySem.W.Frag) (mg : Str → Option Value) (base : Heap) (f c : Addr) (A : Around) (outer : List Env) (s : Shared) (HX : Hp) : Cx := (cxOf CX0 P w K mg base nLw "law" (defScope s_law) f (.ref c) A outer s HX E0).nox
abbrev tTri (K : PySem.W.Frag) (te : TE) : TE := tCall spTr [] E0 (tCons te tNil)
abbrev tLit (b : Bool) (i : Nat) : TE := tTup (tCons (tC (.bl b)) (tCons (tVar i) tNil))
theorem lp0 (T : T17 P w K mg base) (hr : Room 28 (XL P w K mg base f c A outer s HX).A) : PS (XL P w K mg base f c A outer s HX) (stL 0) (tAsg (tCall (spStart K) [] E0 (tCons (tVar 0) tNil)) (gName 1)) := by
  obtain ⟨fS, dS, GS, bS, kS, mS⟩ := (ok_start T).ex
  exact ps_set (i := 1) sc_lw.nd rfl (Or.inl rfl) (pe_call GS (hr.mono (by decide)) (by rfl) mS kS bS .nil pass0 (pa_cons (pv 0) pa_nil))
theorem lp1 (T : T17 P w K mg base) (hr : Room 28 (XL P w K mg base f c A outer s HX).A) (hg : (XL P w K mg base f c A outer s HX).A.guards = some []) : PS (XL P w K mg base f c A outer s HX) (stL 1) (tFor (iRng1 (tCons (tC (.int 14)) tNil)) (gName 2) (tSeq (tAsg (tCall spNm [] E0 (tCons (tVar 1) tNil)) (gName 3))
    (tIfS (tNot (tB (tCall spLr [] E0 (tCons (tVar 1) (tCons (tVar 3) (tCons (tCall spLi [] E0 (tCons (tVar 1) (tCons (tVar 3) tNil))) tNil)))))) tNever tNext))) := by
  obtain ⟨fN, dN', GN, bN, kN, mN⟩ := (ok_names T).ex
  obtain ⟨fI, dI, GI, bI, kI, mI⟩ := (ok_list T).ex
  obtain ⟨⟨fdR, FR⟩, mR⟩ := T.df 34 "_law_list_right" s__law_list_right rfl
  have GR := ok_right T FR
  have bR := FR.bindsN (ps := ["_law_stream", "_law_names", "_law_some"]) fun kV doc pm an cdv ct us hl => match us, hl with | [_, _, _], _ => rfl
  exact ps_for PassesOwn.never rfl (pi_range1 (by rfl) T.range (pa_cons pe_int pa_nil)) (pg_name (i := 2) sc_lw.nd rfl (Or.inl rfl))
    (pss_cons (ps_set (i := 3) sc_lw.nd rfl (Or.inl rfl) (pe_call GN (hr.mono (by decide)) (by rfl) mN kN bN .nil pass0 (pa_cons (pv 1) pa_nil)))
    (pss_one (ps_if (pt_not (pt_val (pe_callG GR hg (hr.mono (by decide)) (by rfl) mR FR.kp bR (pa_cons (pv 1) (pa_cons (pv 3) (pa_cons (pe_call GI (hr.mono (by decide)) (by rfl) mI kI bI .nil pass0 (pa_cons (pv 1) (pa_cons (pv 3) pa_nil))) pa_nil)))))) (pss_one ps_never) pss_nil)))
theorem lp2 : PS (XL P w K mg base f c A outer s HX) (stL 2) (tAsg (teO (.tup [wp.o, wq.o, wsh.o])) (gTup K 3 (gCons (gName 4) (gCons (gName 5) (gCons (gName 6) gNil))))) :=
  ps_asg (pe_as (t' := teO (.tup [wp.o, wq.o, wsh.o])) (pe_tup (pa_cons (pe_tup (pa_cons pe_str (pa_cons pe_str (pa_cons pe_str pa_nil)))) (pa_cons (pe_tup (pa_cons pe_str (pa_cons pe_str (pa_cons pe_str pa_nil)))) (pa_cons (pe_tup (pa_cons pe_str (pa_cons (pe_tup (pa_cons pe_str pa_nil)) (pa_cons (pe_tup (pa_cons pe_str pa_nil)) pa_nil)))) pa_nil)))) (by rfl)) (pg_tup rfl (pgs_cons (pg_name (i := 4) sc_lw.nd rfl (Or.inl rfl)) (pgs_cons (pg_name (i := 5) sc_lw.nd rfl (Or.inl rfl)) (pgs_cons (pg_name (i := 6) sc_lw.nd rfl (Or.inl rfl)) pgs_nil))))
theorem lp3 (T : T17 P w K mg base) (hr : Room 28 (XL P w K mg base f c A outer s HX).A) : PS (XL P w K mg base f c A outer s HX) (stL 3) (tAsg (tLst (tCons (tTri K (tLst tNil)) (tCons (tTri K (tLst (tCons (tLit true 4) (tCons (tLit false 6) (tCons (tLit true 4) tNil))))) (tCons (tTri K (tLst (tCons (tLit true 4) (tCons (tLit false 4) tNil)))) tNil)))) (gName 7)) := by
  obtain ⟨fT, dT, GT, bT, kT, mT⟩ := (ok_trimmed T).ex
  have tri : ∀ {e : Expr} {te : TE} {p pos : Pos} (h : PE (XL P w K mg base f c A outer s HX) e te) (hs : starEach [e] (XL P w K mg base f c A outer s HX).env = (false, eval e (XL P w K mg base f c A outer s HX).env) :: starEach [] (XL P w K mg base f c A outer s HX).env := by rfl), True := fun _ _ => trivial
  have lit : ∀ {b : Bool} {j : Nat}, True := trivial
  exact ps_set (i := 7) sc_lw.nd rfl (Or.inl rfl) (pe_lst (pa_cons (pe_call GT (hr.mono (by decide)) (by rfl) mT kT bT .nil pass0 (pa_cons (pe_lst pa_nil) pa_nil))
    (pa_cons (pe_call GT (hr.mono (by decide)) (by rfl) mT kT bT .nil pass0 (pa_cons (pe_lst (pa_cons (pe_tup (pa_cons pe_bl (pa_cons (pv 4) pa_nil))) (pa_cons (pe_tup (pa_cons pe_bl (pa_cons (pv 6) pa_nil))) (pa_cons (pe_tup (pa_cons pe_bl (pa_cons (pv 4) pa_nil))) pa_nil)))) pa_nil))
    (pa_cons (pe_call GT (hr.mono (by decide)) (by rfl) mT kT bT .nil pass0 (pa_cons (pe_lst (pa_cons (pe_tup (pa_cons pe_bl (pa_cons (pv 4) pa_nil))) (pa_cons (pe_tup (pa_cons pe_bl (pa_cons (pv 4) pa_nil))) pa_nil))) pa_nil)) pa_nil))))
theorem lp4 : PS (XL P w K mg base f c A outer s HX) (stL 4) (tAsg (teO (.lst (trn.map litO))) (gName 8)) :=
  ps_set (i := 8) sc_lw.nd rfl (Or.inl rfl) (pe_as (t' := teO (.lst (trn.map litO))) (pe_lst (pa_cons (pe_tup (pa_cons pe_bl (pa_cons (pe_tup (pa_cons pe_str (pa_cons pe_str (pa_cons (pe_tup (pa_cons pe_str pa_nil)) pa_nil)))) pa_nil))) (pa_cons (pe_tup (pa_cons pe_bl (pa_cons (pe_tup (pa_cons pe_str (pa_cons (pe_tup (pa_cons pe_str pa_nil)) (pa_cons pe_str pa_nil)))) pa_nil))) pa_nil))) (by rfl))
theorem lp5 (T : T17 P w K mg base) (hr : Room 28 (XL P w K mg base f c A outer s HX).A) : PS (XL P w K mg base f c A outer s HX) (stL 5) (tIfS (tNot (tB (tCall (spSa 14) [] E0 (tCons (tLst (tCons (tTri K (tVar 8)) (tCons (tTri K (tOp rRep (tSl (rSlL K) (tVar 8) tNoPart (tPart (tC (.int 1)))) (tC (.int 2)))) tNil))) (tCons (tLst (tCons (tVar 8) (tCons (tSl (rSlL K) (tVar 8) tNoPart (tPart (tC (.int 1)))) tNil))) tNil))))) tNever tNext) := by
  obtain ⟨fT, dT, GT, bT, kT, mT⟩ := (ok_trimmed T).ex
  obtain ⟨fS, dS, GS, bS, kS, mS⟩ := (ok_same T 14).ex
  exact ps_if (pt_not (pt_val (pe_call GS (hr.mono (by decide)) (by rfl) mS kS bS .nil pass0 (pa_cons (pe_lst (pa_cons (pe_call GT (hr.mono (by decide)) (by rfl) mT kT bT .nil pass0 (pa_cons (pv 8) pa_nil)) (pa_cons (pe_call GT (hr.mono (by decide)) (by rfl) mT kT bT .nil pass0 (pa_cons (pe_op op_rep (pe_slice sl_list (pv 8) po_none (po_some pe_int)) pe_int) pa_nil)) pa_nil)))
    (pa_cons (pe_lst (pa_cons (pv 8) (pa_cons (pe_slice sl_list (pv 8) po_none (po_some pe_int)) pa_nil))) pa_nil))))) (pss_one ps_never) pss_nil
theorem lp6 (T : T17 P w K mg base) (hr : Room 28 (XL P w K mg base f c A outer s HX).A) : PS (XL P w K mg base f c A outer s HX) (stL 6) (tDrop (tBM K "list" rExtend (tVar 7) (tCons (tLst (tCons (tTri K (tLst (tCons (tLit true 6) tNil))) (tCons (tTri K (tLst (tCons (tLit true 5) (tCons (tLit false 4) tNil)))) (tCons (tCall spTd [] E0 (tCons (tLst (tCons (tLit true 4) (tCons (tLit false 5) tNil))) tNil)) tNil)))) tNil))) := by
  obtain ⟨fT, dT, GT, bT, kT, mT⟩ := (ok_trimmed T).ex
  obtain ⟨fO, dO, GO, bO, kO, mO⟩ := (ok_told T).ex
  exact ps_expr (pe_bm PySem.F.plainAttrs_list PySem.F.slot_list_extend PySem.F.type_list_extend mt_extend (pv 7) (pa_cons (pe_lst (pa_cons (pe_call GT (hr.mono (by decide)) (by rfl) mT kT bT .nil pass0 (pa_cons (pe_lst (pa_cons (pe_tup (pa_cons pe_bl (pa_cons (pv 6) pa_nil))) pa_nil)) pa_nil))
    (pa_cons (pe_call GT (hr.mono (by decide)) (by rfl) mT kT bT .nil pass0 (pa_cons (pe_lst (pa_cons (pe_tup (pa_cons pe_bl (pa_cons (pv 5) pa_nil))) (pa_cons (pe_tup (pa_cons pe_bl (pa_cons (pv 4) pa_nil))) pa_nil))) pa_nil))
    (pa_cons (pe_call GO (hr.mono (by decide)) (by rfl) mO kO bO .nil pass0 (pa_cons (pe_lst (pa_cons (pe_tup (pa_cons pe_bl (pa_cons (pv 4) pa_nil))) (pa_cons (pe_tup (pa_cons pe_bl (pa_cons (pv 5) pa_nil))) pa_nil))) pa_nil)) pa_nil)))) pa_nil))
theorem lp7 : PS (XL P w K mg base f c A outer s HX) (stL 7) (tAsg (tLst (tCons (tLst tNil) (tCons (tLst (tCons (tLit true 4) tNil)) (tCons (tC .non) (tCons (tC .non) (tCons (tLst (tCons (tLit true 5) (tCons (tLit false 4) tNil))) tNil)))))) (gName 9)) :=
  ps_set (i := 9) sc_lw.nd rfl (Or.inl rfl) (pe_lst (pa_cons (pe_lst pa_nil) (pa_cons (pe_lst (pa_cons (pe_tup (pa_cons pe_bl (pa_cons (pv 4) pa_nil))) pa_nil)) (pa_cons pe_non (pa_cons pe_non (pa_cons (pe_lst (pa_cons (pe_tup (pa_cons pe_bl (pa_cons (pv 5) pa_nil))) (pa_cons (pe_tup (pa_cons pe_bl (pa_cons (pv 4) pa_nil))) pa_nil))) pa_nil))))))
theorem lp8 (T : T17 P w K mg base) (hr : Room 28 (XL P w K mg base f c A outer s HX).A) : PS (XL P w K mg base f c A outer s HX) (stL 8) (tRet (tCall (spSa 14) [] E0 (tCons (tVar 7) (tCons (tOp rCat (tVar 9) (teO (.lst [.lst (lst12.map litO)]))) tNil)))) := by
  obtain ⟨fS, dS, GS, bS, kS, mS⟩ := (ok_same T 14).ex
  exact ps_ret (pe_call GS (hr.mono (by decide)) (by rfl) mS kS bS .nil pass0 (pa_cons (pv 7) (pa_cons (pe_op op_cat (pv 9) (pe_as (t' := teO (.lst [.lst (lst12.map litO)])) (pe_lst (pa_cons (pe_lst (pa_cons (pe_tup (pa_cons pe_bl (pa_cons (pe_tup (pa_cons pe_str (pa_cons pe_str (pa_cons pe_str pa_nil)))) pa_nil))) (pa_cons (pe_tup (pa_cons pe_bl (pa_cons (pe_tup (pa_cons pe_str (pa_cons pe_str (pa_cons pe_str pa_nil)))) pa_nil))) pa_nil))) pa_nil)) (by rfl))) pa_nil)))
end
end K17

set_option Elab.async false
set_option linter.all false
set_option maxRecDepth 100000
set_option maxHeartbeats 4000000
/-! The law. -/
namespace K17
open PySem PySem.Spec PyProof.Rows L2 Evl
section
variable {K : PySem.W.Frag} {H G : Hp} {σ : L2.St} {te ta tb : TE} {v : V}
theorem ep_trimO {ls : List Lit} (h : EvO te σ H (.lst (ls.map litO))) (hg : Lgs ls) (hl : ls.length ≤ 40) : EvP (tTri K te) σ H (fun u G => DueP H (trimL ls) u G) := fun H1 e Q q =>
  h H1 e _ fun v H2 e2 hv => by
    obtain ⟨a, us, rfl, ha, hu⟩ := hv
    exact ⟨.ref a, _, ls, rfl, given_lst ha hu hg hl, optL_of fun u G eG d => q u G (e2.trans eG) ⟨d.1, fun a z => fresh_back (e.trans e2) (d.2 a z)⟩⟩
theorem eo_trimO {ls : List Lit} {T : Option (List Lit)} (h : EvO te σ H (.lst (ls.map litO))) (hg : Lgs ls) (hl : ls.length ≤ 40) (e : trimL ls = T) : EvO (tTri K te) σ H (dueO T) := by
  subst e
  exact eo_P (ep_trimO h hg hl) fun v G h => h.1
theorem eo_lit {b : Bool} {i : Nat} {z : W} {u : V} (h : σ[i]? = some (some u)) (hu : WV H u z) : EvO (tLit b i) σ H (litO (b, z)) := eo_tup (eao_cons eo_bl (eao_cons (eo_var h hu) eao_nil)) (by show 2 ≤ 1000; decide)
theorem ep_toldO {ms : List Lit} (h : EvO te σ H (.lst (ms.map litO))) (hg : Lgs ms) (hlen : ms.length ≤ 40) (hl : (lvars ms).length ≤ 19) : EvLP (tCall spTd [] E0 (tCons te tNil)) σ H (fun us G => OVs G us ((toldL ms).map litO)) := fun H1 e Q q =>
  h H1 e _ fun v H2 e2 hv => by
    obtain ⟨a, us, rfl, ha, hu⟩ := hv
    exact ⟨.ref a, _, ms, rfl, given_lst ha hu hg hlen, by rw [lvars_dd]; exact hl, fun p2 us2 G hp2 eG hG hu2 => q p2 us2 G (fresh_back e2 hp2) (e2.trans eG) hG hu2⟩
theorem eo_cut {a : Addr} {xs : List V} {os : List O} {k : Nat} (h : Ev te σ H (.ref a)) (hx : H a = some (.lst xs)) (hov : OVs H xs os) : EvO (tSl (rSlL K) te tNoPart (tPart (tC (.int (k : Nat))))) σ H (.lst (os.take k)) := fun H1 e Q q =>
  h H1 e _ fun H2 e2 => ⟨_, rfl, a, xs, rfl, sq_of (e2 _ _ (e _ _ hx)), fun p hp => q (.ref p) _ (e2.trans (Ex.new hp)) ⟨p, _, rfl, upd_same, by
    rw [cut_to]
    have : ∀ (k : Nat) (xs : List V) (os : List O) (G : Hp), OVs G xs os → OVs G (xs.take k) (os.take k) := by
      intro k
      induction k with
      | zero => intro xs os G _; rw [List.take_zero, List.take_zero]; exact .nil
      | succ k ih =>
        intro xs os G h
        cases os with
        | nil =>
          obtain rfl : xs = [] := h
          exact .nil
        | cons o os =>
          obtain ⟨x, us, rfl, h1, h2⟩ := h
          exact .cons h1 (ih us os G h2)
    exact this k _ _ _ (hov.ext ((e.trans e2).trans (Ex.new hp)))⟩⟩
theorem eo_rep2 {os : List O} (h : EvO te σ H (.lst os)) (hl : os.length ≤ 100) : EvO (tOp rRep te (tC (.int 2))) σ H (.lst (os ++ os)) := fun H1 e Q q =>
  h H1 e _ fun v H2 e2 hv => by
    obtain ⟨a, us, rfl, ha, hu⟩ := hv
    have := hu.length
    refine ⟨a, 2, us, rfl, rfl, ha, by decide, by decide, sz_of (by show us.length * 2 ≤ 100000; omega), fun p hp => q (.ref p) _ (e2.trans (Ex.new hp)) ⟨p, _, rfl, upd_same, ?_⟩⟩
    show OVs _ (us ++ (us ++ [])) (os ++ os)
    rw [List.append_nil]
    exact OVs.append (hu.ext (Ex.new hp)) (hu.ext (Ex.new hp))
theorem eo_cat {os1 os2 : List O} (h1 : EvO ta σ H (.lst os1)) (h2 : EvO tb σ H (.lst os2)) (hl : os1.length + os2.length ≤ 1000) : EvO (tOp rCat ta tb) σ H (.lst (os1 ++ os2)) := fun H1 e Q q =>
  h1 H1 e _ fun v H2 e2 hv => h2 H2 (e.trans e2) _ fun u H3 e3 hu => by
    obtain ⟨a, us, rfl, ha, ho⟩ := hv
    obtain ⟨b, ws, rfl, hb, hp⟩ := hu
    have n1 := ho.length
    have n2 := hp.length
    exact ⟨a, b, us, ws, rfl, rfl, e3 _ _ ha, hb, sz_of (by omega), fun p hp' => q (.ref p) _ ((e2.trans e3).trans (Ex.new hp')) ⟨p, _, rfl, upd_same, OVs.append (ho.ext (e3.trans (Ex.new hp'))) (hp.ext (Ex.new hp'))⟩⟩
end
section
variable {K : PySem.W.Frag} {H : Hp} {σ : L2.St} {te ta t1 t2 t3 : TE} {D : Ends} {tz : TS}
theorem q_asg3 {o1 o2 o3 : O} {i j l : Nat} (h : EvO te σ H (.tup [o1, o2, o3])) (k : ∀ x y z G, Ex H G → OV G x o1 → OV G y o2 → OV G z o3 → tz D (((σ.set i (some x)).set j (some y)).set l (some z)) G) : tSeq (tAsg te (gTup K 3 (gCons (gName i) (gCons (gName j) (gCons (gName l) gNil))))) tz D σ H :=
  h H (Ex.refl H) _ fun v G e hv => by
    obtain ⟨t, zs, rfl, ht, u4, z1, rfl, h4, u5, z2, rfl, h5, u6, z3, rfl, h6, hz⟩ := hv
    obtain rfl : z3 = [] := hz
    exact ⟨t, _, rfl, st_of ht, rfl, _, _, rfl, _, _, rfl, _, _, rfl, rfl, k u4 u5 u6 G e h4 h5 h6⟩
theorem q_asgO {o : O} {i : Nat} (h : EvO te σ H o) (k : ∀ v G, Ex H G → OV G v o → tz D (σ.set i (some v)) G) : tSeq (tAsg te (gName i)) tz D σ H := h H (Ex.refl H) _ k
theorem q_asgLs {ta : TA} {os : List O} {i : Nat} (h : EvAO ta σ H os) (n : os.length ≤ 1000) (k : ∀ vs G x, Ex H G → OVs G vs os → G x = none → tz D (σ.set i (some (.ref x))) (upd G x (.lst vs))) : tSeq (tAsg (tLst ta) (gName i)) tz D σ H :=
  h H (Ex.refl H) _ fun vs G e hv => ⟨sz_of (by rw [hv.length]; omega), fun x hx => k vs G x e hv hx⟩
theorem q_ext3 {x : Addr} {xs : List V} {P1 : V → Hp → Prop} {P2 : Hp → V → Hp → Prop} {P3 : List V → Hp → Prop} (ha : Ev ta σ H (.ref x)) (hx : H x = some (.lst xs)) (hl : xs.length ≤ 1000) (h1 : EvP t1 σ H P1) (h2 : ∀ G, Ex H G → EvP t2 σ G (P2 G)) (h3 : ∀ G, Ex H G → EvLP t3 σ G P3)
    (k : ∀ w1 w2 x9 us9 G5 G6 G7 G8 xe, Ex H G5 → Ex G5 G6 → P1 w1 G6 → Ex G6 G7 → P2 G6 w2 G7 → Ex G7 G8 → G7 x9 = none → G8 x9 = some (.lst us9) → P3 us9 G8 → G8 xe = none → tz D σ (upd (upd G8 xe (.lst [w1, w2, .ref x9])) x (.lst (xs ++ [w1, w2, .ref x9])))) :
    tSeq (tDrop (tBM K "list" rExtend ta (tCons (tLst (tCons t1 (tCons t2 (tCons t3 tNil)))) tNil))) tz D σ H :=
  ha H (Ex.refl H) _ fun G5 e5 => ⟨.inl ⟨rfl, _, sq_of (e5 _ _ hx)⟩, h1 G5 e5 _ fun w1 G6 e6 p1 => h2 G6 (e5.trans e6) G6 (Ex.refl _) _ fun w2 G7 e7 p2 => h3 G7 ((e5.trans e6).trans e7) G7 (Ex.refl _) _ fun x9 us9 G8 hx9 e8 h9 p3 => ⟨by show 3 ≤ sizeLine; decide, fun xe hxe =>
    ⟨x, xe, xs, [w1, w2, .ref x9], rfl, rfl, Ex.new hxe _ _ (e8 _ _ (e7 _ _ (e6 _ _ (e5 _ _ hx)))), upd_same, sz_of (by show xs.length + 3 ≤ 100000; omega), k w1 w2 x9 us9 G5 G6 G7 G8 xe e5 e6 p1 e7 p2 e8 hx9 h9 p3 hxe⟩⟩⟩
end
theorem due_mut {T : Option (List Lit)} {v : V} {G : Hp} {x : Addr} {xs : List V} {o : HO} (h : OV G v (dueO T)) (hn : v ≠ .ref x) (hx : G x = some (.lst xs)) : OV (upd G x o) v (dueO T) := by
  cases T with
  | none => exact h
  | some ms =>
    obtain ⟨y, ys, rfl, hy, hys⟩ := h
    exact ⟨y, ys, rfl, by rw [upd_ne (fun z => hn (by rw [z]))]; exact hy, OVs.tx (Tx.lst hx) (lits_noL ms) (lits_nod ms) hys⟩
theorem lg_p {b : Bool} {x y : Str} (hx : SS.contains x = true) (hy : SS.contains y = true) : Lg (b, .n "p" [.v x, .v y]) := ⟨⟨_, _, rfl, fun z => absurd z (by decide)⟩, by show max 0 (max 0 0) + 1 ≤ 8; decide, by show 1 + (1 + 0) + 2 ≤ 200; decide, by
  show (SS.contains "p" && (SS.contains x && (SS.contains y && true))) = true
  rw [hx, hy]
  decide +kernel⟩
theorem lg_wp (b : Bool) : Lg (b, wp) := lg_p (by decide +kernel) (by decide +kernel)
theorem lg_wq (b : Bool) : Lg (b, wq) := lg_p (by decide +kernel) (by decide +kernel)
theorem lg_e {b : Bool} {z y : W} (h1 : z.dp ≤ 1) (h2 : y.dp ≤ 1) (h3 : z.sz ≤ 2) (h4 : y.sz ≤ 2) (h5 : z.o.wd = true) (h6 : y.o.wd = true) : Lg (b, .n "=" [z, y]) := ⟨⟨_, _, rfl, fun _ => ⟨_, _, rfl⟩⟩, by show max z.dp (max y.dp 0) + 1 ≤ 8; omega, by show z.sz + (y.sz + 0) + 2 ≤ 200; omega, by
  show (SS.contains "=" && (z.o.wd && (y.o.wd && true))) = true
  rw [h5, h6]
  decide +kernel⟩
theorem lg_sh (b : Bool) : Lg (b, wsh) := lg_e (by decide) (by decide) (by decide) (by decide) (by decide +kernel) (by decide +kernel)
theorem lg_t1 (b : Bool) : Lg (b, wt1) := lg_e (by decide) (by decide) (by decide) (by decide) (by decide +kernel) (by decide +kernel)
theorem lg_t2 (b : Bool) : Lg (b, wt2) := lg_e (by decide) (by decide) (by decide) (by decide) (by decide +kernel) (by decide +kernel)
theorem lgs_cons {l : Lit} {ls : List Lit} (h : Lg l) (k : Lgs ls) : Lgs (l :: ls) := fun m hm => by
  rcases List.mem_cons.mp hm with rfl | hm
  · exact h
  · exact k m hm
theorem lgs_nil : Lgs [] := fun m hm => nomatch hm
theorem tr_a : trimL [] = some [] := by decide +kernel
theorem tr_b : trimL [(true, wp), (false, wsh), (true, wp)] = some [(true, wp)] := by decide +kernel
theorem tr_c : trimL [(true, wp), (false, wp)] = none := by decide +kernel
theorem tr_d : trimL trn = some trn := by decide +kernel
theorem tr_e : trimL [(true, wt1), (true, wt1)] = some [(true, wt1)] := by decide +kernel
theorem tr_f : trimL [(true, wsh)] = none := by decide +kernel
theorem tr_g : trimL [(true, wq), (false, wp)] = some [(true, wq), (false, wp)] := by decide +kernel
theorem td_h : toldL [(true, wp), (false, wq)] = lst12 := by decide +kernel
theorem td_v : (lvars [(true, wp), (false, wq)]).length ≤ 19 := by decide +kernel
def fndO : List O := [dueO (some []), dueO (some [(true, wp)]), dueO none, dueO none, dueO (some [(true, wq), (false, wp)]), dueO (some lst12)]
theorem fnd_ok : (O.lst fndO).dp ≤ 11 ∧ (O.lst fndO).sz ≤ 40000 := by decide +kernel
def spLaw (K : PySem.W.Frag) : Sp := fun vs H Q _ => ∃ (a : Addr) (ns : List Int), vs = [.ref a] ∧ SqL K H a (ns.map V.int) ∧ ∀ G, Q (.bl true) G
end K17

set_option Elab.async false
set_option linter.all false
set_option maxRecDepth 100000
set_option maxHeartbeats 2000000
/-! The law. -/
namespace K17
open PySem PySem.Spec PyProof.Rows L2 Evl
section
variable {P : Program} {w : World} {K : PySem.W.Frag} {mg : Str → Option Value} {base : Heap}
theorem ok_law (T : T17 P w K mg base) {fd : FuncData} (F : FnP K "law" s_law (He.ga K "law") fd) : FnG P w K mg base 29 (He.ga K "law") fd ["_law_script"] (spLaw K) := by
  refine FnG.of F sc_lw (fun vs H Q E h => ?_) (fun c _ A outer s H vs Q hg hr h => ?_)
  · obtain ⟨a, ns, rfl, _⟩ := h
    rfl
  obtain ⟨a, ns, rfl, hS, kf⟩ := h
  refine ⟨_, PSs.nox (pss_cons (lp0 (f := He.ga K "law") (c := c) (outer := outer) (s := s) (HX := H) T hr) (pss_cons (lp1 (f := He.ga K "law") (c := c) (outer := outer) (s := s) (HX := H) T hr hg) (pss_cons (lp2 (f := He.ga K "law") (c := c) (outer := outer) (s := s) (HX := H)) (pss_cons (lp3 (f := He.ga K "law") (c := c) (outer := outer) (s := s) (HX := H) T hr) (pss_cons (lp4 (f := He.ga K "law") (c := c) (outer := outer) (s := s) (HX := H)) (pss_cons (lp5 (f := He.ga K "law") (c := c) (outer := outer) (s := s) (HX := H) T hr) (pss_cons (lp6 (f := He.ga K "law") (c := c) (outer := outer) (s := s) (HX := H) T hr) (pss_cons (lp7 (f := He.ga K "law") (c := c) (outer := outer) (s := s) (HX := H)) (pss_one (lp8 (f := He.ga K "law") (c := c) (outer := outer) (s := s) (HX := H) T hr)))))))))), ?_⟩
  refine ⟨_, rfl, a, ns, rfl, hS, fun p q G0 np nq e0 S0 => ?_⟩
  refine q_forR (n := 14) (ev_is ev_c rfl) (by decide) (fun i σ' G => ∃ (o2 o3 : Option V) (n' : Int), σ' = [some (.ref a), some (.ref p), o2, o3, none, none, none, none, none, none] ∧ Spr G p q n' ∧ n' ≤ 2510 * (i : Int)) ?_ ?_ ?_
  · exact fun H1 e1 => ⟨none, none, 0, rfl, S0.ext e1, by omega⟩
  · rintro i σ' G hi ⟨o2, o3, n', rfl, S, hn⟩
    refine ⟨_, rfl, p, q, n', rfl, S, by omega, fun v nm G1 hnm S1 B1 hov => ?_⟩
    refine ⟨_, rfl, _, rfl, _, rfl, _, rfl, p, q, v, n' + 1 + 1, nm, rfl, S1, by omega, ⟨hov, hnm⟩, fun c us ls n2 G2 hc hG2 hls hli hlen S2 hn2 B2 => ⟨p, q, c, v, n2, nm, us, ls, rfl, S2, by omega, (NmV.go ⟨hov, hnm⟩ B2), hG2, (S1.nep hc).1, (S1.nep hc).2, hls, hli, hlen, fun G3 n3 S3 hn3 => ⟨true, rfl, ?_⟩⟩⟩
    exact ⟨_, _, n3, rfl, S3, by omega⟩
  rintro σ' G ⟨o2, o3, n', rfl, S, hn⟩
  refine q_asg3 (te := teO (.tup [wp.o, wq.o, wsh.o])) (eo_te (.tup [wp.o, wq.o, wsh.o]) (by decide +kernel)) fun u4 u5 u6 G1 e1 h4 h5 h6 => ?_
  -- found
  have a4 : ∀ {σ : L2.St} {G : Hp} {b : Bool}, Ex G1 G → σ[4]? = some (some u4) → EvO (tLit b 4) σ G (litO (b, wp)) := fun e h => eo_lit h (WV.ext e h4)
  have a5 : ∀ {σ : L2.St} {G : Hp} {b : Bool}, Ex G1 G → σ[5]? = some (some u5) → EvO (tLit b 5) σ G (litO (b, wq)) := fun e h => eo_lit h (WV.ext e h5)
  have a6 : ∀ {σ : L2.St} {G : Hp} {b : Bool}, Ex G1 G → σ[6]? = some (some u6) → EvO (tLit b 6) σ G (litO (b, wsh)) := fun e h => eo_lit h (WV.ext e h6)
  have l3 : EvAO (tCons (tTri K (tLst tNil)) (tCons (tTri K (tLst (tCons (tLit true 4) (tCons (tLit false 6) (tCons (tLit true 4) tNil))))) (tCons (tTri K (tLst (tCons (tLit true 4) (tCons (tLit false 4) tNil)))) tNil))) [some (.ref a), some (.ref p), o2, o3, some u4, some u5, some u6, none, none, none] G1 [dueO (some []), dueO (some [(true, wp)]), dueO none] :=
    eao_cons (eo_trimO (ls := []) (eo_lst eao_nil (by decide)) lgs_nil (by decide) tr_a) (eao_cons (eo_trimO (ls := [(true, wp), (false, wsh), (true, wp)]) (eo_lst (eao_cons (a4 (Ex.refl _) rfl) (eao_cons (a6 (Ex.refl _) rfl) (eao_cons (a4 (Ex.refl _) rfl) eao_nil))) (by decide)) (lgs_cons (lg_wp _) (lgs_cons (lg_sh _) (lgs_cons (lg_wp _) lgs_nil))) (by decide) tr_b) (eao_cons (eo_trimO (ls := [(true, wp), (false, wp)]) (eo_lst (eao_cons (a4 (Ex.refl _) rfl) (eao_cons (a4 (Ex.refl _) rfl) eao_nil)) (by decide)) (lgs_cons (lg_wp _) (lgs_cons (lg_wp _) lgs_nil)) (by decide) tr_c) eao_nil))
  refine q_asgLs l3 (by decide) fun vs3 G2 x7 e2 hv3 hx7 => ?_
  have e3 : Ex G2 (upd G2 x7 (.lst vs3)) := Ex.new hx7
  have h73 : (upd G2 x7 (.lst vs3)) x7 = some (.lst vs3) := upd_same
  revert e3 h73
  generalize upd G2 x7 (.lst vs3) = G3
  intro e3 h73
  have e13 := e2.trans e3
  -- turned
  refine q_asgO (te := teO (.lst (trn.map litO))) (eo_te (.lst (trn.map litO)) (by decide +kernel)) fun v8 G4 e4 hv8 => ?_
  obtain ⟨x8, ys, rfl, h8, hys⟩ := hv8
  have e14 := e13.trans e4
  have ltr : Lgs trn := lgs_cons (lg_t1 _) (lgs_cons (lg_t2 _) lgs_nil)
  refine q_when (b := false) (et_not (a := true) (et_B (ev_same (o := .lst [.lst (trn.map litO), .lst ([((true, wt1) : Lit)].map litO)]) (eo_lst (eao_cons (eo_trimO (T := some trn) (eo_var rfl ⟨x8, ys, rfl, h8, hys⟩) ltr (by decide) tr_d) (eao_cons (eo_trimO (ls := [(true, wt1), (true, wt1)]) (T := some [(true, wt1)]) (eo_rep2 (os := [litO (true, wt1)]) (eo_cut (k := 1) (os := trn.map litO) (ev_var rfl) h8 hys) (by decide)) (lgs_cons (lg_t1 _) (lgs_cons (lg_t1 _) lgs_nil)) (by decide) tr_e) eao_nil)) (by decide)) (eo_lst (eao_cons (eo_var rfl ⟨x8, ys, rfl, h8, hys⟩) (eao_cons (eo_cut (k := 1) (os := trn.map litO) (ev_var rfl) h8 hys) eao_nil)) (by decide)) (by decide +kernel) (by decide +kernel)))) (fun z => nomatch z) fun _ G5 e5 => ?_
  have e15 := e14.trans e5
  have h75 := (e4.trans e5) _ _ h73
  -- found.extend(..)
  have hv3l := hv3.length
  refine q_ext3 (ev_var rfl) h75 (by rw [hv3l]; decide) (ep_trimO (ls := [(true, wsh)]) (eo_lst (eao_cons (a6 e15 rfl) eao_nil) (by decide)) (lgs_cons (lg_sh _) lgs_nil) (by decide)) (fun G e => ep_trimO (ls := [(true, wq), (false, wp)]) (eo_lst (eao_cons (a5 (e15.trans e) rfl) (eao_cons (a4 (e15.trans e) rfl) eao_nil)) (by decide)) (lgs_cons (lg_wq _) (lgs_cons (lg_wp _) lgs_nil)) (by decide)) (fun G e => ep_toldO (ms := [(true, wp), (false, wq)]) (eo_lst (eao_cons (a4 (e15.trans e) rfl) (eao_cons (a5 (e15.trans e) rfl) eao_nil)) (by decide)) (lgs_cons (lg_wp _) (lgs_cons (lg_wq _) lgs_nil)) (by decide) td_v) fun w1 w2 x9 us9 G5' G6 G7 G8 xe e5' e6 hw1 e7 hw2 e8 hx9 h9 hu9 hxe => ?_
  have e67 := (e5'.trans e6).trans e7
  rw [td_h] at hu9
  rw [tr_f] at hw1
  rw [tr_g] at hw2
  have e9 : Ex G8 (upd G8 xe (.lst [w1, w2, .ref x9])) := Ex.new hxe
  have e59 := (e67.trans e8).trans e9
  have h79 := e59 _ _ h75
  have eM : Ex G2 (upd (upd G8 xe (.lst [w1, w2, .ref x9])) x7 (.lst (vs3 ++ [w1, w2, .ref x9]))) := Ex.mut (((e3.trans e4).trans e5).trans e59) hx7
  have n1 : w1 ≠ .ref x7 := fun z => by have := hw1.2 x7 z; rw [h75] at this; cases this
  have n2 : w2 ≠ .ref x7 := fun z => by have := hw2.2 x7 z; rw [(e5'.trans e6) _ _ h75] at this; cases this
  have n3 : V.ref x9 ≠ .ref x7 := fun z => by
    have z := V.ref.inj z
    rw [z, e67 _ _ h75] at hx9
    cases hx9
  have hfound : OVs (upd (upd G8 xe (.lst [w1, w2, .ref x9])) x7 (.lst (vs3 ++ [w1, w2, .ref x9]))) (vs3 ++ [w1, w2, .ref x9]) fndO :=
    OVs.append (os := [dueO (some []), dueO (some [(true, wp)]), dueO none]) (ps := [dueO none, dueO (some [(true, wq), (false, wp)]), dueO (some lst12)]) (hv3.ext eM) (.cons (due_mut (T := none) (hw1.1.ext ((e7.trans e8).trans e9)) n1 h79) (.cons (due_mut (hw2.1.ext (e8.trans e9)) n2 h79) (.cons (due_mut (T := some lst12) ⟨x9, us9, rfl, e9 _ _ h9, hu9.ext e9⟩ n3 h79) .nil)))
  have h7M : (upd (upd G8 xe (.lst [w1, w2, .ref x9])) x7 (.lst (vs3 ++ [w1, w2, .ref x9]))) x7 = some (.lst (vs3 ++ [w1, w2, .ref x9])) := upd_same
  have eM1 : Ex G1 (upd (upd G8 xe (.lst [w1, w2, .ref x9])) x7 (.lst (vs3 ++ [w1, w2, .ref x9]))) := e2.trans eM
  revert hfound h7M eM1
  generalize upd (upd G8 xe (.lst [w1, w2, .ref x9])) x7 (.lst (vs3 ++ [w1, w2, .ref x9])) = GM
  generalize vs3 ++ [w1, w2, .ref x9] = vsM
  intro hfound h7M eM1
  -- due
  refine q_asgO (eo_lst (os := [.lst ([].map litO), .lst ([((true, wp) : Lit)].map litO), .non, .non, .lst ([((true, wq) : Lit), (false, wp)].map litO)]) (eao_cons (eo_lst eao_nil (by decide)) (eao_cons (eo_lst (eao_cons (a4 eM1 rfl) eao_nil) (by decide)) (eao_cons eo_non (eao_cons eo_non (eao_cons (eo_lst (eao_cons (a5 eM1 rfl) (eao_cons (a4 eM1 rfl) eao_nil)) (by decide)) eao_nil))))) (by decide)) fun v9 G10 e10 hv9 => ?_
  refine s_ret (ev_same (o := .lst fndO) (eo_var rfl ⟨x7, vsM, rfl, e10 _ _ h7M, hfound.ext e10⟩) (eo_cat (os1 := [.lst ([].map litO), .lst ([((true, wp) : Lit)].map litO), .non, .non, .lst ([((true, wq) : Lit), (false, wp)].map litO)]) (os2 := [.lst (lst12.map litO)]) (eo_var rfl hv9) (eo_te _ (by decide +kernel)) (by decide)) fnd_ok.1 fnd_ok.2) fun G11 _ => kf G11
end
end K17

set_option Elab.async false
set_option linter.all false
set_option maxRecDepth 100000
set_option maxHeartbeats 4000000
/-! The law's call from the head's heap, where no guard stands; facts of the error classes. -/
namespace K17
open PySem PySem.Spec PyProof.Rows L2 LamX
/-- what is tracked at first: the tables of T, the script at a -/
def H00 (K : PySem.W.Frag) (a : Addr) (T : List Addr) (u : HO) : Hp := fun b => if b ∈ T then some (.tbl #[]) else if b = a ∧ K.lookup a = none then some u else none
section
variable {K : PySem.W.Frag} {a : Addr} {T : List Addr} {u : HO}
theorem h00_tab {b : Addr} (h : b ∈ T) : H00 K a T u b = some (.tbl #[]) := if_pos h
theorem h00_a (n : a ∉ T) (k : K.lookup a = none) : H00 K a T u a = some u := (if_neg n).trans (if_pos ⟨rfl, k⟩)
theorem h00_some {b : Addr} {o : HO} (h : H00 K a T u b = some o) : (b ∈ T ∧ o = .tbl #[]) ∨ (b = a ∧ K.lookup a = none ∧ o = u) := by
  unfold H00 at h
  by_cases c : b ∈ T
  · rw [if_pos c] at h
    exact .inl ⟨c, (Option.some.inj h).symm⟩
  · rw [if_neg c] at h
    by_cases c2 : b = a ∧ K.lookup a = none
    · rw [if_pos c2] at h
      exact .inr ⟨c2.1, c2.2, (Option.some.inj h).symm⟩
    · rw [if_neg c2] at h
      cases h
theorem h00_none {b : Addr} (h1 : b ∉ T) (h2 : b = a → K.lookup a ≠ none) : H00 K a T u b = none := by
  unfold H00
  rw [if_neg h1]
  exact if_neg fun z => h2 z.1 z.2
end
abbrev tabObj : Obj := { cls := .none, data := .fields #[] }
theorem law_callG {P : Program} {w : World} {K : PySem.W.Frag} {mg mb : Str → Option Value} {k : Nat} {fa a : Addr} {cs : List (Addr × Addr)} {fd : FuncData} {x : Str} {sp : Sp} {s : Shared} {vs : List Value} {ns : List Int}
    (KX : K.In s.heap) (hns : s.heap.Ns mainGlobals mg) (hb : s.heap.Ns builtinsNs mb) (hbb : ∀ x : Str, x ≠ "__name__" → mb x = bootBuiltins x) (hlim : s.heap.NoLimit) (hg : s.gens = #[])
    (hT : ∀ p ∈ cs, s.heap.get? p.2 = some tabObj) (nT : ∀ p ∈ cs, K.lookup p.2 = none) (C : ∀ p ∈ cs, PySem.W.CodeHd s.heap p.1 p.2)
    (hbm : ∃ (bm : Addr) (ob : Obj), mg "__builtins__" = some (.ref bm) ∧ bm ≠ builtinsNs ∧ s.heap.get? bm = some ob ∧ ob.cls = .type "module" ∧ ob.dict = some builtinsNs ∧ ob.data = .plain)
    (ha : s.heap.get? a = some { cls := .type "list", data := .seq vs.toArray }) (hi : IntsAre vs ns) (hl : ns.length ≤ sizeLine) (hr : Room k callerA)
    (F : ∀ base : Heap, K.In base → base.Ns mainGlobals mg → (∀ p ∈ cs, TabB base mg p.1 p.2) → FnG P w K mg base k fa fd [x] sp) (hbind : ∀ (s : Shared) (u : Value), BindsTo s fd ⟨[u], []⟩ [(x, u)])
    (hsp : ∀ H : Hp, (∀ p ∈ cs, H p.2 = some (.tbl #[])) → SqL K H a (ns.map V.int) → sp [.ref a] H (fun v _ => v = .bl true) E0) :
    codeAny (model P w) callerA (.call (.ref fa) ⟨[.ref a], []⟩) (fun r s' => r = .ok (.ret (.bool true)) ∧ OldK s.heap s'.heap ∧ s'.os = s.os ∧ AllBare s'.gens) s := by
  have rv := vals_ints hi
  let T := cs.map (·.2)
  let u : HO := .frz { cls := .type "list", data := .seq vs.toArray } (.lst (ns.map V.int))
  let H := H00 K a T u
  have tabAt : ∀ b ∈ T, s.heap.get? b = some tabObj := fun b hb => by
    obtain ⟨p, hp, e⟩ := List.mem_map.mp hb
    rw [← e]
    exact hT p hp
  have aT : a ∉ T := fun z => by
    have q := (tabAt a z).symm.trans ha
    cases q
  -- what is neither a list nor a table is not tracked
  have free : ∀ {b : Addr} {o : Obj}, s.heap.get? b = some o → (∀ its n, o.data ≠ .seq its n) → o.data ≠ .fields #[] → H b = none := fun {b o} e n1 n2 => h00_none (fun z => by
    rw [tabAt b z] at e
    exact n2 (by rw [← Option.some.inj e])) fun z => by
    rw [z, ha] at e
    exact (n1 _ _ (by rw [← Option.some.inj e])).elim
  have hok : HOk P w H s.heap := fun b o e => by
    rcases h00_some e with ⟨z, rfl⟩ | ⟨rfl, _, rfl⟩
    · exact tabAt b z
    · exact ⟨ha, by rw [List.length_map]; exact hl, vs, _, rv, ha⟩
  have hS : SqL K H a (ns.map V.int) := by
    cases q : K.lookup a with
    | none => exact .inl (.inr ⟨_, h00_a aT q⟩)
    | some o =>
      have e := (KX a o q).symm.trans ha
      rw [Option.some.inj e] at q
      exact .inr ⟨_, vs.toArray, _, q, rfl, rfl, rfl, by rw [List.size_toArray, hi.length]; exact hl, by simpa using rv⟩
  have up : ∀ {b : Addr} {o : Obj}, s.heap.get? b = some o → H b = none → (hidT s.heap H).get? b = some o := fun e n => hidT_get e n
  have ups : ∀ {b : Addr} {m : Str → Option Value}, s.heap.Ns b m → (hidT s.heap H).Ns b m := fun {b m} ⟨o, es, ep, e, d, r⟩ =>
    ⟨o, es, ep, up e (free e (fun _ _ z => by rw [d] at z; cases z) fun z => by rw [d] at z; cases z), d, r⟩
  have kin : K.In (hidT s.heap H) := fun b o e => up (KX b o e) (h00_none (fun z => by
    obtain ⟨p, hp, ep⟩ := List.mem_map.mp z
    rw [← ep, nT p hp] at e
    cases e) fun z => by
    rw [← z, e]
    exact Option.some_ne_none _)
  have md : L2.Mod K mg (hidT s.heap H) := ⟨kin, ups hns, ⟨mb, ups hb, hbb⟩, let ⟨mc, h1, h2⟩ := hlim; ⟨mc, ups h1, h2⟩⟩
  have TB : ∀ p ∈ cs, TabB (hidT s.heap H) mg p.1 p.2 := fun p hp => by
    refine ⟨?_, ?_, fun z => ?_⟩
    · obtain ⟨o, us, file, tf, flags, tg, inF, text, tt, e1, r1, r2, r3, r⟩ := C p hp
      refine ⟨o, us, file, tf, flags, tg, inF, text, tt, up e1 (free e1 (fun _ _ z => by rw [r2] at z; cases z) fun z => ?_), r1, r2, r3, r⟩
      rw [r2] at z
      cases z
      cases r3
    · obtain ⟨bm, ob, b1, b2, b3, b4, b5, b6⟩ := hbm
      refine ⟨bm, ob, b1, b2, fun q => ?_, fun q => ?_, up b3 (free b3 (fun _ _ z => by rw [b6] at z; cases z) fun z => by rw [b6] at z; cases z), b4, b5, b6⟩
      · obtain ⟨o, es, ep, e, d, _⟩ := hns
        rw [q, e] at b3
        cases b3
        rw [d] at b6
        cases b6
      · rw [q, hT p hp] at b3
        cases b3
        cases b6
    · obtain ⟨o, es, ep, e, d, _⟩ := hns
      rw [z, hT p hp] at e
      cases e
      cases d
  have e0 : Env0 P w K mg (hidT s.heap H) callerA [] s H := ⟨rfl, md, fun b o e => of_hidT e, Nat.le_of_eq (hidT_size _ _), trivial, (fun b hb => nomatch (show b ∈ ([] : List Addr) from hb)), hok, .of_eq hg⟩
  refine codeAny_mono ((F _ kin (ups hns) TB).run callerA [] s H ⟨[.ref a], []⟩ [.ref a] [.ref a] _ rfl hr e0 (hbind s (.ref a)) (.cons rfl .nil) (hsp H (fun p hp => h00_tab (List.mem_map.mpr ⟨p, hp, rfl⟩)) hS)) fun r s' h => ?_
  match r, h with
  | .error _, h => exact (show False from h).elim
  | .ok (.ret v), ⟨x, H', os, bare, un, hok', rx, q⟩ =>
    obtain rfl : x = .bl true := q
    obtain rfl : v = Value.bool true := rx
    have more : ∀ p ∈ cs, ∃ m : Array Value, s'.heap.get? p.2 = some { cls := .none, data := .fields m } := fun p hp => by
      obtain ⟨m, z⟩ := un.tbls p.2 #[] (h00_tab (List.mem_map.mpr ⟨p, hp, rfl⟩))
      exact ⟨_, hok' p.2 _ z⟩
    have stay : ∀ b o, b ∉ T → s.heap.get? b = some o → s'.heap.get? b = some o := fun b o nb e => by
      cases q : H b with
      | none => exact un.keep b o e q (fun z => nomatch (show b ∈ ([] : List Addr) from z)) (by simp)
      | some y =>
        rcases h00_some q with ⟨z, _⟩ | ⟨z, _, z2⟩
        · exact (nb z).elim
        · rw [z2] at q
          obtain ⟨f1, _⟩ := hok b _ q
          obtain ⟨f2, _⟩ := hok' b _ (un.frzs b _ _ q)
          rw [← Option.some.inj (f1.symm.trans e)]
          exact f2
    refine ⟨rfl, ⟨fun b o e => ?_, fun b o e => ?_⟩, os, bare⟩
    · by_cases hb : b ∈ T
      · obtain ⟨p, hp, rfl⟩ := List.mem_map.mp hb
        obtain ⟨m, hm⟩ := more p hp
        obtain rfl := Option.some.inj ((hT p hp).symm.trans e)
        exact .inr (.inl ⟨((C p hp).tab (hT p hp)).isCodeTable, rfl, #[], m, rfl, by rw [Array.empty_append]; exact hm⟩)
      · exact .inl (stay b o hb e)
    · by_cases hb : b ∈ T
      · obtain ⟨p, hp, rfl⟩ := List.mem_map.mp hb
        obtain ⟨m, hm⟩ := more p hp
        exact ⟨_, hm⟩
      · exact ⟨o, stay b o hb e⟩
end K17

set_option Elab.async false
set_option linter.all false
set_option maxRecDepth 100000
set_option maxHeartbeats 4000000
/-! The head's facts; the end. -/
namespace K17
open PySem PySem.Spec PyProof.Rows L2 LamX
section
variable {P : Program} {w : World} {K : PySem.W.Frag} {h h0 base : Heap} {mg : Str → Option Value}
theorem fa_glo {x : Str} (hx : x ∈ dnms) : He.Fa.glo x ∈ fa := List.mem_append.mpr (.inl (List.mem_map.mpr ⟨x, hx, rfl⟩))
theorem fa_free {x : Str} (hx : x ∈ fBl) : He.Fa.free x ∈ fa := List.mem_append.mpr (.inr (List.mem_map.mpr ⟨x, hx, rfl⟩))
theorem t17_of (X : K.In base) (G : base.Ns mainGlobals mg) (c : SaysA w h0 K) : T17 P w K mg base := {
  fr := fun x hx => He.free_ok X G (c.t.d.facts (fa_free hx))
  df := fun i x st hi => by
    obtain ⟨fd, F⟩ := c.t.d.def_ i hi
    have hm : (dN x st).name ∈ dnms := List.mem_map.mpr ⟨_, List.mem_of_getElem? hi, rfl⟩
    exact ⟨⟨fd, F⟩, He.glo_ok X G (c.t.d.facts (fa_glo hm))⟩ }
end
theorem tri_nil : TriplesOk (#[] : Array Value).toList := by trivial
abbrev lw : PySem.W.OpenLaw := PySem.Challenge.rw_eithershown_k17_whole_trimmed
abbrev dK := HandSHeadRun.topDef R.prog 39
theorem walkK : PySem.W.WalkO (PySem.W.view R.prog [39]) loose (PySem.W.XL (PySem.W.view R.prog [39]) []) hookA.says lw.row.toRowW dK [] (fun f vs => PySem.call f vs) := by
  refine Att.attach_callB (n := 63) rfl rfl fun w s₀ s₁ mg mb fa o pm cd doc a vs ns G Y ho hd hcd hmg hobj hints hlen hbits hg => ?_
  obtain ⟨K, KX, c⟩ := Y
  obtain ⟨fd, F⟩ := c.t.d.def_ 35 (d := dN "law" s_law) rfl
  have e : fa = He.ga K "law" := by
    have q := (He.glo_ok KX G.T.g (c.t.d.facts (fa_glo (x := "law") (List.mem_map.mpr ⟨dN "law" s_law, List.mem_of_getElem? (i := 35) rfl, rfl⟩)))).symm.trans hmg
    exact (Value.ref.inj (Option.some.inj q)).symm
  subst e
  refine law_callG (cs := []) (k := 29) (x := "_law_script") (sp := spLaw K) (fd := fd) KX G.T.g G.T.b G.T.builtins G.T.nolimit hg (fun p hp => nomatch hp) (fun p hp => nomatch hp) (fun p hp => nomatch hp) G.T.bmain hobj hints (Nat.le_trans hlen (by rw [sizeLine_eq]; decide)) ?_
    (fun base KB GB TB => ok_law (t17_of KB GB c) F) (fun s u => F.bindsA (ps := ["_law_script"]) (fun kV doc pm an cdv ct us hl => match us, hl with | [_], _ => rfl) s [u] rfl) (fun H hT hS => ⟨a, ns, rfl, hS, fun _ => rfl⟩)
  exact ⟨rfl, by decide +kernel, by decide +kernel⟩
end K17
open PySem PySem.W PySem.Calls PyProof.Rows
theorem PySem.Challenge.cw_eithershown_k17_whole_trimmed_holds : PySem.Challenge.rw_eithershown_k17_whole_trimmed.Holds := by
  w_on; o_law
  refine HandSHeadRun.head_any (r := OpenLaw.row PySem.Challenge.rw_eithershown_k17_whole_trimmed) (q := PySem.W.view K17.R.prog [39]) (H := K17.hookA) (ob := fun s => K17.obA (K17.gT s)) (M := 9000) (loose := K17.loose) (d := K17.dK) (kwd := []) (fun s => K17.obA_eq (HandSHeadRun.getT_eq s)) (by kernel_rfl) (fun s => by kernel_rfl) K17.run (by rfl) (by rfl) (by rfl) (by rfl) (by first | assumption | decide +kernel) (by decide +kernel) ⟨rfl, rfl, rfl, rfl, rfl, by decide +kernel⟩ ?hw K17.walkK
  case hw => w_witness2

