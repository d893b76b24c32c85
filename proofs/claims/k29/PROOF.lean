import PyProof.Rows.All
import Wide.All
import OpenK.AllK
import Wide.FinOn
import KE.KStateDown
import Lean
import HandS.ForMost
import HandS.ForExc
import HandS.Defaults
import HandS.Head0
import HandS.Head1
import HandS.Head2
import HandS.HeadEnd
import HandS.HeadHook1
import HandS.HeadHook2
import HandS.HeadHook3
import HandS.HeadHook4
import PySem.Challenge.RW_eithershown_k29_whole_no_row_down
import HandS.Evl
import HandS.IsInst
import HandS.More
import HandS.StrMore
import PyProof.AutoSeq1
import HandS.CallLocal
import HandS.Walk
import HandS.DictComp
import HandS.Zip
import KE.GoesMore
import HandS.Deep
import HandS.SetFor
import HandS.Wide
import HandS.TupAny
import HandS.WordsDict
import HandS.Style
import HandS.SortInts
set_option Elab.async false
set_option linter.all false
set_option maxRecDepth 100000
set_option maxHeartbeats 0
/-! The text by places, the head's looks. -/
namespace K29
open PySem PySem.Spec PyProof.Rows L2
def top (i : Nat) : Stmt := PySem.Challenge.pw_eithershown_k29_whole_no_row_down.main.body.getD i (.Pass ⟨0, 0, 0, 0⟩)
abbrev FnP (K : PySem.W.Frag) (x : Str) (st : Stmt) (f : Addr) (fd : FuncData) : Prop := FunD K x x (defArgs st) (defBody st) (defScope st) [] [] f fd
abbrev s_is_integer : Stmt := top 12
abbrev s_is_list : Stmt := top 13
abbrev s_is_pair : Stmt := top 14
abbrev s_is_spelled : Stmt := top 15
abbrev s_is_name : Stmt := top 16
abbrev s_is_variable : Stmt := top 17
abbrev s_bad_pair : Stmt := top 18
abbrev s_has_lists : Stmt := top 19
abbrev s_frozen : Stmt := top 20
abbrev s_has_places : Stmt := top 22
abbrev s_words_fit : Stmt := top 23
abbrev s_word_fits : Stmt := top 24
abbrev s_is_equality : Stmt := top 25
abbrev s_atom_fits : Stmt := top 26
abbrev s_is_any_word : Stmt := top 27
abbrev s_is_any_atom : Stmt := top 28
abbrev s_checked_word : Stmt := top 30
abbrev s_is_weight : Stmt := top 32
abbrev s_check_order : Stmt := top 34
abbrev s_first_unordered : Stmt := top 35
abbrev s_checked_ordered : Stmt := top 36
abbrev s_weigh : Stmt := top 37
abbrev s_is_above : Stmt := top 38
abbrev s_compare : Stmt := top 39
abbrev s__law_d_parts : Stmt := top 41
abbrev s__law_d_weight : Stmt := top 42
abbrev s__law_d_above : Stmt := top 43
abbrev s__law_start : Stmt := top 44
abbrev s__law_draw : Stmt := top 45
abbrev s__law_pick : Stmt := top 46
abbrev s__law_mixed : Stmt := top 47
abbrev s__law_same : Stmt := top 48
abbrev s__law_of_weight : Stmt := top 49
abbrev s__law_rows_of : Stmt := top 50
abbrev s__law_sorted : Stmt := top 51
abbrev s__law_down : Stmt := top 52
abbrev s_law : Stmt := top 53
abbrev c_ShowError : Stmt := top 1
abbrev c_BadOrder : Stmt := top 2
abbrev c_BadRows : Stmt := top 3
abbrev c_BadWord : Stmt := top 4
abbrev c_NotOrdered : Stmt := top 5
abbrev c_Order : Stmt := top 33
def dN (x : Str) (st : Stmt) : He.DefD := ⟨(x, none), x, x, defArgs st, defBody st, defScope st, [], []⟩
def fnA0 : List (He.DefD) := [dN "is_integer" s_is_integer, dN "is_list" s_is_list, dN "is_pair" s_is_pair, dN "is_spelled" s_is_spelled, dN "is_name" s_is_name, dN "is_variable" s_is_variable, dN "bad_pair" s_bad_pair, dN "has_lists" s_has_lists, dN "frozen" s_frozen, dN "has_places" s_has_places, dN "words_fit" s_words_fit, dN "word_fits" s_word_fits, dN "is_equality" s_is_equality, dN "atom_fits" s_atom_fits, dN "is_any_word" s_is_any_word, dN "is_any_atom" s_is_any_atom, dN "checked_word" s_checked_word, dN "is_weight" s_is_weight, dN "check_order" s_check_order, dN "first_unordered" s_first_unordered]
def fnA1 : List (He.DefD) := [dN "checked_ordered" s_checked_ordered, dN "weigh" s_weigh, dN "is_above" s_is_above, dN "compare" s_compare, dN "_law_d_parts" s__law_d_parts, dN "_law_d_weight" s__law_d_weight, dN "_law_d_above" s__law_d_above, dN "_law_start" s__law_start, dN "_law_draw" s__law_draw, dN "_law_pick" s__law_pick, dN "_law_mixed" s__law_mixed, dN "_law_same" s__law_same, dN "_law_of_weight" s__law_of_weight, dN "_law_rows_of" s__law_rows_of, dN "_law_sorted" s__law_sorted, dN "_law_down" s__law_down, dN "law" s_law]
def fnA : List (He.DefD) := fnA0 ++ fnA1
def loose0 : List (Str) := ["__name__", "ShowError", "BadOrder", "BadRows", "BadWord", "NotOrdered", "LETTERS", "CAPITALS", "LONGEST", "MOST_PLACES", "KEPT", "is_integer", "is_list", "is_pair", "is_spelled", "is_name", "is_variable", "bad_pair", "has_lists", "frozen", "has_places", "words_fit", "word_fits", "is_equality", "atom_fits", "is_any_word", "is_any_atom", "checked_word", "is_weight", "Order"]
def loose1 : List (Str) := ["check_order", "first_unordered", "checked_ordered", "weigh", "is_above", "compare", "_law_d_parts", "_law_d_weight", "_law_d_above", "_law_start", "_law_draw", "_law_pick", "_law_mixed", "_law_same", "_law_of_weight", "_law_rows_of", "_law_sorted", "_law_down"]
def loose : List (Str) := loose0 ++ loose1
/-- walking names to what they stand for -/
def nv (g : Addr → Option Obj) (x : Str) : Addr := He.ga (He.frG g [mainGlobals]) x
def codeOf (g : Addr → Option Obj) (f : Addr) : List Addr := match g f with
  | some ⟨_, _, .func fd, _⟩ => He.refV fd.code
  | _ => []
def objsC (g : Addr → Option Obj) (x : Str) : List Addr := match g (nv g x) with
  | some ⟨_, _, .cls cd, _⟩ => nv g x :: cd.ns :: (match PySem.W.nsIn (He.frG g [cd.ns]) cd.ns "__init__" with
    | some (some (.ref f)) => f :: codeOf g f
    | _ => [])
  | _ => []
def objsF (g : Addr → Option Obj) (x : Str) : List Addr := nv g x :: codeOf g (nv g x)
def dnms : List Str := fnA.map (·.name)
abbrev s_init : Stmt := inClass (top 33) 0
def dInit : He.DefD := ⟨("Order", some "__init__"), "__init__", "Order.__init__", defArgs s_init, defBody s_init, defScope s_init, [], []⟩
def asK (g : Addr → Option Obj) : List Addr := mainGlobals :: sysModules :: nv g "KEPT" :: objsC g "Order" ++ dnms.flatMap (objsF g)
def fK (g : Addr → Option Obj) : PySem.W.Frag := He.frG g (asK g)
def fn : List He.DefD := fnA ++ [dInit]
def faG : List He.Fa := dnms.map He.Fa.glo
def faF : List He.Fa := (["all", "any", "bool", "dict", "enumerate", "int", "isinstance", "len", "list", "range", "sorted", "str", "sum", "tuple", "zip"] : List Str).map He.Fa.free
def faO : List He.Fa := [.glo "KEPT", .glo "Order", .cls "Order", .noat "Order" "_rows", .noat "Order" "weights", .noat "Order" "ranks", .mkr "Order", .str "LETTERS" "abcdefghijklmnopqrstuvwxyz", .int "LONGEST" 8, .int "MOST_PLACES" 6]
def fa : List He.Fa := faG ++ (faF ++ faO)
def kept0 : List Str := ["all", "some", "not", "and", "or", "then", "iff", "false", "axiom", "goal", "function", "predicate", "things", "is", "by", "on", "of", "put", "for", "in", "at"]
def kept1 : List Str := ["into", "given", "instance", "resolve", "replace", "same", "alike", "either", "turned", "chained", "parts", "holds", "class", "fact", "cell", "clash", "size", "follows", "fails", "open", "watch", "hold"]
def kept : List Str := kept0 ++ kept1
def ts : List He.Tab := [(fun K => He.ga K "KEPT", kept)]
abbrev R : PySem.W.OpenRow := PySem.W.OpenLaw.row PySem.Challenge.rw_eithershown_k29_whole_no_row_down
def obA (K : PySem.W.Frag) : He.AlT × Bool := (He.obsT fa fn ts K, ((["a", "b", "f", "g", "p"] : List Str).all fun x => He.eqO (PySem.W.nsIn K (He.ga K "KEPT") x) (some none)) && (He.eqO (PySem.W.findIn K (.ref (He.ga K "Order")) "__class__") (some (some (.builtin "object.__class__"))) && decide (PySem.W.mroIn K (He.ga K "Order") (.type "object") = some true)))
def valA (w : World) : He.AlT × Bool := (He.valT fn ts w, true)
structure SaysA (w : World) (K : PySem.W.Frag) : Prop where
  t : He.SaysT fa fn ts w K
  n : ∀ x ∈ (["a", "b", "f", "g", "p"] : List Str), PySem.W.nsIn K (He.ga K "KEPT") x = some none
  c : PySem.W.findIn K (.ref (He.ga K "Order")) "__class__" = some (some (.builtin "object.__class__"))
  m : PySem.W.mroIn K (He.ga K "Order") (.type "object") = some true
theorem says_of {w : World} {K : PySem.W.Frag} (e : obA K = valA w) : SaysA w K := by
  have e2 := congrArg (fun z : He.AlT × Bool => z.2) e
  obtain ⟨h1, h⟩ := Bool.and_eq_true_iff.mp e2
  obtain ⟨h2, h3⟩ := Bool.and_eq_true_iff.mp h
  exact ⟨congrArg (fun z : He.AlT × Bool => z.1) e, fun x hx => He.eqO_ok (List.all_eq_true.mp h1 x hx), He.eqO_ok h2, of_decide_eq_true h3⟩
def hookA : PySem.W.Hook where
  α := He.AlT × Bool
  obs := fun s => obA (fK s.heap.get?)
  val := fun w => valA w
  says := fun w h => ∃ K : PySem.W.Frag, K.In h ∧ SaysA w K
  of := fun _ _ e => ⟨_, He.frG_in, says_of e⟩
  keeps := fun _ _ _ ⟨K, hK, c⟩ k => ⟨K, PySem.W.Frag.In.keeps hK k, c⟩
noncomputable abbrev gT (s : PySem.W.SharedT) : Addr → Option Obj := HandSHeadRun.getT s
theorem obA_eq {g : Addr → Option Obj} {s : Shared} (h : ∀ a, g a = s.heap.get? a) : obA (fK g) = hookA.obs s := by
  have e : g = s.heap.get? := funext h
  rw [e] <;> rfl
end K29

set_option Elab.async false
set_option linter.all false
set_option maxRecDepth 100000
set_option maxHeartbeats 0
namespace K29
open PySem PySem.Spec PyProof.Rows L2
theorem run_f (w : World) : HandSHeadRun.RunEq R (PySem.W.view R.prog [53]) hookA (fun s => obA (fK (gT s))) 8000 loose (w.withFollow "special-get-raises" false) := by
  intro os
  kernel_rfl
theorem run_t (w : World) : HandSHeadRun.RunEq R (PySem.W.view R.prog [53]) hookA (fun s => obA (fK (gT s))) 8000 loose (w.withFollow "special-get-raises" true) := by
  intro os
  kernel_rfl
theorem run (w : World) : HandSHeadRun.RunEq R (PySem.W.view R.prog [53]) hookA (fun s => obA (fK (gT s))) 8000 loose w :=
  PySem.W.byRow2 "special-get-raises" (P := fun w => HandSHeadRun.RunEq R (PySem.W.view R.prog [53]) hookA (fun s => obA (fK (gT s))) 8000 loose w) run_f run_t w
end K29

set_option Elab.async false
set_option linter.all false
set_option maxRecDepth 100000
set_option maxHeartbeats 4000000
/-! Words without variables as they stand in the heap. -/
namespace K29
open PySem PySem.Spec PyProof.Rows L2 Evl
inductive Wd where
  | a | b | f (x : Wd) | g (x y : Wd) | p (x : Wd)
  deriving DecidableEq
def Wd.nm : Wd → Str
  | .a => "a" | .b => "b" | .f _ => "f" | .g _ _ => "g" | .p _ => "p"
def Wd.args : Wd → List Wd
  | .a => [] | .b => [] | .f x => [x] | .g x y => [x, y] | .p x => [x]
def Wd.dp : Wd → Nat
  | .a => 0 | .b => 0 | .f x => x.dp + 1 | .g x y => max x.dp y.dp + 1 | .p x => x.dp + 1
/-- how many things stand in it -/
def Wd.sz : Wd → Nat
  | .a => 2 | .b => 2 | .f x => x.sz + 2 | .g x y => x.sz + y.sz + 2 | .p x => x.sz + 2
def WV (H : Hp) : V → Wd → Prop
  | v, .a => ∃ r, v = .ref r ∧ H r = some (.tup [.str "a"])
  | v, .b => ∃ r, v = .ref r ∧ H r = some (.tup [.str "b"])
  | v, .f x => ∃ r u, v = .ref r ∧ H r = some (.tup [.str "f", u]) ∧ WV H u x
  | v, .g x y => ∃ r u z, v = .ref r ∧ H r = some (.tup [.str "g", u, z]) ∧ WV H u x ∧ WV H z y
  | v, .p x => ∃ r u, v = .ref r ∧ H r = some (.tup [.str "p", u]) ∧ WV H u x
def WVs (H : Hp) : List V → List Wd → Prop
  | [], [] => True
  | v :: vs, w :: ws => WV H v w ∧ WVs H vs ws
  | _, _ => False
section
variable {H G : Hp} {v : V} {w : Wd}
/-- all tuples stay -/
def Tx (H G : Hp) : Prop := ∀ a xs, H a = some (.tup xs) → G a = some (.tup xs)
theorem Tx.of (e : Ex H G) : Tx H G := fun a xs h => e a _ h
theorem Tx.refl (H : Hp) : Tx H H := fun _ _ h => h
theorem Tx.trans {J : Hp} (a : Tx H G) (b : Tx G J) : Tx H J := fun c xs h => b c xs (a c xs h)
theorem Tx.lst {p : Addr} {xs : List V} {o : HO} (h : H p = some (.lst xs)) : Tx H (upd H p o) := fun a ys e => by
  rw [upd_ne (ne_of e h (by intro z; cases z))]
  exact e
theorem Tx.dct {p : Addr} {xs : List (Key × V)} {o : HO} (h : H p = some (.dK xs)) : Tx H (upd H p o) := fun a ys e => by
  rw [upd_ne (ne_of e h (by intro z; cases z))]
  exact e
theorem WV.tx (e : Tx H G) : ∀ {w : Wd} {v : V}, WV H v w → WV G v w
  | .a, _, ⟨r, h, h1⟩ => ⟨r, h, e _ _ h1⟩
  | .b, _, ⟨r, h, h1⟩ => ⟨r, h, e _ _ h1⟩
  | .f x, _, ⟨r, u, h, h1, h2⟩ => ⟨r, u, h, e _ _ h1, WV.tx e h2⟩
  | .g x y, _, ⟨r, u, z, h, h1, h2, h3⟩ => ⟨r, u, z, h, e _ _ h1, WV.tx e h2, WV.tx e h3⟩
  | .p x, _, ⟨r, u, h, h1, h2⟩ => ⟨r, u, h, e _ _ h1, WV.tx e h2⟩
theorem WV.ext (e : Ex H G) {w : Wd} {v : V} (h : WV H v w) : WV G v w := h.tx (Tx.of e)
theorem WVs.tx (e : Tx H G) : ∀ {ws : List Wd} {vs : List V}, WVs H vs ws → WVs G vs ws
  | [], [], _ => trivial
  | _ :: _, _ :: _, h => ⟨h.1.tx e, WVs.tx e h.2⟩
  | [], _ :: _, h => h.elim
  | _ :: _, [], h => h.elim
theorem WVs.ext (e : Ex H G) {ws : List Wd} {vs : List V} (h : WVs H vs ws) : WVs G vs ws := h.tx (Tx.of e)
theorem WVs.length : ∀ {ws : List Wd} {vs : List V}, WVs H vs ws → vs.length = ws.length
  | [], [], _ => rfl
  | _ :: _, _ :: _, h => congrArg (· + 1) (WVs.length h.2)
  | [], _ :: _, h => h.elim
  | _ :: _, [], h => h.elim
theorem WVs.get : ∀ {ws : List Wd} {vs : List V} {i : Nat} {v : V}, WVs H vs ws → vs[i]? = some v → ∃ w, ws[i]? = some w ∧ WV H v w
  | [], [], i, v, _, e => by simp at e
  | w :: ws, u :: vs, 0, v, h, e => by
    obtain rfl : u = v := by simpa using e
    exact ⟨w, rfl, h.1⟩
  | _ :: ws, _ :: vs, i + 1, v, h, e => by
    obtain ⟨w, a, b⟩ := WVs.get (i := i) (v := v) h.2 (by simpa using e)
    exact ⟨w, by simpa using a, b⟩
  | [], _ :: _, _, _, h, _ => h.elim
  | _ :: _, [], _, _, h, _ => h.elim
theorem WVs.getw : ∀ {ws : List Wd} {vs : List V} {i : Nat} {w : Wd}, WVs H vs ws → ws[i]? = some w → ∃ v, vs[i]? = some v ∧ WV H v w
  | [], [], i, v, _, e => by simp at e
  | w :: ws, u :: vs, 0, v, h, e => by
    obtain rfl : w = v := by simpa using e
    exact ⟨u, rfl, h.1⟩
  | _ :: ws, _ :: vs, i + 1, v, h, e => by
    obtain ⟨w, a, b⟩ := WVs.getw (i := i) (w := v) h.2 (by simpa using e)
    exact ⟨w, by simpa using a, b⟩
  | [], _ :: _, _, _, h, _ => h.elim
  | _ :: _, [], _, _, h, _ => h.elim
theorem WVs.append : ∀ {ws zs : List Wd} {vs us : List V}, WVs H vs ws → WVs H us zs → WVs H (vs ++ us) (ws ++ zs)
  | [], _, [], _, _, k => k
  | _ :: _, _, _ :: _, _, h, k => ⟨h.1, WVs.append h.2 k⟩
  | [], _, _ :: _, _, h, _ => h.elim
  | _ :: _, _, [], _, h, _ => h.elim
theorem WVs.one (h : WV H v w) : WVs H [v] [w] := ⟨h, trivial⟩
/-- a word is a tuple: its name, its parts -/
theorem WV.tup : ∀ {w : Wd} {v : V}, WV H v w → ∃ r us, v = .ref r ∧ H r = some (.tup (.str w.nm :: us)) ∧ WVs H us w.args
  | .a, _, ⟨r, h, h1⟩ => ⟨r, [], h, h1, trivial⟩
  | .b, _, ⟨r, h, h1⟩ => ⟨r, [], h, h1, trivial⟩
  | .f x, _, ⟨r, u, h, h1, h2⟩ => ⟨r, [u], h, h1, h2, trivial⟩
  | .g x y, _, ⟨r, u, z, h, h1, h2, h3⟩ => ⟨r, [u, z], h, h1, h2, h3, trivial⟩
  | .p x, _, ⟨r, u, h, h1, h2⟩ => ⟨r, [u], h, h1, h2, trivial⟩
theorem WV.of : ∀ {w : Wd} {r : Addr} {us : List V}, H r = some (.tup (.str w.nm :: us)) → WVs H us w.args → WV H (.ref r) w
  | .a, r, [], h, _ => ⟨r, rfl, h⟩
  | .b, r, [], h, _ => ⟨r, rfl, h⟩
  | .f x, r, [u], h, k => ⟨r, u, rfl, h, k.1⟩
  | .g x y, r, [u, z], h, k => ⟨r, u, z, rfl, h, k.1, k.2.1⟩
  | .p x, r, [u], h, k => ⟨r, u, rfl, h, k.1⟩
  | .a, _, _ :: _, _, k => k.elim
  | .b, _, _ :: _, _, k => k.elim
  | .f _, _, [], _, k => k.elim
  | .f _, _, _ :: _ :: _, _, k => k.2.elim
  | .g _ _, _, [], _, k => k.elim
  | .g _ _, _, [_], _, k => k.2.elim
  | .g _ _, _, _ :: _ :: _ :: _, _, k => k.2.2.elim
  | .p _, _, [], _, k => k.elim
  | .p _, _, _ :: _ :: _, _, k => k.2.elim
end
/-! ### as data -/
def Wd.dat : Wd → PyData
  | .a => .tuple [.str "a"] | .b => .tuple [.str "b"] | .f x => .tuple [.str "f", x.dat] | .g x y => .tuple [.str "g", x.dat, y.dat] | .p x => .tuple [.str "p", x.dat]
theorem WV.dp {K : PySem.W.Frag} {H : Hp} : ∀ {w : Wd} {v : V}, WV H v w → Dp K H v w.dat
  | .a, _, ⟨r, h, h1⟩ => by subst h; exact .tup (SqT.of h1) (.cons (.str _) .nil)
  | .b, _, ⟨r, h, h1⟩ => by subst h; exact .tup (SqT.of h1) (.cons (.str _) .nil)
  | .f x, _, ⟨r, u, h, h1, h2⟩ => by subst h; exact .tup (SqT.of h1) (.cons (.str _) (.cons (WV.dp h2) .nil))
  | .g x y, _, ⟨r, u, z, h, h1, h2, h3⟩ => by subst h; exact .tup (SqT.of h1) (.cons (.str _) (.cons (WV.dp h2) (.cons (WV.dp h3) .nil)))
  | .p x, _, ⟨r, u, h, h1, h2⟩ => by subst h; exact .tup (SqT.of h1) (.cons (.str _) (.cons (WV.dp h2) .nil))
theorem so_a : PyData.strOk (Str.ofString "a") = true := by decide +kernel
theorem so_b : PyData.strOk (Str.ofString "b") = true := by decide +kernel
theorem so_f : PyData.strOk (Str.ofString "f") = true := by decide +kernel
theorem so_g : PyData.strOk (Str.ofString "g") = true := by decide +kernel
theorem so_p : PyData.strOk (Str.ofString "p") = true := by decide +kernel
theorem ne_ab : (Str.ofString "a" = Str.ofString "b") = False := eq_false (by decide +kernel)
theorem ne_ba : (Str.ofString "b" = Str.ofString "a") = False := eq_false (by decide +kernel)
theorem ne_fp : (Str.ofString "f" = Str.ofString "p") = False := eq_false (by decide +kernel)
theorem ne_pf : (Str.ofString "p" = Str.ofString "f") = False := eq_false (by decide +kernel)
theorem dat_lay : ∀ w : Wd, w.dat.canLay0 = true
  | .a => by simp [Wd.dat, PyData.canLay0, PyData.canLayAll0, so_a]
  | .b => by simp [Wd.dat, PyData.canLay0, PyData.canLayAll0, so_b]
  | .f x => by simp [Wd.dat, PyData.canLay0, PyData.canLayAll0, so_f, dat_lay x]
  | .g x y => by simp [Wd.dat, PyData.canLay0, PyData.canLayAll0, so_g, dat_lay x, dat_lay y]
  | .p x => by simp [Wd.dat, PyData.canLay0, PyData.canLayAll0, so_p, dat_lay x]
theorem dat_depth : ∀ w : Wd, w.dat.depth = w.dp + 1
  | .a => rfl
  | .b => rfl
  | .f x => by simp [Wd.dat, PyData.depth, PyData.depthAll, dat_depth x, Wd.dp]
  | .g x y => by simp [Wd.dat, PyData.depth, PyData.depthAll, dat_depth x, dat_depth y, Wd.dp]
  | .p x => by simp [Wd.dat, PyData.depth, PyData.depthAll, dat_depth x, Wd.dp]
theorem dat_shaped {w : Wd} (h : w.dp ≤ 50) : SeqAt.shaped w.dat = true := by
  show (w.dat.canLay0 && decide (w.dat.depth ≤ 64)) = true
  rw [Bool.and_eq_true]
  exact ⟨dat_lay w, decide_eq_true (by rw [dat_depth]; omega)⟩
theorem dat_eqv : ∀ w z : Wd, PyData.eqv w.dat z.dat = decide (w = z) := by
  intro w
  induction w with
  | a => intro z; cases z <;> simp [Wd.dat, PyData.eqv, PyData.eqvAll, ne_ab, ne_ba, ne_fp, ne_pf]
  | b => intro z; cases z <;> simp [Wd.dat, PyData.eqv, PyData.eqvAll, ne_ab, ne_ba, ne_fp, ne_pf]
  | f x ih => intro z; cases z <;> simp [Wd.dat, PyData.eqv, PyData.eqvAll, ne_ab, ne_ba, ne_fp, ne_pf, ih]
  | g x y ih1 ih2 => intro z; cases z <;> simp [Wd.dat, PyData.eqv, PyData.eqvAll, ne_ab, ne_ba, ne_fp, ne_pf, ih1, ih2]
  | p x ih => intro z; cases z <;> simp [Wd.dat, PyData.eqv, PyData.eqvAll, ne_ab, ne_ba, ne_fp, ne_pf, ih]
end K29

set_option Elab.async false
set_option linter.all false
set_option maxRecDepth 100000
set_option maxHeartbeats 4000000
/-! What is known of the module's names; isinstance; the first defs. -/
namespace K29
open PySem PySem.Spec PyProof.Rows L2 Evl
structure T29 (P : Program) (w : World) (K : PySem.W.Frag) (mg : Str → Option Value) (base : Heap) : Prop where
  fr : ∀ x ∈ (["all", "any", "bool", "dict", "enumerate", "int", "isinstance", "len", "list", "range", "sorted", "str", "sum", "tuple", "zip"] : List Str), mg x = none
  df : ∀ (i : Nat) (x : Str) (st : Stmt), fnA[i]? = some (dN x st) → (∃ fd, FnP K x st (He.ga K x) fd) ∧ mg x = some (.ref (He.ga K x))
  kd : ∃ es n, KDict K w (He.ga K "KEPT") es n
  kn : ∀ x ∈ (["a", "b", "f", "g", "p"] : List Str), PySem.W.nsIn K (He.ga K "KEPT") x = some none
  kept : mg "KEPT" = some (.ref (He.ga K "KEPT"))
  letters : ∃ t, mg "LETTERS" = some (.str "abcdefghijklmnopqrstuvwxyz" t)
  longest : ∃ t, mg "LONGEST" = some (.int 8 t)
  most : ∃ t, mg "MOST_PLACES" = some (.int 6 t)
/-- a def of the module keeps a promise -/
structure Ok (P : Program) (w : World) (K : PySem.W.Frag) (mg : Str → Option Value) (base : Heap) (x : Str) (ps : List Str) (k : Nat) (sp : Sp) : Prop where
  ex : ∃ (f : Addr) (fd : FuncData), FnOk P w K mg base CX0 k f fd ps sp ∧ Binds K fd ps [] ∧ PySem.W.keepIn K (.ref f) = true ∧ mg x = some (.ref f)
section
variable {P : Program} {w : World} {K : PySem.W.Frag} {mg : Str → Option Value} {base : Heap}
theorem T29.isi (T : T29 P w K mg base) : mg "isinstance" = none := T.fr _ (by decide)
theorem T29.len (T : T29 P w K mg base) : mg "len" = none := T.fr _ (by decide)
theorem T29.list (T : T29 P w K mg base) : mg "list" = none := T.fr _ (by decide)
theorem T29.tuple (T : T29 P w K mg base) : mg "tuple" = none := T.fr _ (by decide)
theorem T29.str (T : T29 P w K mg base) : mg "str" = none := T.fr _ (by decide)
theorem T29.int (T : T29 P w K mg base) : mg "int" = none := T.fr _ (by decide)
theorem T29.bool (T : T29 P w K mg base) : mg "bool" = none := T.fr _ (by decide)
theorem T29.dict (T : T29 P w K mg base) : mg "dict" = none := T.fr _ (by decide)
theorem T29.range (T : T29 P w K mg base) : mg "range" = none := T.fr _ (by decide)
theorem T29.enumerate (T : T29 P w K mg base) : mg "enumerate" = none := T.fr _ (by decide)
theorem T29.zip (T : T29 P w K mg base) : mg "zip" = none := T.fr _ (by decide)
theorem T29.all (T : T29 P w K mg base) : mg "all" = none := T.fr _ (by decide)
theorem T29.any (T : T29 P w K mg base) : mg "any" = none := T.fr _ (by decide)
theorem T29.sum (T : T29 P w K mg base) : mg "sum" = none := T.fr _ (by decide)
theorem T29.sorted (T : T29 P w K mg base) : mg "sorted" = none := T.fr _ (by decide)
/-- a def by its place -/
theorem T29.ok (T : T29 P w K mg base) (i : Nat) {x : Str} {st : Stmt} {N ps : List Str} {k : Nat} {sp : Sp} (hi : fnA[i]? = some (dN x st)) (S : FnScope N ps (defScope st)) (len : ∀ vs H Q E, sp vs H Q E → vs.length = ps.length)
    (hb : ∀ (kV doc pm : Value) (an : Option Addr) (cdv ct : Value) (us : List Value), us.length = ps.length → bindArgs (PySem.W.fnOf x x (defArgs st) (defBody st) (defScope st) .none kV doc pm an cdv ct) ⟨us, []⟩ = pure (ps.zip us))
    (hbody : ∀ (f : Addr) (cdv : Value) (A : Around) (outer : List Env) (s : Shared) (H : Hp) (vs : List V) (Q : VK) (E : XK), Room k (A.deeper (envOfC x (defScope st) s.heap.objs.size f cdv)) → sp vs H Q E →
      ∃ t, PSs (cxOf CX0 P w K mg base N x (defScope st) f cdv A outer s H E).nox (defBody st) t ∧ t { nx := fun _ H' => Q .non H', rt := Q } (L2.start N vs) H) : Ok P w K mg base x ps (k + 1) sp := by
  obtain ⟨⟨fd, F⟩, m⟩ := T.df i x st hi
  refine ⟨_, fd, F.ok S len (fun cdv A outer s H vs Q E hr h => ?_), F.bindsN hb, F.kp, m⟩
  obtain ⟨t, h1, h2⟩ := hbody _ cdv A outer s H vs Q E hr h
  exact ⟨t, PSs.nox h1, h2⟩
/-- a promise is weakened, its level raised -/
theorem Ok.imp {x : Str} {ps : List Str} {k : Nat} {sp sp' : Sp} (h : Ok P w K mg base x ps k sp) (i : ∀ vs H Q E, sp' vs H Q E → sp vs H Q E) (m : ∀ f fd, FnOk P w K mg base CX0 k f fd ps sp → FnOk P w K mg base CX0 k f fd ps sp') : Ok P w K mg base x ps k sp' := by
  obtain ⟨f, fd, a, b, c, d⟩ := h.ex
  exact ⟨f, fd, m f fd a, b, c, d⟩
end
/-! ### isinstance(e, C), C a built-in; (list, tuple) -/
abbrev tIsi (K : PySem.W.Frag) (t : String) (te : TE) : TE := tCB (rIsi K) (tCons te (tCons (tC (.ty t)) tNil))
abbrev tIsi2 (K : PySem.W.Frag) (te : TE) : TE := tCB (rIsiT K) (tCons te (tCons (tTup (tCons (tC (.ty "list")) (tCons (tC (.ty "tuple")) tNil))) tNil))
section
variable {X : Cx} {e : Expr} {te : TE} {p q r q1 q2 pos : Pos}
theorem pe_isiB {n : Str} {t : String} (m1 : X.mg "isinstance" = none) (m2 : X.mg n = none) (hv : bootBuiltins n = some (.type t)) (he : PE X e te) (g1 : Gl X "isinstance" := by rfl) (g2 : Gl X n := by rfl) (hn : n ≠ "__name__" := by decide) (hd : (n == ("__debug__" : Str)) = false := by decide)
    (hs : starEach [e, .Name n q] X.env = (false, eval e X.env) :: starEach [.Name n q] X.env := by rfl) (hs2 : starEach [.Name n q] X.env = (false, eval (.Name n q) X.env) :: starEach [] X.env := by rfl) (hpl : (backTo pos (starEach [.Name n q] X.env)).any (·.1) = false := by rfl) :
    PE X (.Call (.Name "isinstance" p) [e, .Name n q] [] pos) (tIsi X.K t te) :=
  pe_callB call_isi g1 m1 PyProof.Rows.boot_isinstance (pa_cons he (pa_cons (pe_bltn (v := .ty t) g2 m2 hv rfl hn hd) pa_nil hs2) hs) (by decide) (by decide) hs hpl
theorem pe_isiLT (m1 : X.mg "isinstance" = none) (m2 : X.mg "list" = none) (m3 : X.mg "tuple" = none) (he : PE X e te) (g1 : Gl X "isinstance" := by rfl) (g2 : Gl X "list" := by rfl) (g3 : Gl X "tuple" := by rfl)
    (hs : starEach [e, .Tuple [.Name "list" q1, .Name "tuple" q2] x1 r] X.env = (false, eval e X.env) :: starEach [.Tuple [.Name "list" q1, .Name "tuple" q2] x1 r] X.env := by rfl)
    (hs2 : starEach [.Tuple [.Name "list" q1, .Name "tuple" q2] x1 r] X.env = (false, eval (.Tuple [.Name "list" q1, .Name "tuple" q2] x1 r) X.env) :: starEach [] X.env := by rfl)
    (hs3 : starEach [.Name "list" q1, .Name "tuple" q2] X.env = (false, eval (.Name "list" q1) X.env) :: starEach [.Name "tuple" q2] X.env := by rfl) (hs4 : starEach [.Name "tuple" q2] X.env = (false, eval (.Name "tuple" q2) X.env) :: starEach [] X.env := by rfl)
    (hpl : (backTo pos (starEach [.Tuple [.Name "list" q1, .Name "tuple" q2] x1 r] X.env)).any (·.1) = false := by rfl) :
    PE X (.Call (.Name "isinstance" p) [e, .Tuple [.Name "list" q1, .Name "tuple" q2] x1 r] [] pos) (tIsi2 X.K te) :=
  pe_callB call_isiT g1 m1 PyProof.Rows.boot_isinstance (pa_cons he (pa_cons (pe_tup (pa_cons (pe_bltn (v := .ty "list") g2 m2 PyProof.Rows.boot_list rfl (by decide) (by decide)) (pa_cons (pe_bltn (v := .ty "tuple") g3 m3 PyProof.Rows.boot_tuple rfl (by decide) (by decide)) pa_nil hs4) hs3)) pa_nil hs2) hs) (by decide) (by decide) hs hpl
end
theorem tyx_ext {K : PySem.W.Frag} {H G : Hp} {v : V} {t : Value} (e : Ex H G) (h : TyX K H v t) : TyX K G v t := by
  cases h with
  | base h =>
    refine .base ?_
    cases h with
    | non => exact .non
    | bl x => exact .bl x
    | int i => exact .int i
    | str x => exact .str x
    | flt x => exact .flt x
    | lst h => exact .lst (e _ _ h)
    | frz h => exact .frz (e _ _ h)
    | tup h => exact .tup (e _ _ h)
    | dK h => exact .dK (e _ _ h)
    | dT h => exact .dT (e _ _ h)
    | ins h a b c d f => exact .ins (e _ _ h) a b c d f
  | byt b => exact .byt b
  | set h => exact .set (e _ _ h)
  | kList a b => exact .kList a b
  | kTuple a b => exact .kTuple a b
  | kDict a b => exact .kDict a b
  | fTuple h => exact .fTuple (e _ _ h)
  | fDict h => exact .fDict (e _ _ h)
section
variable {K : PySem.W.Frag} {σ : L2.St} {H : Hp} {te : TE} {v : V}
theorem ev_isi {m n : String} {b : Bool} (h : Ev te σ H v) (ty : TyX K H v (.type m)) (e : kitB m n = some b) : Ev (tIsi K n te) σ H (.bl b) :=
  ev_cb (ea_cons h (ea_cons ev_c ea_nil)) fun H1 x Q q => ⟨v, .ty n, _, _, b, rfl, .ty n, tyx_ext x ty, kit_ty e, q H1 (Ex.refl H1)⟩
/-- is it a list or a tuple -/
def isLT (m : String) : Bool := m == "list" || m == "tuple"
theorem ev_isi2 {m : String} {b1 b2 : Bool} (h : Ev te σ H v) (ty : TyX K H v (.type m)) (e1 : kitB m "list" = some b1) (e2 : kitB m "tuple" = some b2) : Ev (tIsi2 K te) σ H (.bl (b1 || b2)) := fun H1 x Q q =>
  h H1 x _ fun H2 x2 => ⟨by show 2 ≤ sizeLine; decide, fun p hp => by
    have x3 : Ex H2 (upd H2 p (.tup [.ty "list", .ty "tuple"])) := Ex.new hp
    show rIsiT K [v, .ref p] _ Q
    refine ⟨v, p, [.ty "list", .ty "tuple"], _, [.type "list", .type "tuple"], b1 || b2, rfl, upd_same, .cons (.ty _) (.cons (.ty _) .nil), tyx_ext ((x.trans x2).trans x3) ty, ?_, q _ (x2.trans x3)⟩
    cases b1 with
    | true => exact kitAny_cons (kit_ty e1) (fun z => nomatch z) fun _ => rfl
    | false => exact kitAny_cons (kit_ty e1) (fun _ => by
        cases b2 with
        | true => exact kitAny_cons (kit_ty e2) (fun z => nomatch z) fun _ => rfl
        | false => exact kitAny_cons (kit_ty e2) (fun _ => kitAny_nil) fun z => nomatch z) fun z => nomatch z⟩
end
/-! ### the first defs -/
section
variable {P : Program} {w : World} {K : PySem.W.Frag} {mg : Str → Option Value} {base : Heap}
def spInt : Sp := fun vs H Q _ => ∃ i : Int, vs = [.int i] ∧ RetV (.bl true) H Q
theorem sc_int : FnScope ["thing"] ["thing"] (defScope s_is_integer) := ⟨rfl, rfl, rfl, by decide +kernel, rfl, by decide +kernel, by decide +kernel⟩
theorem ok_is_integer (T : T29 P w K mg base) : Ok P w K mg base "is_integer" ["thing"] 1 spInt := by
  refine T.ok 0 rfl sc_int (fun vs H Q E h => ?_) (fun kV doc pm an cdv ct us hl => match us, hl with | [_], _ => rfl) (fun f cdv A outer s H vs Q E hr h => ?_)
  · obtain ⟨i, rfl, _⟩ := h
    rfl
  · obtain ⟨i, rfl, k⟩ := h
    refine ⟨_, pss_one (ps_ret (pe_and (pe_isiB T.isi T.int PyProof.Rows.boot_int (pv 0)) (pe_one (pe_not (pe_isiB T.isi T.bool PyProof.Rows.boot_bool (pv 0)))))), ?_⟩
    have t : ∀ H, TyX K H (.int i) (.type "int") := fun _ => .base (.int i)
    exact s_ret (ev_andV (b := true) (ev_isi (b := true) (ev_var rfl) (t _) (by decide +kernel)) fun _ => ev_notV (a := false) (ev_isi (ev_var rfl) (t _) (by decide +kernel))) k
end
end K29

set_option Elab.async false
set_option linter.all false
set_option maxRecDepth 100000
set_option maxHeartbeats 4000000
/-! list.extend by a tuple. -/
namespace K29
open PySem PySem.Spec PyProof.Rows L2 Evl
theorem extend_tup (l : Addr) (items : Array Value) (n : Nat) (b : Addr) (dd : Option Addr) (sl : Array (Option Value)) (items2 : Array Value) (n2 : Nat) (hs0 : ¬(!items.isEmpty && Builtin.List.listTooLong (items.size + items2.size)) = true) (hs1 : items.size ≤ sizeLine) (hs2 : items.size + items2.size ≤ sizeLine + 1) :
    Meets (Builtin.«list.extend» ⟨[.ref l, .ref b], []⟩) (fun _ R s => s.heap.get? l = some { cls := .type "list", dict := none, data := .seq items n, slots := #[] } ∧ s.heap.get? b = some { cls := .type "tuple", dict := dd, data := .seq items2 n2, slots := sl } ∧ R (.ok (.ret Value.none)) { s with heap := s.heap.update l (Obj.mapSeq fun x => x ++ items2), toks := s.toks }) :=
  .of_wp fun prog w A R s h => by
    obtain ⟨hp, g, d, tk, os⟩ := s
    obtain ⟨hl, hb, h⟩ := h
    have f1 := PySem.AutoSeq1.idx_int
    have f2 := PySem.AutoSeq1.sub_tuple_tuple
    have f3 := PySem.AutoSeq1.sub_list_list
    have f4 := PySem.AutoSeq1.sub_tuple_list
    have f5 := PySem.AutoSeq1.sub_list_tuple
    have hz' : (items ++ items2).size ≤ sizeLine + 1 := by rw [Array.size_append]; exact hs2
    wp_walk using (wpAny_updateSeq hl rfl (hz := hs1) (_hz' := hz')), PySem.AutoSeq1.wpAny_loadPart' hl, PySem.AutoSeq1.wpAny_loadPart' hb
    exact ⟨_, rfl, h⟩
def rExtT (K : PySem.W.Frag) : V → List V → Hp → VK → Prop := fun x vs H Q => ∃ l b xs zs, x = .ref l ∧ vs = [.ref b] ∧ H l = some (.lst xs) ∧ SqT K H b zs ∧ xs.length + zs.length ≤ sizeLine ∧ Q .non (upd H l (.lst (xs ++ zs)))
theorem mt_extT {X : Cx} : MtM X "list.extend" (rExtT X.K) := by
  intro pins s σ H x vs v us Q I rx rv h
  obtain ⟨l, b, xs, zs, rfl, rfl, hH, hB, hz, q⟩ := h
  cases rx
  obtain ⟨u, rfl, ru⟩ := rv.one
  cases ru
  obtain ⟨z, its, n, r, hl, e⟩ := I.lstM hH
  obtain ⟨its2, r2, ⟨o, e2, oc, n2, od⟩, hl2⟩ := I.tuple hB
  obtain ⟨oc', dd, dt, sl⟩ := o
  dsimp only at oc od
  subst oc od
  have h1 := r2.length
  have hsz : its.toArray.size + its2.toArray.size ≤ sizeLine := by rw [List.size_toArray, List.size_toArray]; omega
  have hlong : ¬ (!its.toArray.isEmpty && Builtin.List.listTooLong (its.toArray.size + its2.toArray.size)) = true := by
    rw [notLongL hsz, Bool.and_false]
    exact Bool.false_ne_true
  refine call_meets F.slot_list_extend ⟨_, e, rfl⟩ F.entry_list_extend (F.args_list_extend_2 _ _)
    (extend_tup l its.toArray n b dd sl its2.toArray n2 hlong (by rw [List.size_toArray]; omega) (by omega)) ⟨e, e2, ?_⟩
  refine ⟨.non, _, I.lset (its' := its ++ its2) hH e (by simp) (r.append r2) ?_, rfl, q⟩
  rw [List.length_append]
  omega
end K29

set_option Elab.async false
set_option linter.all false
set_option maxRecDepth 100000
set_option maxHeartbeats 4000000
/-! has_lists, frozen over words. -/
namespace K29
open PySem PySem.Spec PyProof.Rows L2 Evl
section
variable {K : PySem.W.Frag} {σ : L2.St} {H G : Hp} {te ta tb : TE} {v : V}
theorem et_truL {p : Addr} {xs : List V} (h : Ev te σ H (.ref p)) (hs : SqL K H p xs) : EvT (fun σ H Q => te σ H fun x H' => ∃ k, TruV K x H' k ∧ Q k H') σ H (!xs.isEmpty) :=
  fun H1 e Q q => h H1 e _ fun H2 e2 => ⟨_, .inl ⟨xs, ex_l (e.trans e2) hs, rfl⟩, q H2 e2⟩
abbrev tLen (K : PySem.W.Frag) (te : TE) : TE := tCB (fun xs H Q => ∃ x n, xs = [x] ∧ LenV K x H n ∧ Q (.int n) H) (tCons te tNil)
theorem ev_lenG {n : Nat} (h : Ev te σ H v) (l : ∀ G, Ex H G → LenV K v G n) : Ev (tLen K te) σ H (.int n) := fun H1 e Q q => h H1 e _ fun H2 e2 => ⟨v, n, rfl, l H2 (e.trans e2), q H2 e2⟩
theorem ev_lenT {p : Addr} {xs : List V} (h : Ev te σ H (.ref p)) (hs : SqT K H p xs) : Ev (tLen K te) σ H (.int (xs.length : Nat)) := ev_lenG h fun G e => .inr ⟨xs, ex_t e hs, rfl⟩
theorem ev_lenL {p : Addr} {xs : List V} (h : Ev te σ H (.ref p)) (hs : SqL K H p xs) : Ev (tLen K te) σ H (.int (xs.length : Nat)) := ev_lenG h fun G e => .inl ⟨xs, ex_l e hs, rfl⟩
theorem ev_lenS {x : Str} (h : Ev te σ H (.str x)) (l : x.length ≤ 1000) : Ev (tLen K te) σ H (.int (x.length : Nat)) := ev_lenG h fun G e => ⟨Nat.le_trans l (by decide), rfl⟩
end
section
variable {K : PySem.W.Frag} {σ : L2.St} {H G : Hp} {te ta tb : TE} {v : V} {D : Ends} {tz : TS}
theorem last_at {xs : List V} {y : V} : (xs ++ [y])[(xs ++ [y]).length - 1]? = some y := by simp
/-- y = xs.pop() -/
theorem q_pop {l : Addr} {xs : List V} {y : V} {j : Nat} (hl : H l = some (.lst (xs ++ [y]))) (ha : Ev ta σ H (.ref l)) (k : ∀ H1, Ex H H1 → tz D (σ.set j (some y)) (upd H1 l (.lst xs))) : tSeq (tAsg (tBM0 K "list" rPop ta) (gName j)) tz D σ H :=
  ha H (Ex.refl H) _ fun H1 e1 => ⟨.inl ⟨rfl, _, sq_of (e1 l _ hl)⟩, l, _, y, rfl, rfl, e1 l _ hl, last_at, by
    rw [List.dropLast_concat]
    exact k H1 e1⟩
/-- xs.extend(t), t a tuple -/
theorem s_extT {l b : Addr} {xs zs : List V} (hl : H l = some (.lst xs)) (ha : Ev ta σ H (.ref l)) (hb : Ev te σ H (.ref b)) (hz : SqT K H b zs) (hs : xs.length + zs.length ≤ 100000) (k : ∀ H1, Ex H H1 → D.nx σ (upd H1 l (.lst (xs ++ zs)))) :
    tDrop (tBM K "list" (rExtT K) ta (tCons te tNil)) D σ H := ha H (Ex.refl H) _ fun H1 e1 => ⟨.inl ⟨rfl, _, sq_of (e1 l _ hl)⟩, hb H1 e1 _ fun H2 e2 =>
  ⟨l, b, xs, zs, rfl, rfl, e2 l _ (e1 l _ hl), ex_t (e1.trans e2) hz, sz_of hs, k H2 (e1.trans e2)⟩⟩
theorem q_extT {l b : Addr} {xs zs : List V} (hl : H l = some (.lst xs)) (ha : Ev ta σ H (.ref l)) (hb : Ev te σ H (.ref b)) (hz : SqT K H b zs) (hs : xs.length + zs.length ≤ 100000) (k : ∀ H1, Ex H H1 → tz D σ (upd H1 l (.lst (xs ++ zs)))) :
    tSeq (tDrop (tBM K "list" (rExtT K) ta (tCons te tNil))) tz D σ H := s_extT (D := { D with nx := tz D }) hl ha hb hz hs k
/-- xs.extend(t), t a new list -/
theorem s_extL {l : Addr} {xs zs : List V} (hl : H l = some (.lst xs)) (ha : Ev ta σ H (.ref l)) (hb : EvL te σ H zs) (hs : xs.length + zs.length ≤ 100000) (k : ∀ H1, Ex H H1 → D.nx σ (upd H1 l (.lst (xs ++ zs)))) :
    tDrop (tBM K "list" rExtend ta (tCons te tNil)) D σ H := ha H (Ex.refl H) _ fun H1 e1 => ⟨.inl ⟨rfl, _, sq_of (e1 l _ hl)⟩, hb H1 e1 _ fun p H2 _ e2 hp =>
  ⟨l, p, xs, zs, rfl, rfl, e2 l _ (e1 l _ hl), hp, sz_of hs, k H2 (e1.trans e2)⟩⟩
theorem q_extL {l : Addr} {xs zs : List V} (hl : H l = some (.lst xs)) (ha : Ev ta σ H (.ref l)) (hb : EvL te σ H zs) (hs : xs.length + zs.length ≤ 100000) (k : ∀ H1, Ex H H1 → tz D σ (upd H1 l (.lst (xs ++ zs)))) :
    tSeq (tDrop (tBM K "list" rExtend ta (tCons te tNil))) tz D σ H := s_extL (D := { D with nx := tz D }) hl ha hb hs k
end
/-! ### a row of words and names -/
def TV (H : Hp) (v : V) : Option Wd → Prop
  | none => ∃ x, v = .str x
  | some w => WV H v w
def TVs (H : Hp) : List V → List (Option Wd) → Prop
  | [], [] => True
  | v :: vs, t :: ts => TV H v t ∧ TVs H vs ts
  | _, _ => False
def tsz : Option Wd → Nat
  | none => 1
  | some w => w.sz
section
variable {H G : Hp}
theorem TV.tx (e : Tx H G) {v : V} : ∀ {t : Option Wd}, TV H v t → TV G v t
  | none, h => h
  | some _, h => WV.tx e h
theorem TVs.tx (e : Tx H G) : ∀ {ts : List (Option Wd)} {vs : List V}, TVs H vs ts → TVs G vs ts
  | [], [], _ => trivial
  | _ :: _, _ :: _, h => ⟨h.1.tx e, TVs.tx e h.2⟩
  | [], _ :: _, h => h.elim
  | _ :: _, [], h => h.elim
theorem TVs.append : ∀ {ws zs : List (Option Wd)} {vs us : List V}, TVs H vs ws → TVs H us zs → TVs H (vs ++ us) (ws ++ zs)
  | [], _, [], _, _, k => k
  | _ :: _, _, _ :: _, _, h, k => ⟨h.1, TVs.append h.2 k⟩
  | [], _, _ :: _, _, h, _ => h.elim
  | _ :: _, _, [], _, h, _ => h.elim
theorem TVs.snoc : ∀ {ts : List (Option Wd)} {t : Option Wd} {vs : List V}, TVs H vs (ts ++ [t]) → ∃ us v, vs = us ++ [v] ∧ TVs H us ts ∧ TV H v t
  | [], t, [v], h => ⟨[], v, rfl, trivial, h.1⟩
  | [], t, [], h => h.elim
  | [], t, _ :: _ :: _, h => h.2.elim
  | _ :: ts, t, [], h => h.elim
  | _ :: ts, t, v :: vs, h => by
    obtain ⟨us, u, e, a, b⟩ := TVs.snoc (ts := ts) h.2
    exact ⟨v :: us, u, by rw [e]; rfl, ⟨h.1, a⟩, b⟩
theorem TVs.length : ∀ {ts : List (Option Wd)} {vs : List V}, TVs H vs ts → vs.length = ts.length
  | [], [], _ => rfl
  | _ :: _, _ :: _, h => congrArg (· + 1) (TVs.length h.2)
  | [], _ :: _, h => h.elim
  | _ :: _, [], h => h.elim
theorem TVs.args : ∀ {ws : List Wd} {vs : List V}, WVs H vs ws → TVs H vs (ws.map some)
  | [], [], _ => trivial
  | _ :: _, _ :: _, h => ⟨h.1, TVs.args h.2⟩
  | [], _ :: _, h => h.elim
  | _ :: _, [], h => h.elim
theorem sz_args (w : Wd) : (((none :: w.args.map some) : List (Option Wd)).map tsz).sum + 1 = w.sz := by
  cases w <;> simp [Wd.args, tsz, Wd.sz] <;> omega
theorem args_two (w : Wd) : w.args.length ≤ 2 := by cases w <;> simp [Wd.args]
theorem len_le_sz : ∀ ts : List (Option Wd), ts.length ≤ (ts.map tsz).sum
  | [] => Nat.le_refl _
  | t :: ts => by
    have h := len_le_sz ts
    have h1 : 1 ≤ tsz t := by cases t with
      | none => exact Nat.le_refl _
      | some w => cases w <;> simp [tsz, Wd.sz] <;> omega
    simp only [List.map_cons, List.sum_cons, List.length_cons]
    omega
end
section
variable {P : Program} {w : World} {K : PySem.W.Frag} {mg : Str → Option Value} {base : Heap}
def spHL : Sp := fun vs H Q _ => ∃ v z, vs = [v] ∧ WV H v z ∧ z.sz ≤ 1000 ∧ RetV (.bl false) H Q
theorem sc_hl : FnScope ["thing", "work", "part"] ["thing"] (defScope s_has_lists) := ⟨rfl, rfl, rfl, by decide +kernel, rfl, by decide +kernel, by decide +kernel⟩
theorem ok_has_lists (T : T29 P w K mg base) : Ok P w K mg base "has_lists" ["thing"] 1 spHL := by
  refine T.ok 7 rfl sc_hl (fun vs H Q E h => ?_) (fun kV doc pm an cdv ct us hl => match us, hl with | [_], _ => rfl) (fun f cdv A outer s H vs Q E hr h => ?_)
  · obtain ⟨v, z, rfl, _⟩ := h
    rfl
  · obtain ⟨v, z, rfl, hw, hz, k⟩ := h
    refine ⟨_, pss_cons (ps_set (i := 1) sc_hl.nd rfl (Or.inl rfl) (pe_lst (pa_cons (pv 0) pa_nil)))
      (pss_cons (ps_while PassesOwn.never (pt_truth (pv 1) (by intro _; rfl))
        (pss_cons (ps_set (i := 2) sc_hl.nd rfl (Or.inl rfl) (pe_bm0 PySem.F.plainAttrs_list PySem.F.slot_list_pop PySem.F.type_list_pop mt_pop (pv 1)))
        (pss_cons (ps_if (pt_val (pe_isiB T.isi T.list PyProof.Rows.boot_list (pv 2))) (pss_one (ps_ret pe_bl)) pss_nil)
        (pss_one (ps_if (pt_val (pe_isiB T.isi T.tuple PyProof.Rows.boot_tuple (pv 2))) (pss_one (ps_expr (pe_bm PySem.F.plainAttrs_list PySem.F.slot_list_extend PySem.F.type_list_extend mt_extT (pv 1) (pa_cons (pv 2) pa_nil)))) pss_nil)))))
      (pss_one (ps_ret pe_bl))), ?_⟩
    refine q_asgL (el_lst (ea_cons (ev_var rfl) ea_nil) (by show 1 ≤ 100000; decide)) fun p H1 hp e1 h1 => ?_
    refine q_while (fun m σ' H' => ∃ (xs : List V) (ts : List (Option Wd)) (o : Option V), σ' = [some v, some (.ref p), o] ∧ Ex H H' ∧ H' p = some (.lst xs) ∧ TVs H' xs ts ∧ m = (ts.map tsz).sum ∧ m ≤ 1000) z.sz
      ⟨[v], [some z], none, rfl, e1, h1, ⟨WV.ext e1 hw, trivial⟩, by simp [tsz], hz⟩ ?_
    rintro m σ' H' ⟨xs, ts, o, rfl, e2, h2, tv, hm, hm2⟩
    refine ⟨!xs.isEmpty, et_truL (ev_var rfl) (SqL.of h2), fun hb H3 e3 => ?_, fun hb H3 e3 => ?_⟩
    · rcases List.eq_nil_or_concat ts with ht | ⟨ts', t, ht⟩
      · subst ht
        match xs, tv with
        | [], _ => exact absurd hb (by decide)
      rw [List.concat_eq_append] at ht
      subst ht
      obtain ⟨us, x, rfl, tv1, tvx⟩ := TVs.snoc tv
      have hp' : H p = none := hp
      have hsum : ((ts' ++ [t]).map tsz).sum = (ts'.map tsz).sum + tsz t := by simp
      have hlen := len_le_sz ts'
      have hle := tv1.length
      refine ⟨fun σ2 H2 => ∃ m', m' < m ∧ ∃ (xs : List V) (ts : List (Option Wd)) (o : Option V), σ2 = [some v, some (.ref p), o] ∧ Ex H H2 ∧ H2 p = some (.lst xs) ∧ TVs H2 xs ts ∧ m' = (ts.map tsz).sum ∧ m' ≤ 1000, fun σ2 H2 z => z, ?_⟩
      refine q_pop (e3 _ _ h2) (ev_var rfl) fun H4 e4 => ?_
      have e5 : Ex H (upd H4 p (.lst us)) := Ex.mut ((e2.trans e3).trans e4) hp'
      have t6 : Tx H' (upd H4 p (.lst us)) := (Tx.of (e3.trans e4)).trans (Tx.lst (e4 _ _ (e3 _ _ h2)))
      cases t with
      | none =>
        obtain ⟨y, rfl⟩ := tvx
        have ty : ∀ G, TyX K G (.str y) (.type "str") := fun _ => .base (.str y)
        refine q_when (b := false) (et_B (ev_isi (ev_var rfl) (ty _) (by decide +kernel))) (fun z => nomatch z) fun _ H5 e6 => ?_
        refine s_when (b := false) (et_B (ev_isi (ev_var rfl) (ty _) (by decide +kernel))) (fun z => nomatch z) fun _ H6 e7 => ?_
        exact ⟨_, by rw [hm, hsum]; simp [tsz], us, ts', _, rfl, (e5.trans e6).trans e7, e7 _ _ (e6 _ _ upd_same), tv1.tx (t6.trans (Tx.of (e6.trans e7))), rfl, by omega⟩
      | some z =>
        obtain ⟨r, as, rfl, hr', ha⟩ := WV.tup (WV.tx t6 tvx)
        have ty : ∀ G, Ex (upd H4 p (.lst us)) G → TyX K G (.ref r) (.type "tuple") := fun G e => .base (.tup (e _ _ hr'))
        refine q_when (b := false) (et_B (ev_isi (ev_var rfl) (ty _ (Ex.refl _)) (by decide +kernel))) (fun z => nomatch z) fun _ H5 e6 => ?_
        refine s_when (b := true) (et_B (ev_isi (ev_var rfl) (ty _ e6) (by decide +kernel))) (fun _ H6 e7 => ?_) (fun z => nomatch z)
        have e8 := e6.trans e7
        have hal := ha.length
        have ha2 := args_two z
        have hzs := sz_args z
        have hzz : tsz (some z) = z.sz := rfl
        refine s_extT (e8 _ _ upd_same) (ev_var rfl) (ev_var rfl) (st_of (e8 _ _ hr')) (by simp only [List.length_cons]; omega) fun H7 e9 => ?_
        have e10 := e8.trans e9
        have hl7 : H7 p = some (.lst us) := e10 _ _ upd_same
        have t8 : Tx H' (upd H7 p (.lst (us ++ .str z.nm :: as))) := (t6.trans (Tx.of e10)).trans (Tx.lst hl7)
        refine ⟨_, ?_, us ++ .str z.nm :: as, ts' ++ none :: z.args.map some, _, rfl, Ex.mut (e5.trans e10) hp', upd_same, (tv1.tx t8).append ⟨⟨_, rfl⟩, TVs.args (ha.tx ((Tx.of e10).trans (Tx.lst hl7)))⟩, rfl, ?_⟩
        · rw [hm, hsum, List.map_append, List.sum_append]
          omega
        · rw [List.map_append, List.sum_append]
          omega
    · exact s_ret ev_c fun H4 e4 => k H4 ((e2.trans e3).trans e4)
/-- what has no list stays itself -/
def spFz : Sp := fun vs H Q _ => ∃ v z, vs = [v] ∧ WV H v z ∧ z.sz ≤ 1000 ∧ RetV v H Q
theorem sc_fz : FnScope ["thing", "begun", "whole", "done"] ["thing"] (defScope s_frozen) := ⟨rfl, rfl, rfl, by decide +kernel, rfl, by decide +kernel, by decide +kernel⟩
theorem spv_hl {v : V} {z : Wd} {H : Hp} (h : WV H v z) (hz : z.sz ≤ 1000) : SpV spHL ([v] ++ []) H (.bl false) := fun H1 e Q q E => ⟨v, z, rfl, h.ext e, hz, q⟩
theorem ok_frozen (T : T29 P w K mg base) : Ok P w K mg base "frozen" ["thing"] 2 spFz := by
  obtain ⟨fH, dH, GH, bH, kH, mH⟩ := (ok_has_lists T).ex
  refine T.ok 8 rfl sc_fz (fun vs H Q E h => ?_) (fun kV doc pm an cdv ct us hl => match us, hl with | [_], _ => rfl) (fun f cdv A outer s H vs Q E hr h => ?_)
  · obtain ⟨v, z, rfl, _⟩ := h
    rfl
  · obtain ⟨v, z, rfl, hw, hz, k⟩ := h
    refine ⟨_, pss_cons (ps_if (pt_not (pt_val (pe_call GH hr (by rfl) mH kH bH .nil pass0 (pa_cons (pv 0) pa_nil)))) (pss_one (ps_ret (pv 0))) pss_nil)
      (pss_cons ps_never (pss_one ps_never)), ?_⟩
    exact q_when (b := true) (et_not (a := false) (et_B (ev_call (ea_cons (ev_var rfl) ea_nil) (spv_hl hw hz)))) (fun _ H1 e1 => s_ret (ev_var rfl) fun H2 e2 => k H2 (e1.trans e2)) fun z => nomatch z
end
end K29

set_option Elab.async false
set_option linter.all false
set_option maxRecDepth 100000
set_option maxHeartbeats 4000000
/-! Names, words fit. -/
namespace K29
open PySem PySem.Spec PyProof.Rows L2 Evl
def N5 : List Str := ["a", "b", "f", "g", "p"]
structure N5ok (x : Str) : Prop where
  an : Txt.isalnum x = true
  asc : Txt.isascii x = true
  low : Txt.islower x = true
  one : ∃ c, atI x.cps.toList 0 = some c ∧ decide (c ∈ ("abcdefghijklmnopqrstuvwxyz" : Str).cps.toList) = true
  len : x.length = 1
theorem n5 {x : Str} (h : x ∈ N5) : N5ok x := by
  have h2 : x = "a" ∨ x = "b" ∨ x = "f" ∨ x = "g" ∨ x = "p" := by simpa [N5] using h
  rcases h2 with rfl | rfl | rfl | rfl | rfl
  · exact ⟨by decide +kernel, by decide +kernel, by decide +kernel, ⟨97, by decide +kernel, by decide +kernel⟩, by decide +kernel⟩
  · exact ⟨by decide +kernel, by decide +kernel, by decide +kernel, ⟨98, by decide +kernel, by decide +kernel⟩, by decide +kernel⟩
  · exact ⟨by decide +kernel, by decide +kernel, by decide +kernel, ⟨102, by decide +kernel, by decide +kernel⟩, by decide +kernel⟩
  · exact ⟨by decide +kernel, by decide +kernel, by decide +kernel, ⟨103, by decide +kernel, by decide +kernel⟩, by decide +kernel⟩
  · exact ⟨by decide +kernel, by decide +kernel, by decide +kernel, ⟨112, by decide +kernel, by decide +kernel⟩, by decide +kernel⟩
theorem nm5 (w : Wd) : w.nm ∈ N5 := by cases w <;> simp [Wd.nm, N5]
section
variable {K : PySem.W.Frag} {σ : L2.St} {H G : Hp} {te ta tb : TE} {v : V}
theorem ev_m0 {g : Str → Bool} {x : Str} (h : Ev te σ H (.str x)) : Ev (tM0 (fun x xs H Q => ∃ a, x = V.str a ∧ xs = [] ∧ True ∧ Q (.bl (g a)) H) te) σ H (.bl (g x)) := fun H1 e Q q =>
  h H1 e _ fun H2 e2 => ⟨⟨x, rfl⟩, x, rfl, rfl, trivial, q H2 e2⟩
theorem rv_insign {c : Nat} {z : Str} : RV (fun x y H Q => ∃ (c : Nat) (z : Str), x = .str ⟨#[c]⟩ ∧ y = .str z ∧ Q (.bl (decide (c ∈ z.cps.toList))) H) (.str ⟨#[c]⟩) (.str z) H (.bl (decide (c ∈ z.cps.toList))) := fun H1 _ _ q => ⟨c, z, rfl, rfl, q H1 (Ex.refl H1)⟩
theorem rv_notInKd {d : Addr} {x : Str} (h : PySem.W.nsIn K d x = some none) : RV (fun x y H Q => ∃ (z : Str) (r : Option Value), x = .str z ∧ y = .ref d ∧ PySem.W.nsIn K d z = some r ∧ Q (.bl (!r.isSome)) H) (.str x) (.ref d) H (.bl true) := fun H1 _ _ q => ⟨x, none, rfl, rfl, h, q H1 (Ex.refl H1)⟩
end
section
variable {P : Program} {w : World} {K : PySem.W.Frag} {mg : Str → Option Value} {base : Heap}
def spList : Sp := fun vs H Q _ => ∃ a xs, vs = [.ref a] ∧ (H a = some (.lst xs) ∨ H a = some (.tup xs)) ∧ RetV (.bl true) H Q
theorem sc_list : FnScope ["thing"] ["thing"] (defScope s_is_list) := ⟨rfl, rfl, rfl, by decide +kernel, rfl, by decide +kernel, by decide +kernel⟩
theorem ok_is_list (T : T29 P w K mg base) : Ok P w K mg base "is_list" ["thing"] 1 spList := by
  refine T.ok 1 rfl sc_list (fun vs H Q E h => ?_) (fun kV doc pm an cdv ct us hl => match us, hl with | [_], _ => rfl) (fun f cdv A outer s H vs Q E hr h => ?_)
  · obtain ⟨a, xs, rfl, _⟩ := h
    rfl
  · obtain ⟨a, xs, rfl, hx, k⟩ := h
    refine ⟨_, pss_one (ps_ret (pe_isiLT T.isi T.list T.tuple (pv 0))), ?_⟩
    rcases hx with hx | hx
    · exact s_ret (ev_isi2 (m := "list") (b1 := true) (b2 := false) (ev_var rfl) (.base (.lst hx)) (by decide +kernel) (by decide +kernel)) k
    · exact s_ret (ev_isi2 (m := "tuple") (b1 := false) (b2 := true) (ev_var rfl) (.base (.tup hx)) (by decide +kernel) (by decide +kernel)) k
def spPair : Sp := fun vs H Q _ => ∃ a x y, vs = [.ref a] ∧ H a = some (.tup [x, y]) ∧ RetV (.bl true) H Q
theorem sc_pair : FnScope ["thing"] ["thing"] (defScope s_is_pair) := ⟨rfl, rfl, rfl, by decide +kernel, rfl, by decide +kernel, by decide +kernel⟩
theorem ok_is_pair (T : T29 P w K mg base) : Ok P w K mg base "is_pair" ["thing"] 2 spPair := by
  obtain ⟨fL, dL, GL, bL, kL, mL⟩ := (ok_is_list T).ex
  refine T.ok 2 rfl sc_pair (fun vs H Q E h => ?_) (fun kV doc pm an cdv ct us hl => match us, hl with | [_], _ => rfl) (fun f cdv A outer s H vs Q E hr h => ?_)
  · obtain ⟨a, x, y, rfl, _⟩ := h
    rfl
  · obtain ⟨a, x, y, rfl, hx, k⟩ := h
    refine ⟨_, pss_one (ps_ret (pe_and (pe_call GL hr (by rfl) mL kL bL .nil pass0 (pa_cons (pv 0) pa_nil)) (pe_one (pe_cmpR op_eq (pe_callB call_len (by rfl) T.len PySem.boot_len (pa_cons (pv 0) pa_nil)) pe_int (nomark _))))), ?_⟩
    exact s_ret (ev_andV (b := true) (a := true) (ev_call (ea_cons (ev_var rfl) ea_nil) fun H1 e Q q E => ⟨a, [x, y], rfl, .inr (e _ _ hx), q⟩) fun _ => ev_op (ev_lenT (ev_var rfl) (st_of hx)) ev_c (rv_eq rfl)) k
def spName : Sp := fun vs H Q _ => ∃ x, vs = [.str x] ∧ x ∈ N5 ∧ RetV (.bl true) H Q
theorem sc_spelled : FnScope ["thing"] ["thing"] (defScope s_is_spelled) := ⟨rfl, rfl, rfl, by decide +kernel, rfl, by decide +kernel, by decide +kernel⟩
theorem ok_is_spelled (T : T29 P w K mg base) : Ok P w K mg base "is_spelled" ["thing"] 1 spName := by
  obtain ⟨tl, mLo⟩ := T.longest
  refine T.ok 3 rfl sc_spelled (fun vs H Q E h => ?_) (fun kV doc pm an cdv ct us hl => match us, hl with | [_], _ => rfl) (fun f cdv A outer s H vs Q E hr h => ?_)
  · obtain ⟨x, rfl, _⟩ := h
    rfl
  · obtain ⟨x, rfl, hx, k⟩ := h
    have n := n5 hx
    refine ⟨_, pss_one (ps_ret (pe_and (pe_isiB T.isi T.str PyProof.Rows.boot_str (pv 0)) (pe_and (pe_cmpR op_le (pe_callB call_len (by rfl) T.len PySem.boot_len (pa_cons (pv 0) pa_nil)) (pe_glob (v := .int 8) rfl mLo ⟨_, rfl⟩) (nomark _))
      (pe_and (pe_m0 PySem.F.slot_str_isalnum PySem.F.type_str_isalnum mt_isalnum (pv 0)) (pe_one (pe_m0 PySem.F.slot_str_isascii PySem.F.type_str_isascii mt_isascii (pv 0))))))), ?_⟩
    refine s_ret (ev_andV (a := true) (b := true) (ev_isi (ev_var rfl) (.base (.str x)) (by decide +kernel)) fun _ => ev_andV (a := true) (b := true) (ev_is (ev_op (ev_lenS (ev_var rfl) (by rw [n.len]; decide)) ev_c rv_I0) ?_) fun _ => ev_andV (a := true) (b := true) (ev_is (ev_m0 (g := Txt.isalnum) (ev_var rfl)) (by rw [n.an])) fun _ => ev_is (ev_m0 (g := Txt.isascii) (ev_var rfl)) (by rw [n.asc])) k
    rw [n.len]
    exact congrArg V.bl (by decide)
theorem sc_name : FnScope ["thing"] ["thing"] (defScope s_is_name) := ⟨rfl, rfl, rfl, by decide +kernel, rfl, by decide +kernel, by decide +kernel⟩
theorem ok_is_name (T : T29 P w K mg base) : Ok P w K mg base "is_name" ["thing"] 2 spName := by
  obtain ⟨tl, mLe⟩ := T.letters
  obtain ⟨es, nn, D⟩ := T.kd
  obtain ⟨fS, dS, GS, bS, kS, mS⟩ := (ok_is_spelled T).ex
  refine T.ok 4 rfl sc_name (fun vs H Q E h => ?_) (fun kV doc pm an cdv ct us hl => match us, hl with | [_], _ => rfl) (fun f cdv A outer s H vs Q E hr h => ?_)
  · obtain ⟨x, rfl, _⟩ := h
    rfl
  · obtain ⟨x, rfl, hx, k⟩ := h
    have n := n5 hx
    obtain ⟨c, hc, hc2⟩ := n.one
    refine ⟨_, pss_one (ps_ret (pe_and (pe_call GS hr (by rfl) mS kS bS .nil pass0 (pa_cons (pv 0) pa_nil)) (pe_and (pe_m0 PySem.F.slot_str_islower PySem.F.type_str_islower mt_islower (pv 0))
      (pe_and (pe_cmpR op_in_sign (pe_ix ix_str (pv 0) pe_int (fun _ _ => rfl)) (pe_glob (v := .str "abcdefghijklmnopqrstuvwxyz") rfl mLe ⟨_, rfl⟩) (by rfl))
      (pe_one (pe_cmpR (op_notIn_kd D) (pv 0) (pe_glob (v := .ref (He.ga K "KEPT")) rfl T.kept rfl) (by rfl))))))), ?_⟩
    exact s_ret (ev_andV (a := true) (b := true) (ev_call (ea_cons (ev_var rfl) ea_nil) fun H1 e Q q E => ⟨x, rfl, hx, q⟩) fun _ => ev_andV (a := true) (b := true) (ev_is (ev_m0 (g := Txt.islower) (ev_var rfl)) (by rw [n.low])) fun _ =>
      ev_andV (a := true) (b := true) (ev_is (ev_op (ev_op (ev_var rfl) ev_c (rv_ixS (by rw [n.len]; decide) hc)) ev_c rv_insign) (by rw [hc2])) fun _ => ev_op (ev_var rfl) ev_c (rv_notInKd (T.kn x hx))) k
end
end K29

set_option Elab.async false
set_option linter.all false
set_option maxRecDepth 100000
set_option maxHeartbeats 4000000
/-! Loops with pairs; pairs judged; words fit. -/
namespace K29
open PySem PySem.Spec PyProof.Rows L2 Evl
section
variable {K : PySem.W.Frag} {σ : L2.St} {H G : Hp} {te ta tb tl : TE} {v : V} {D : Ends} {tu tz : TS}
abbrev gPair (K : PySem.W.Frag) (j1 j2 : Nat) : TG := gTup K 2 (gCons (gName j1) (gCons (gName j2) gNil))
/-- for i, x in enumerate(xs) -/
theorem s_forEnum {a : Addr} {xs : List V} {j1 j2 : Nat} (h : Ev tl σ H (.ref a)) (hx : SqL K H a xs) (Pv : Nat → L2.St → Hp → Prop) (h0 : ∀ H1, Ex H H1 → Pv 0 σ H1) (hl : ∀ i σ' H', i ≤ xs.length → Pv i σ' H' → SqL K H' a xs)
    (hs : ∀ (i : Nat) x σ' H' H2, xs[i]? = some x → Pv i σ' H' → Ex H' H2 → tu { D with nx := Pv (i + 1), ct := Pv (i + 1), bk := D.nx } ((σ'.set j1 (some (.int i))).set j2 (some x)) H2) (hd : ∀ σ' H', Pv xs.length σ' H' → D.nx σ' H') : tFor (iEnum K (tCons tl tNil)) (gPair K j1 j2) tu D σ H :=
  h H (Ex.refl H) _ fun H1 e => ⟨a, xs, rfl, ex_l e hx, for_it walk_enum Pv (h0 H1 e) hl (fun i v σ' H' H2 hi p y => by
    obtain ⟨T, x, z, rfl, hT, rfl, e1, e2⟩ := y
    cases e1
    exact ⟨T, _, rfl, SqT.of upd_same, rfl, _, _, rfl, _, _, rfl, rfl, hs i z σ' H' _ e2 p (Ex.new hT)⟩) hd⟩
theorem q_forEnum {a : Addr} {xs : List V} {j1 j2 : Nat} (h : Ev tl σ H (.ref a)) (hx : SqL K H a xs) (Pv : Nat → L2.St → Hp → Prop) (h0 : ∀ H1, Ex H H1 → Pv 0 σ H1) (hl : ∀ i σ' H', i ≤ xs.length → Pv i σ' H' → SqL K H' a xs)
    (hs : ∀ (i : Nat) x σ' H' H2, xs[i]? = some x → Pv i σ' H' → Ex H' H2 → tu { D with nx := Pv (i + 1), ct := Pv (i + 1), bk := tz D } ((σ'.set j1 (some (.int i))).set j2 (some x)) H2) (hd : ∀ σ' H', Pv xs.length σ' H' → tz D σ' H') : tSeq (tFor (iEnum K (tCons tl tNil)) (gPair K j1 j2) tu) tz D σ H :=
  s_forEnum (D := { D with nx := tz D }) h hx Pv h0 hl hs hd
end
/-! ### rows of names and weights -/
def RV (H : Hp) (v : V) (r : Str × Int) : Prop := ∃ a, v = .ref a ∧ H a = some (.tup [.str r.1, .int r.2])
def RVs (H : Hp) (vs : List V) (rs : List (Str × Int)) : Prop := vs.length = rs.length ∧ ∀ (i : Nat) (v : V), vs[i]? = some v → ∃ r, rs[i]? = some r ∧ RV H v r
section
variable {H G : Hp} {v : V} {r : Str × Int} {vs : List V} {rs : List (Str × Int)}
theorem RV.tx (e : Tx H G) (h : RV H v r) : RV G v r := let ⟨a, h1, h2⟩ := h; ⟨a, h1, e _ _ h2⟩
theorem RVs.tx (e : Tx H G) (h : RVs H vs rs) : RVs G vs rs := ⟨h.1, fun i v hv => let ⟨r, a, b⟩ := h.2 i v hv; ⟨r, a, b.tx e⟩⟩
theorem RVs.ext (e : Ex H G) (h : RVs H vs rs) : RVs G vs rs := h.tx (Tx.of e)
end
theorem flat_strs (rs : List (Str × Int)) : (rs.map fun r => V.str r.1).all flatV = true := by
  induction rs with
  | nil => rfl
  | cons r rs ih => exact ih
theorem eqV_str (x y : Str) : eqV (.str x) (.str y) = decide (x = y) := rfl
theorem inV_no : ∀ {rs : List (Str × Int)} {i : Nat} {r : Str × Int}, (rs.map (·.1)).Nodup → rs[i]? = some r → inV (.str r.1) ((rs.take i).map fun r => V.str r.1) = false := by
  intro rs i r nd h
  unfold inV
  rw [List.any_eq_false]
  intro y hy
  obtain ⟨z, hz, rfl⟩ := List.mem_map.mp hy
  rw [eqV_str]
  intro q
  have q1 : z.1 = r.1 := of_decide_eq_true q
  obtain ⟨j, hj⟩ := List.getElem?_of_mem hz
  have hji : j < i := by
    have h1 := (List.getElem?_eq_some_iff.mp hj).1
    rw [List.length_take] at h1
    omega
  rw [List.getElem?_take_of_lt hji] at hj
  have e1 : (rs.map (·.1))[j]? = some z.1 := by rw [List.getElem?_map, hj] <;> rfl
  have e2 : (rs.map (·.1))[i]? = some r.1 := by rw [List.getElem?_map, h] <;> rfl
  rw [← q1] at e2
  have e3 := nd_ix nd e1 e2
  omega
/-- a call of the def that a name holds -/
theorem ev_callL {σ : L2.St} {H : Hp} {i : Nat} {f : Addr} {sp : Sp} {dvs vs : List V} {E : XK} {ta : TA} {z : V} (hs : σ[i]? = some (some (.ref f))) (h : EvA ta σ H vs) (hp : SpV sp (vs ++ dvs) H z) : Ev (tCallL i f sp dvs E ta) σ H z := fun H1 e Q q =>
  ⟨hs, h H1 e _ fun H2 e2 => hp H2 (e.trans e2) Q (fun H3 e3 => q H3 (e2.trans e3)) E⟩
/-- rows that an order may have -/
structure RowsOk (rs : List (Str × Int)) : Prop where
  n5 : ∀ r ∈ rs, r.1 ∈ N5
  nd : (rs.map (·.1)).Nodup
  one : ∀ r ∈ rs, 1 ≤ r.2 ∧ r.2 ≤ 1000
  len : rs.length ≤ 5
section
variable {P : Program} {w : World} {K : PySem.W.Frag} {mg : Str → Option Value} {base : Heap}
def spWeight : Sp := fun vs H Q _ => ∃ i : Int, vs = [.int i] ∧ 1 ≤ i ∧ RetV (.bl true) H Q
theorem sc_weight : FnScope ["thing"] ["thing"] (defScope s_is_weight) := ⟨rfl, rfl, rfl, by decide +kernel, rfl, by decide +kernel, by decide +kernel⟩
theorem ok_is_weight (T : T29 P w K mg base) : Ok P w K mg base "is_weight" ["thing"] 2 spWeight := by
  obtain ⟨fL, dL, GL, bL, kL, mL⟩ := (ok_is_integer T).ex
  refine T.ok 17 rfl sc_weight (fun vs H Q E h => ?_) (fun kV doc pm an cdv ct us hl => match us, hl with | [_], _ => rfl) (fun f cdv A outer s H vs Q E hr h => ?_)
  · obtain ⟨i, rfl, _⟩ := h
    rfl
  · obtain ⟨i, rfl, hi, k⟩ := h
    refine ⟨_, pss_one (ps_ret (pe_and (pe_call GL hr (by rfl) mL kL bL .nil pass0 (pa_cons (pv 0) pa_nil)) (pe_one (pe_cmpR op_ge (pv 0) pe_int (nomark _))))), ?_⟩
    exact s_ret (ev_andV (b := true) (a := true) (ev_call (ea_cons (ev_var rfl) ea_nil) fun H1 e Q q E => ⟨i, rfl, q⟩) fun _ => ev_is (ev_op (ev_var rfl) ev_c rv_I0) (by simp [hi])) k
def spBad (K : PySem.W.Frag) (mg : Str → Option Value) : Sp := fun vs H Q _ => ∃ a b fw xs rs, vs = [.ref a, .ref b, .ref fw] ∧ mg "is_weight" = some (.ref fw) ∧ H a = some (.lst xs) ∧ RVs H xs rs ∧ RowsOk rs ∧ H b = some (.lst []) ∧ RetV .non H Q
theorem sc_bad : FnScope ["things", "barred", "is_right", "stood", "index", "thing"] ["things", "barred", "is_right"] (defScope s_bad_pair) := ⟨rfl, rfl, rfl, by decide +kernel, rfl, by decide +kernel, by decide +kernel⟩
theorem ok_bad_pair (T : T29 P w K mg base) : Ok P w K mg base "bad_pair" ["things", "barred", "is_right"] 3 (spBad K mg) := by
  obtain ⟨fL, dL, GL, bL, kL, mL⟩ := (ok_is_list T).ex
  obtain ⟨fP, dP, GP, bP, kP, mP⟩ := (ok_is_pair T).ex
  obtain ⟨fN, dN, GN, bN, kN, mN⟩ := (ok_is_name T).ex
  obtain ⟨fW, dW, GW, bW, kW, mW⟩ := (ok_is_weight T).ex
  refine T.ok 6 rfl sc_bad (fun vs H Q E h => ?_) (fun kV doc pm an cdv ct us hl => match us, hl with | [_, _, _], _ => rfl) (fun f cdv A outer s H vs Q E hr h => ?_)
  · obtain ⟨a, b, fw, xs, rs, rfl, _⟩ := h
    rfl
  · obtain ⟨a, b, fw, xs, rs, rfl, hm, ha, hR, R, hb, k⟩ := h
    obtain rfl : fw = fW := Value.ref.inj (Option.some.inj (hm.symm.trans mW))
    have hr1 : Room 1 _ := hr.mono (by decide)
    refine ⟨_, pss_cons (ps_if (pt_not (pt_val (pe_call GL hr1 (by rfl) mL kL bL .nil pass0 (pa_cons (pv 0) pa_nil)))) (pss_one (ps_ret pe_int)) pss_nil)
      (pss_cons (ps_set (i := 3) sc_bad.nd rfl (Or.inl rfl) (pe_callTy call_list_of (by rfl) T.list PyProof.Rows.boot_list (pa_cons (pv 1) pa_nil)))
      (pss_cons (ps_for PassesOwn.never rfl (pi_enum (by rfl) T.enumerate (pa_cons (pv 0) pa_nil)) (pg_tup rfl (pgs_cons (pg_name (i := 4) sc_bad.nd rfl (Or.inl rfl)) (pgs_cons (pg_name (i := 5) sc_bad.nd rfl (Or.inl rfl)) pgs_nil)))
        (pss_cons (ps_if (PW.pt (pw_or (pt_not (pt_val (pe_call GP hr (by rfl) mP kP bP .nil pass0 (pa_cons (pv 5) pa_nil))))
          (pw_or (pt_not (pt_val (pe_call GN hr (by rfl) mN kN bN .nil pass0 (pa_cons (pe_ix ix_tup (pv 5) pe_int (fun _ _ => rfl)) pa_nil))))
          (pw_or (pt_cmpR op_in_seq (pe_ix ix_tup (pv 5) pe_int (fun _ _ => rfl)) (pv 3) (by rfl))
          (pw_or1 (pt_not (pt_val (pe_callL (i := 2) GW hr rfl (Or.inl rfl) kW bW .nil pass0 (pa_cons (pe_ix ix_tup (pv 5) pe_int (fun _ _ => rfl)) pa_nil))))))))) (pss_one (ps_ret (pv 4))) pss_nil)
        (pss_one (ps_expr (pe_bm PySem.F.plainAttrs_list PySem.F.slot_list_append PySem.F.type_list_append mt_append (pv 3) (pa_cons (pe_ix ix_tup (pv 5) pe_int (fun _ _ => rfl)) pa_nil))))))
      (pss_one (ps_ret pe_non)))), ?_⟩
    refine q_when (b := false) (et_not (a := true) (et_B (ev_call (ea_cons (ev_var rfl) ea_nil) fun H1 e Q q E => ⟨a, xs, rfl, .inl (e _ _ ha), q⟩))) (fun z => nomatch z) fun _ H1 e1 => ?_
    refine q_asgL (el_list (ev_var rfl) (sq_of (e1 _ _ hb))) fun p H2 hp e2 h2 => ?_
    have hp0 : H p = none := fresh_back e1 hp
    refine q_forEnum (xs := xs) (ev_var rfl) (sq_of ((e1.trans e2) _ _ ha)) (fun i σ' H' => ∃ u v : Option V, σ' = [some (.ref a), some (.ref b), some (.ref fw), some (.ref p), u, v] ∧ Ex H H' ∧ H' p = some (.lst ((rs.take i).map fun r => .str r.1))) ?_ ?_ ?_ ?_
    · intro H3 e3
      exact ⟨none, none, rfl, (e1.trans e2).trans e3, e3 _ _ h2⟩
    · rintro i σ' H' hi ⟨u, v, rfl, e, _⟩
      exact sq_of (e _ _ ha)
    · rintro i x σ' H' H3 hx ⟨u, v, rfl, e, hp3⟩ e3
      obtain ⟨r, hr1, c, rfl, hc⟩ := (hR.ext (e.trans e3)).2 i x hx
      have hmem : r ∈ rs := List.mem_of_getElem? hr1
      have hil : i < rs.length := (List.getElem?_eq_some_iff.mp hr1).1
      have hp4 := e3 _ _ hp3
      have ev0 : ∀ {σ : L2.St} {G : Hp}, σ[5]? = some (some (.ref c)) → Ex H3 G → Ev (tOp (rIxT K) (tVar 5) (tC (.int 0))) σ G (.str r.1) := fun hs e => ev_op (ev_var hs) ev_c (rv_ixT (st_of (e _ _ hc)) (atI_nat (j := 0) rfl))
      have hin : inV (.str r.1) ((rs.take i).map fun r => V.str r.1) = false := inV_no R.nd hr1
      have hfl : ((rs.take i).map fun r => V.str r.1).all flatV = true := flat_strs _
      refine q_when (b := false) (et_or (a := false) (et_not (a := true) (et_B (ev_call (ea_cons (ev_var rfl) ea_nil) fun H1 e Q q E => ⟨c, _, _, rfl, e _ _ hc, q⟩))) fun _ =>
        et_or (a := false) (et_not (a := true) (et_B (ev_call (ea_cons (ev0 rfl (Ex.refl _)) ea_nil) fun H1 e Q q E => ⟨r.1, rfl, R.n5 r hmem, q⟩))) fun _ =>
        et_or (a := false) (et_is (et_test (ev_op (ev0 rfl (Ex.refl _)) (ev_var rfl) (rv_isL (sq_of hp4) rfl hfl))) hin) fun _ =>
        et_not (a := true) (et_B (ev_callL rfl (ea_cons (ev_op (ev_var rfl) ev_c (rv_ixT (st_of hc) (atI_nat (j := 1) rfl))) ea_nil) fun H1 e Q q E => ⟨r.2, rfl, (R.one r hmem).1, q⟩))) (fun z => nomatch z) fun _ H4 e4 => ?_
      refine s_app (e4 _ _ hp4) (ev_var rfl) (ev0 rfl e4) (by have := R.len; simp only [List.length_map, List.length_take]; omega) fun H5 e5 => ?_
      refine ⟨_, _, rfl, Ex.mut (((e.trans e3).trans e4).trans e5) hp0, ?_⟩
      rw [upd_same, List.take_succ, hr1, List.map_append] <;> rfl
    · rintro σ' H' ⟨u, v, rfl, e, _⟩
      exact s_ret ev_c fun H4 e4 => k H4 (e.trans e4)
end
end K29

set_option Elab.async false
set_option linter.all false
set_option maxRecDepth 100000
set_option maxHeartbeats 4000000
/-! Words fit, checked words. -/
namespace K29
open PySem PySem.Spec PyProof.Rows L2 Evl
section
variable {K : PySem.W.Frag} {σ : L2.St} {H G : Hp} {te ta tb tl : TE} {v : V} {D : Ends} {tu tz : TS}
theorem cut1 {α : Type} (x : α) (xs : List α) : ((x :: xs).drop (HT.sIx (x :: xs).length 0 (some 1))).take (HT.sIx (x :: xs).length (x :: xs).length none - HT.sIx (x :: xs).length 0 (some 1)) = xs := by
  have e1 : HT.sIx (x :: xs).length 0 (some 1) = 1 := by simp [HT.sIx]
  have e2 : HT.sIx (x :: xs).length (x :: xs).length none = (x :: xs).length := by simp [HT.sIx]
  rw [e1, e2]
  simp
/-- t[1:] -/
theorem eu_tail {a : Addr} {x : V} {xs : List V} (h : Ev te σ H (.ref a)) (ha : SqT K H a (x :: xs)) : EvU (tSl (rSlT K) te (tPart (tC (.int 1))) tNoPart) σ H xs := fun H1 e Q q =>
  h H1 e _ fun H2 e2 => ⟨1, rfl, ⟨a, x :: xs, rfl, ex_t (e.trans e2) ha, fun z => by
    have e1 : HT.sIx (x :: xs).length 0 (some 1) = 1 := by simp [HT.sIx]
    rw [e1] at z
    exact absurd z.1 (by decide), fun p hp => by
    have e0 : cutV (x :: xs) (some 1) none = xs := cut1 x xs
    rw [e0]
    exact q p _ (fresh_back e2 hp) (e2.trans (Ex.new hp)) upd_same⟩⟩
/-- xs.extend(t), t a new tuple -/
theorem s_extU {l : Addr} {xs zs : List V} (hl : H l = some (.lst xs)) (ha : Ev ta σ H (.ref l)) (hb : EvU te σ H zs) (hs : xs.length + zs.length ≤ 100000) (k : ∀ H1, Ex H H1 → D.nx σ (upd H1 l (.lst (xs ++ zs)))) :
    tDrop (tBM K "list" (rExtT K) ta (tCons te tNil)) D σ H := ha H (Ex.refl H) _ fun H1 e1 => ⟨.inl ⟨rfl, _, sq_of (e1 l _ hl)⟩, hb H1 e1 _ fun p H2 _ e2 hp =>
  ⟨l, p, xs, zs, rfl, rfl, e2 l _ (e1 l _ hl), st_of hp, sz_of hs, k H2 (e1.trans e2)⟩⟩
/-- a call with a new list ahead -/
theorem ev_callNL {sp : Sp} {vs dvs xs : List V} {E : XK} {tr : TA} {z : V} (h : EvL te σ H xs) (hr : EvA tr σ H vs) (hp : ∀ p H1, Ex H H1 → H1 p = some (.lst xs) → SpV sp ((.ref p :: vs) ++ dvs) H1 z) : Ev (tCall sp dvs E (tCons te tr)) σ H z := fun H1 e Q q =>
  h H1 e _ fun p H2 _ e2 h2 => hr H2 (e.trans e2) _ fun H3 e3 => hp p H3 ((e.trans e2).trans e3) (e3 _ _ h2) H3 (Ex.refl _) Q (fun H4 e4 => q H4 ((e2.trans e3).trans e4)) E
theorem ev_isN {b : Bool} (h : Ev te σ H v) (e : decide (v = .non) = b) : Ev (tIsN te) σ H (.bl b) := fun H1 x Q q => h H1 x _ fun H2 x2 => by
  subst e
  exact q H2 x2
end
section
variable {P : Program} {w : World} {K : PySem.W.Frag} {mg : Str → Option Value} {base : Heap}
def spPlaces : Sp := fun vs H Q _ => ∃ v z, vs = [v, .non] ∧ WV H v z ∧ RetV (.bl true) H Q
theorem sc_places : FnScope ["thing", "arities"] ["thing", "arities"] (defScope s_has_places) := ⟨rfl, rfl, rfl, by decide +kernel, rfl, by decide +kernel, by decide +kernel⟩
theorem ok_has_places (T : T29 P w K mg base) : Ok P w K mg base "has_places" ["thing", "arities"] 3 spPlaces := by
  obtain ⟨tl, mMo⟩ := T.most
  obtain ⟨fN, dN, GN, bN, kN, mN⟩ := (ok_is_name T).ex
  refine T.ok 9 rfl sc_places (fun vs H Q E h => ?_) (fun kV doc pm an cdv ct us hl => match us, hl with | [_, _], _ => rfl) (fun f cdv A outer s H vs Q E hr h => ?_)
  · obtain ⟨v, z, rfl, _⟩ := h
    rfl
  · obtain ⟨v, z, rfl, hw, k⟩ := h
    obtain ⟨r, us, rfl, hr1, hu⟩ := hw.tup
    have hul := hu.length
    have ha2 := args_two z
    refine ⟨_, pss_cons (ps_if (PW.pt (pw_or (pt_not (pt_val (pe_isiLT T.isi T.list T.tuple (pv 0)))) (pw_or (pt_cmpR op_eq (pe_callB call_len (by rfl) T.len PySem.boot_len (pa_cons (pv 0) pa_nil)) pe_int (nomark _))
        (pw_or1 (pt_not (pt_val (pe_isiB T.isi T.str PyProof.Rows.boot_str (pe_ix ix_tup (pv 0) pe_int (fun _ _ => rfl))))))))) (pss_one (ps_ret pe_bl)) pss_nil)
      (pss_cons (ps_if (pt_cmp (pc_isN (pv 1))) (pss_one (ps_ret (pe_and (pe_cmpR op_le (pe_callB call_len (by rfl) T.len PySem.boot_len (pa_cons (pv 0) pa_nil)) (pe_op op_add (pe_glob (v := .int 6) rfl mMo ⟨_, rfl⟩) pe_int) (nomark _))
        (pe_one (pe_call GN hr (by rfl) mN kN bN .nil pass0 (pa_cons (pe_ix ix_tup (pv 0) pe_int (fun _ _ => rfl)) pa_nil)))))) pss_nil)
      (pss_one ps_never)), ?_⟩
    have ev0 : ∀ {G : Hp}, Ex H G → Ev (tOp (rIxT K) (tVar 0) (tC (.int 0))) [some (.ref r), some .non] G (.str z.nm) := fun e => ev_op (ev_var rfl) ev_c (rv_ixT (st_of (e _ _ hr1)) (atI_nat (j := 0) rfl))
    have hl : (V.str z.nm :: us).length = us.length + 1 := rfl
    refine q_when (b := false) (et_or (a := false) (et_not (a := true) (et_B (ev_isi2 (m := "tuple") (b1 := false) (b2 := true) (ev_var rfl) (.base (.tup hr1)) (by decide +kernel) (by decide +kernel)))) fun _ =>
      et_or (a := false) (et_is (et_test (ev_op (ev_lenT (ev_var rfl) (st_of hr1)) ev_c (rv_eq rfl))) (decide_eq_false (by rw [hl]; intro q; have := V.int.inj q; omega))) fun _ =>
      et_not (a := true) (et_B (ev_isi (ev0 (Ex.refl _)) (.base (.str _)) (by decide +kernel)))) (fun z => nomatch z) fun _ H1 e1 => ?_
    refine q_when (b := true) (et_test (ev_isN (ev_var rfl) rfl)) (fun _ H2 e2 => ?_) (fun z => nomatch z)
    refine s_ret (ev_andV (a := true) (b := true) (ev_is (ev_op (ev_lenT (ev_var rfl) (st_of ((e1.trans e2) _ _ hr1))) (ev_op ev_c ev_c rv_I0) rv_I0) ?_) fun _ =>
      ev_call (ea_cons (ev0 (e1.trans e2)) ea_nil) fun H1 e Q q E => ⟨_, rfl, nm5 z, q⟩) fun H3 e3 => k H3 ((e1.trans e2).trans e3)
    rw [hl]
    exact congrArg V.bl (decide_eq_true (by omega))
def spFit : Sp := fun vs H Q _ => ∃ l v z, vs = [.ref l, .non, .non] ∧ H l = some (.lst [v]) ∧ WV H v z ∧ z.sz ≤ 1000 ∧ RetV (.bl true) H Q
theorem sc_fit : FnScope ["words", "functions", "scope", "stood", "work", "part"] ["words", "functions", "scope"] (defScope s_words_fit) := ⟨rfl, rfl, rfl, by decide +kernel, rfl, by decide +kernel, by decide +kernel⟩
def wsz (ws : List Wd) : Nat := (ws.map Wd.sz).sum
theorem wsz_args (w : Wd) : wsz w.args + 2 = w.sz := by
  cases w <;> simp [wsz, Wd.args, Wd.sz]
theorem len_wsz : ∀ ws : List Wd, ws.length ≤ wsz ws
  | [] => Nat.le_refl _
  | w :: ws => by
    have h := len_wsz ws
    have h1 : 2 ≤ w.sz := by cases w <;> simp [Wd.sz]
    simp only [wsz, List.map_cons, List.sum_cons, List.length_cons] at h ⊢
    omega
theorem WVs.snoc {H : Hp} : ∀ {ts : List Wd} {t : Wd} {vs : List V}, WVs H vs (ts ++ [t]) → ∃ us v, vs = us ++ [v] ∧ WVs H us ts ∧ WV H v t
  | [], t, [v], h => ⟨[], v, rfl, trivial, h.1⟩
  | [], t, [], h => h.elim
  | [], t, _ :: _ :: _, h => h.2.elim
  | _ :: ts, t, [], h => h.elim
  | _ :: ts, t, v :: vs, h => by
    obtain ⟨us, u, e, a, b⟩ := WVs.snoc (ts := ts) h.2
    exact ⟨v :: us, u, by rw [e] <;> rfl, ⟨h.1, a⟩, b⟩
theorem ok_words_fit (T : T29 P w K mg base) : Ok P w K mg base "words_fit" ["words", "functions", "scope"] 4 spFit := by
  obtain ⟨fN, dN, GN, bN, kN, mN⟩ := (ok_has_places T).ex
  refine T.ok 10 rfl sc_fit (fun vs H Q E h => ?_) (fun kV doc pm an cdv ct us hl => match us, hl with | [_, _, _], _ => rfl) (fun f cdv A outer s H vs Q E hr h => ?_)
  · obtain ⟨l, v, z, rfl, _⟩ := h
    rfl
  · obtain ⟨l, v, z, rfl, hl, hw, hz, k⟩ := h
    refine ⟨_, pss_cons (ps_set (i := 3) sc_fit.nd rfl (Or.inl rfl) pe_dnewK)
      (pss_cons (ps_set (i := 4) sc_fit.nd rfl (Or.inl rfl) (pe_callTy call_list_of (by rfl) T.list PyProof.Rows.boot_list (pa_cons (pv 0) pa_nil)))
      (pss_cons (ps_while PassesOwn.never (pt_truth (pv 4) (by intro _; rfl))
        (pss_cons (ps_set (i := 5) sc_fit.nd rfl (Or.inl rfl) (pe_bm0 PySem.F.plainAttrs_list PySem.F.slot_list_pop PySem.F.type_list_pop mt_pop (pv 4)))
        (pss_one (ps_if (pt_not (pt_val (pe_isiB T.isi T.str PyProof.Rows.boot_str (pv 5))))
          (pss_cons (ps_if (pt_not (pt_val (pe_call GN hr (by rfl) mN kN bN .nil pass0 (pa_cons (pv 5) (pa_cons (pv 1) pa_nil))))) (pss_one (ps_ret pe_bl)) pss_nil)
            (pss_one (ps_expr (pe_bm PySem.F.plainAttrs_list PySem.F.slot_list_extend PySem.F.type_list_extend mt_extT (pv 4) (pa_cons (pe_slice sl_tup (pv 5) (po_some pe_int) po_none) pa_nil)))))
          (pss_one ps_never)))))
      (pss_one (ps_ret pe_bl)))), ?_⟩
    intro d hd
    have e0 : Ex H (upd H d (.dK [])) := Ex.new hd
    refine q_asgL (el_list (ev_var rfl) (sq_of (e0 _ _ hl))) fun p H1 hp e1 h1 => ?_
    have hp0 : H p = none := fresh_back e0 hp
    refine q_while (fun m σ' H' => ∃ (xs : List V) (ws : List Wd) (o : Option V), σ' = [some (.ref l), some .non, some .non, some (.ref d), some (.ref p), o] ∧ Ex H H' ∧ H' p = some (.lst xs) ∧ WVs H' xs ws ∧ m = wsz ws ∧ m ≤ 1000) z.sz
      ⟨[v], [z], none, rfl, e0.trans e1, h1, ⟨hw.ext (e0.trans e1), trivial⟩, by simp [wsz], hz⟩ ?_
    rintro m σ' H' ⟨xs, ts, o, rfl, e2, h2, tv, hm, hm2⟩
    refine ⟨!xs.isEmpty, et_truL (ev_var rfl) (SqL.of h2), fun hb H3 e3 => ?_, fun hb H3 e3 => ?_⟩
    · rcases List.eq_nil_or_concat ts with ht | ⟨ts', t, ht⟩
      · subst ht
        match xs, tv with
        | [], _ => exact absurd hb (by decide)
      rw [List.concat_eq_append] at ht
      subst ht
      obtain ⟨us, x, rfl, tv1, tvx⟩ := tv.snoc
      have hsum : wsz (ts' ++ [t]) = wsz ts' + t.sz := by simp [wsz]
      have hlen := len_wsz ts'
      have hle := tv1.length
      refine ⟨fun σ2 H2 => ∃ m', m' < m ∧ ∃ (xs : List V) (ws : List Wd) (o : Option V), σ2 = [some (.ref l), some .non, some .non, some (.ref d), some (.ref p), o] ∧ Ex H H2 ∧ H2 p = some (.lst xs) ∧ WVs H2 xs ws ∧ m' = wsz ws ∧ m' ≤ 1000, fun σ2 H2 z => z, ?_⟩
      refine q_pop (e3 _ _ h2) (ev_var rfl) fun H4 e4 => ?_
      have e5 : Ex H (upd H4 p (.lst us)) := Ex.mut ((e2.trans e3).trans e4) hp0
      have t6 : Tx H' (upd H4 p (.lst us)) := (Tx.of (e3.trans e4)).trans (Tx.lst (e4 _ _ (e3 _ _ h2)))
      obtain ⟨r, as, rfl, hr', ha⟩ := WV.tup (WV.tx t6 tvx)
      have ty : ∀ G, Ex (upd H4 p (.lst us)) G → TyX K G (.ref r) (.type "tuple") := fun G e => .base (.tup (e _ _ hr'))
      refine s_if (b := true) (et_not (a := false) (et_B (ev_isi (ev_var rfl) (ty _ (Ex.refl _)) (by decide +kernel)))) (fun _ H5 e6 => ?_) (fun z => nomatch z)
      refine q_when (b := false) (et_not (a := true) (et_B (ev_call (ea_cons (ev_var rfl) (ea_cons (ev_var rfl) ea_nil)) fun H1 e Q q E => ⟨.ref r, t, rfl, (tvx.tx t6).ext (e6.trans e), q⟩))) (fun z => nomatch z) fun _ H6 e7 => ?_
      have e8 := e6.trans e7
      have hal := ha.length
      have ha2 := args_two t
      have hzs := wsz_args t
      refine s_extU (e8 _ _ upd_same) (ev_var rfl) (eu_tail (ev_var rfl) (st_of (e8 _ _ hr'))) (by omega) fun H7 e9 => ?_
      have e10 := e8.trans e9
      have hl7 : H7 p = some (.lst us) := e10 _ _ upd_same
      have t8 : Tx H' (upd H7 p (.lst (us ++ as))) := (t6.trans (Tx.of e10)).trans (Tx.lst hl7)
      have hs2 : wsz (ts' ++ t.args) = wsz ts' + wsz t.args := by simp [wsz]
      exact ⟨_, by rw [hm, hsum]; omega, us ++ as, ts' ++ t.args, _, rfl, Ex.mut (e5.trans e10) hp0, upd_same, (tv1.tx t8).append (ha.tx ((Tx.of e10).trans (Tx.lst hl7))), rfl, by omega⟩
    · exact s_ret ev_c fun H4 e4 => k H4 ((e2.trans e3).trans e4)
def spWd (n : Nat) (r : V → V) : Sp := fun vs H Q _ => ∃ v z, vs = v :: List.replicate n .non ∧ WV H v z ∧ z.sz ≤ 1000 ∧ RetV (r v) H Q
theorem sc_wf : FnScope ["thing", "functions", "scope"] ["thing", "functions", "scope"] (defScope s_word_fits) := ⟨rfl, rfl, rfl, by decide +kernel, rfl, by decide +kernel, by decide +kernel⟩
theorem ok_word_fits (T : T29 P w K mg base) : Ok P w K mg base "word_fits" ["thing", "functions", "scope"] 5 (spWd 2 fun _ => .bl true) := by
  obtain ⟨fN, dN, GN, bN, kN, mN⟩ := (ok_words_fit T).ex
  refine T.ok 11 rfl sc_wf (fun vs H Q E h => ?_) (fun kV doc pm an cdv ct us hl => match us, hl with | [_, _, _], _ => rfl) (fun f cdv A outer s H vs Q E hr h => ?_)
  · obtain ⟨v, z, rfl, _⟩ := h
    rfl
  · obtain ⟨v, z, rfl, hw, hz, k⟩ := h
    refine ⟨_, pss_one (ps_ret (pe_call GN hr (by rfl) mN kN bN .nil pass0 (pa_cons (pe_lst (pa_cons (pv 0) pa_nil)) (pa_cons (pv 1) (pa_cons (pv 2) pa_nil))))), ?_⟩
    exact s_ret (ev_callNL (el_lst (ea_cons (ev_var rfl) ea_nil) (by show 1 ≤ 100000; decide)) (ea_cons (ev_var rfl) (ea_cons (ev_var rfl) ea_nil)) fun p H1 e1 h1 H2 e2 Q q E => ⟨p, v, z, rfl, e2 _ _ h1, hw.ext (e1.trans e2), hz, q⟩) k
theorem sc_iaw : FnScope ["thing"] ["thing"] (defScope s_is_any_word) := ⟨rfl, rfl, rfl, by decide +kernel, rfl, by decide +kernel, by decide +kernel⟩
theorem ok_is_any_word (T : T29 P w K mg base) : Ok P w K mg base "is_any_word" ["thing"] 6 (spWd 0 fun _ => .bl true) := by
  obtain ⟨fN, dN, GN, bN, kN, mN⟩ := (ok_word_fits T).ex
  refine T.ok 14 rfl sc_iaw (fun vs H Q E h => ?_) (fun kV doc pm an cdv ct us hl => match us, hl with | [_], _ => rfl) (fun f cdv A outer s H vs Q E hr h => ?_)
  · obtain ⟨v, z, rfl, _⟩ := h
    rfl
  · obtain ⟨v, z, rfl, hw, hz, k⟩ := h
    refine ⟨_, pss_one (ps_ret (pe_call GN hr (by rfl) mN kN bN .nil pass0 (pa_cons (pv 0) (pa_cons pe_non (pa_cons pe_non pa_nil))))), ?_⟩
    exact s_ret (ev_call (ea_cons (ev_var rfl) (ea_cons ev_c (ea_cons ev_c ea_nil))) fun H1 e Q q E => ⟨v, z, rfl, hw.ext e, hz, q⟩) k
theorem sc_cw : FnScope ["thing"] ["thing"] (defScope s_checked_word) := ⟨rfl, rfl, rfl, by decide +kernel, rfl, by decide +kernel, by decide +kernel⟩
theorem sc_iaa : FnScope ["thing"] ["thing"] (defScope s_is_any_atom) := ⟨rfl, rfl, rfl, by decide +kernel, rfl, by decide +kernel, by decide +kernel⟩
def spNo : Sp := fun _ _ _ _ => False
theorem ok_is_any_atom (T : T29 P w K mg base) : Ok P w K mg base "is_any_atom" ["thing"] 1 spNo :=
  T.ok 15 rfl sc_iaa (fun vs H Q E h => h.elim) (fun kV doc pm an cdv ct us hl => match us, hl with | [_], _ => rfl) (fun f cdv A outer s H vs Q E hr h => h.elim)
theorem ok_checked_word (T : T29 P w K mg base) : Ok P w K mg base "checked_word" ["thing"] 7 (spWd 0 fun v => v) := by
  obtain ⟨fN, dN, GN, bN, kN, mN⟩ := (ok_is_any_word T).ex
  obtain ⟨fA, dA, GA, bA, kA, mA⟩ := (ok_is_any_atom T).ex
  obtain ⟨fF, dF, GF, bF, kF, mF⟩ := (ok_frozen T).ex
  refine T.ok 16 rfl sc_cw (fun vs H Q E h => ?_) (fun kV doc pm an cdv ct us hl => match us, hl with | [_], _ => rfl) (fun f cdv A outer s H vs Q E hr h => ?_)
  · obtain ⟨v, z, rfl, _⟩ := h
    rfl
  · obtain ⟨v, z, rfl, hw, hz, k⟩ := h
    refine ⟨_, pss_cons (ps_if (PW.pt (pw_and (pt_not (pt_val (pe_call GN hr (by rfl) mN kN bN .nil pass0 (pa_cons (pv 0) pa_nil)))) (pw_and1 (pt_not (pt_val (pe_call GA (hr.mono (by decide)) (by rfl) mA kA bA .nil pass0 (pa_cons (pv 0) pa_nil))))))) (pss_one ps_never) pss_nil)
      (pss_one (ps_ret (pe_call GF (hr.mono (by decide)) (by rfl) mF kF bF .nil pass0 (pa_cons (pv 0) pa_nil)))), ?_⟩
    refine q_when (b := false) (et_and (a := false) (b := true) (et_not (a := true) (et_B (ev_call (ea_cons (ev_var rfl) ea_nil) fun H1 e Q q E => ⟨v, z, rfl, hw.ext e, hz, q⟩))) (fun z => nomatch z)) (fun z => nomatch z) fun _ H1 e1 => ?_
    exact s_ret (ev_call (ea_cons (ev_var rfl) ea_nil) fun H2 e Q q E => ⟨v, z, rfl, hw.ext (e1.trans e), hz, q⟩) fun H2 e2 => k H2 (e1.trans e2)
end
end K29

set_option Elab.async false
set_option linter.all false
set_option maxRecDepth 100000
set_option maxHeartbeats 4000000
/-! Values told by what is true of them; comprehensions whose items are new things; walks. -/
namespace K29
open PySem PySem.Spec PyProof.Rows L2 Evl
def A2 {α β : Type} (R : α → β → Prop) : List α → List β → Prop
  | [], [] => True
  | a :: as, b :: bs => R a b ∧ A2 R as bs
  | _, _ => False
section
variable {α β : Type} {R S : α → β → Prop}
theorem A2.mono (h : ∀ a b, R a b → S a b) : ∀ {as : List α} {bs : List β}, A2 R as bs → A2 S as bs
  | [], [], _ => trivial
  | _ :: _, _ :: _, k => ⟨h _ _ k.1, A2.mono h k.2⟩
  | [], _ :: _, k => k.elim
  | _ :: _, [], k => k.elim
theorem A2.append : ∀ {as cs : List α} {bs ds : List β}, A2 R as bs → A2 R cs ds → A2 R (as ++ cs) (bs ++ ds)
  | [], _, [], _, _, k => k
  | _ :: _, _, _ :: _, _, h, k => ⟨h.1, A2.append h.2 k⟩
  | [], _, _ :: _, _, h, _ => h.elim
  | _ :: _, _, [], _, h, _ => h.elim
theorem A2.length : ∀ {as : List α} {bs : List β}, A2 R as bs → as.length = bs.length
  | [], [], _ => rfl
  | _ :: _, _ :: _, k => congrArg (· + 1) (A2.length k.2)
  | [], _ :: _, k => k.elim
  | _ :: _, [], k => k.elim
theorem A2.get : ∀ {as : List α} {bs : List β} {i : Nat} {a : α}, A2 R as bs → as[i]? = some a → ∃ b, bs[i]? = some b ∧ R a b
  | [], [], i, a, _, e => by simp at e
  | x :: as, y :: bs, 0, a, h, e => by
    obtain rfl : x = a := by simpa using e
    exact ⟨y, rfl, h.1⟩
  | _ :: as, _ :: bs, i + 1, a, h, e => by
    obtain ⟨b, q, r⟩ := A2.get (i := i) (a := a) h.2 (by simpa using e)
    exact ⟨b, by simpa using q, r⟩
  | [], _ :: _, _, _, h, _ => h.elim
  | _ :: _, [], _, _, h, _ => h.elim
theorem A2.getb : ∀ {as : List α} {bs : List β} {i : Nat} {b : β}, A2 R as bs → bs[i]? = some b → ∃ a, as[i]? = some a ∧ R a b
  | [], [], i, a, _, e => by simp at e
  | x :: as, y :: bs, 0, b, h, e => by
    obtain rfl : y = b := by simpa using e
    exact ⟨x, rfl, h.1⟩
  | _ :: as, _ :: bs, i + 1, b, h, e => by
    obtain ⟨a, q, r⟩ := A2.getb (i := i) (b := b) h.2 (by simpa using e)
    exact ⟨a, by simpa using q, r⟩
  | [], _ :: _, _, _, h, _ => h.elim
  | _ :: _, [], _, _, h, _ => h.elim
theorem A2.of_map {γ : Type} {f : γ → α} : ∀ {cs : List γ} {bs : List β}, A2 R (cs.map f) bs → A2 (fun c b => R (f c) b) cs bs
  | [], [], _ => trivial
  | _ :: _, _ :: _, k => ⟨k.1, A2.of_map k.2⟩
  | [], _ :: _, k => k.elim
  | _ :: _, [], k => k.elim
end
theorem wvs_a2 {H : Hp} : ∀ {vs : List V} {ws : List Wd}, A2 (WV H) vs ws → WVs H vs ws
  | [], [], _ => trivial
  | _ :: _, _ :: _, k => ⟨k.1, wvs_a2 k.2⟩
  | [], _ :: _, k => k.elim
  | _ :: _, [], k => k.elim
/-! ### what evaluates to a thing of which P holds -/
def EvP (te : TE) (σ : L2.St) (H : Hp) (P : V → Hp → Prop) : Prop := ∀ H1, Ex H H1 → ∀ Q : VK, (∀ v H2, Ex H1 H2 → P v H2 → Q v H2) → te σ H1 Q
/-- a new list of which P holds -/
def EvLP (te : TE) (σ : L2.St) (H : Hp) (P : List V → Hp → Prop) : Prop := ∀ H1, Ex H H1 → ∀ Q : VK, (∀ p xs H2, H1 p = none → Ex H1 H2 → H2 p = some (.lst xs) → P xs H2 → Q (.ref p) H2) → te σ H1 Q
/-- what stays true -/
def Up (P : Hp → Prop) : Prop := ∀ H G, Ex H G → P H → P G
section
variable {K : PySem.W.Frag} {σ : L2.St} {H G : Hp} {te ta tb tl tk tx : TE} {tt : TT} {v : V} {D : Ends} {tu tz : TS} {J : It} {n : Nat} {vs : List Nat}
theorem EvP.of (h : Ev te σ H v) {P : V → Hp → Prop} (p : ∀ G, Ex H G → P v G) : EvP te σ H P := fun H1 e Q q => h H1 e _ fun H2 e2 => q v H2 e2 (p H2 (e.trans e2))
theorem EvP.mono (e : Ex H G) {P : V → Hp → Prop} (h : EvP te σ H P) : EvP te σ G P := fun H1 e1 Q q => h H1 (e.trans e1) Q q
theorem EvP.tup {ta : TA} {xs : List V} {P : V → Hp → Prop} (h : EvU (tTup ta) σ H xs) (p : ∀ a G, Ex H G → G a = some (.tup xs) → P (.ref a) G) : EvP (tTup ta) σ H P := fun H1 e Q q => h H1 e _ fun a H2 _ e2 ha => q _ _ e2 (p a H2 (e.trans e2) ha)
def Cwp (H0 : Hp) (f : Nat → Bool) (Pe : Nat → V → Hp → Prop) (Dl : Addr) (i : Nat) (H : Hp) : Prop := H0 Dl = none ∧ Ex H0 H ∧ ∃ acc, H Dl = some (.lst acc) ∧ acc.length ≤ i ∧ A2 (fun i y => Pe i y H) ((List.range i).filter f) acc
theorem cwp0 {H0 : Hp} {f : Nat → Bool} {Pe : Nat → V → Hp → Prop} {Dl : Addr} (h : H0 Dl = none) : Cwp H0 f Pe Dl 0 (upd H0 Dl (.lst [])) := ⟨h, Ex.new h, [], upd_same, Nat.le_refl _, trivial⟩
/-- what stays true if the thing at Dl, not known ahead, changes -/
def UpD (H0 : Hp) (Dl : Addr) (P : Hp → Prop) : Prop := ∀ H G xs, H Dl = some (.lst xs) → Ex H0 H → Ex H0 G → (∀ a o, a ≠ Dl → H a = some o → G a = some o) → P H → P G
theorem cwp_turn {H0 H1 H2 : Hp} {f : Nat → Bool} {Pe : Nat → V → Hp → Prop} {Dl : Addr} {i : Nat} {σ2 : L2.St} (up : ∀ i v, UpD H0 Dl (Pe i v)) (p : Cwp H0 f Pe Dl i H1) (e12 : Ex H1 H2) (hi : i < 50000) (ht : EvT tt σ2 H2 (f i)) (he : f i = true → ∀ H3, Ex H2 H3 → EvP te σ2 H3 (Pe i)) :
    tt σ2 H2 fun b H3 => if b = true then te σ2 H3 fun y H4 => ∃ acc, H4 Dl = some (.lst acc) ∧ acc.length < sizeLine ∧ Cwp H0 f Pe Dl (i + 1) (upd H4 Dl (.lst (acc ++ [y]))) else Cwp H0 f Pe Dl (i + 1) H3 := by
  obtain ⟨p1, p2, acc, p3, p4, p5⟩ := p
  have e2 : Ex H0 H2 := p2.trans e12
  refine ht H2 (Ex.refl _) _ fun H3 e3 => ?_
  have e03 := e2.trans e3
  cases hf : f i with
  | true =>
    show te σ2 H3 fun y H4 => ∃ acc, H4 Dl = some (.lst acc) ∧ acc.length < sizeLine ∧ Cwp H0 f Pe Dl (i + 1) (upd H4 Dl (.lst (acc ++ [y])))
    refine he hf H3 e3 H3 (Ex.refl _) _ fun y H4 e4 hy => ?_
    have hD : H4 Dl = some (.lst acc) := e4 _ _ (e3 _ _ (e12 _ _ p3))
    have e04 := e03.trans e4
    have e05 : Ex H0 (upd H4 Dl (.lst (acc ++ [y]))) := Ex.mut e04 p1
    have kp : ∀ a o, a ≠ Dl → H4 a = some o → (upd H4 Dl (.lst (acc ++ [y]))) a = some o := fun a o n h => by
      rw [upd_ne n]
      exact h
    refine ⟨acc, hD, sz_lt (by omega), p1, e05, _, upd_same, by simp; omega, ?_⟩
    rw [List.range_succ, List.filter_append, List.filter_cons, if_pos hf]
    refine A2.append (A2.mono (fun j z h => ?_) p5) ⟨up _ _ _ _ _ hD e04 e05 kp hy, trivial⟩
    exact up _ _ _ _ _ p3 p2 e05 (fun a o n h => kp a o n (e4 _ _ (e3 _ _ (e12 _ _ h)))) h
  | false =>
    show Cwp H0 f Pe Dl (i + 1) H3
    refine ⟨p1, e03, acc, e3 _ _ (e12 _ _ p3), by omega, ?_⟩
    rw [List.range_succ, List.filter_append, List.filter_cons, if_neg (by rw [hf]; decide)]
    show A2 _ (_ ++ []) _
    rw [List.append_nil]
    exact A2.mono (fun j z h => up _ _ _ _ _ p3 p2 e03 (fun a o _ q => e3 _ _ (e12 _ _ q)) h) p5
theorem walk_zipT {a b : Addr} {xs ys : List V} (hn : n = min xs.length ys.length) : Walk (RZ.ItzT K a b) n (fun H => SqT K H a xs ∧ SqT K H b ys) (YPair (fun i => xs[i]?) (fun i => ys[i]?)) := by
  subst hn
  refine ⟨fun i _ hi q => ?_, fun _ q => ⟨xs, ys, q.1, q.2, by omega⟩, fun i H v H' _ q y => ?_⟩
  · have h1 : i < xs.length := by omega
    have h2 : i < ys.length := by omega
    exact ⟨xs, ys, xs[i], ys[i], q.1, q.2, by simp [h1], by simp [h2]⟩
  · obtain ⟨T, x, z, h1, h2, h3, h4, h5⟩ := y
    exact ⟨T, x, z, h1, h2, h3, h4 xs q.1, h5 ys q.2⟩
/-- for x in t, t a new tuple -/
theorem s_forNT {xs : List V} {j : Nat} (h : EvU tl σ H xs) (Pv : Addr → Nat → L2.St → Hp → Prop) (h0 : ∀ p H1, H p = none → Ex H H1 → H1 p = some (.tup xs) → Pv p 0 σ H1) (hl : ∀ p i σ' H', i ≤ xs.length → Pv p i σ' H' → SqT K H' p xs)
    (hs : ∀ p i x σ' H', xs[i]? = some x → Pv p i σ' H' → tu { D with nx := Pv p (i + 1), ct := Pv p (i + 1), bk := D.nx } (σ'.set j (some x)) H') (hd : ∀ p σ' H', Pv p xs.length σ' H' → D.nx σ' H') : tFor (iTup K tl) (gName j) tu D σ H :=
  h H (Ex.refl H) _ fun p H1 hp e h1 => ⟨p, rfl, ⟨xs, st_of h1⟩, for_tup (Pv p) (h0 p H1 hp e h1) (hl p) (hs p) (hd p)⟩
theorem q_forNT {xs : List V} {j : Nat} (h : EvU tl σ H xs) (Pv : Addr → Nat → L2.St → Hp → Prop) (h0 : ∀ p H1, H p = none → Ex H H1 → H1 p = some (.tup xs) → Pv p 0 σ H1) (hl : ∀ p i σ' H', i ≤ xs.length → Pv p i σ' H' → SqT K H' p xs)
    (hs : ∀ p i x σ' H', xs[i]? = some x → Pv p i σ' H' → tu { D with nx := Pv p (i + 1), ct := Pv p (i + 1), bk := tz D } (σ'.set j (some x)) H') (hd : ∀ p σ' H', Pv p xs.length σ' H' → tz D σ' H') : tSeq (tFor (iTup K tl) (gName j) tu) tz D σ H :=
  s_forNT (D := { D with nx := tz D }) h Pv h0 hl hs hd
/-- for x, y in zip(s, t), new tuples -/
theorem q_forZipNT {xs ys : List V} {j1 j2 : Nat} {t1 t2 : TE} (h1 : EvU t1 σ H xs) (h2 : EvU t2 σ H ys) (Pv : Nat → L2.St → Hp → Prop) (h0 : ∀ H1, Ex H H1 → Pv 0 σ H1) (hE : ∀ i σ' H', Pv i σ' H' → Ex H H')
    (hp : ∀ i σ' H' G, Pv i σ' H' → Ex H' G → Pv i σ' G)
    (hs : ∀ i x y σ' H', xs[i]? = some x → ys[i]? = some y → Pv i σ' H' → ∀ N : L2.St → Hp → Prop, (∀ σ2 H2, Pv (i + 1) σ2 H2 → Ex H' H2 → N σ2 H2) → tu { D with nx := N, ct := N, bk := tz D } ((σ'.set j1 (some x)).set j2 (some y)) H') (hd : ∀ σ' H', Pv (min xs.length ys.length) σ' H' → tz D σ' H') :
    tSeq (tFor (RZ.iZipA K (tCons t1 (tCons t2 tNil))) (gPair K j1 j2) tu) tz D σ H :=
  h1 H (Ex.refl H) _ fun p H1 _ e1 hp1 => h2 H1 e1 _ fun q H2 _ e2 hq => ⟨p, q, xs, ys, rfl, .inr ⟨st_of (e2 _ _ hp1), st_of hq,
    for_it (walk_zipT (K := K) (a := p) (b := q) (xs := xs) (ys := ys) rfl) (fun i σ' H' => Pv i σ' H' ∧ H' p = some (.tup xs) ∧ H' q = some (.tup ys)) ⟨h0 H2 (e1.trans e2), e2 _ _ hp1, hq⟩ (fun i σ' H' _ z => ⟨st_of z.2.1, st_of z.2.2⟩)
      (fun i v σ' H' H'' hi z y => by
        obtain ⟨T, x, w, rfl, hT, rfl, ex, ey⟩ := y
        have eT : Ex H' (upd H' T (.tup [x, w])) := Ex.new hT
        exact ⟨T, _, rfl, SqT.of upd_same, rfl, _, _, rfl, _, _, rfl, rfl, hs i x w σ' _ ex ey (hp i σ' H' _ z.1 eT) _ fun σ2 H2 a e => ⟨a, e _ _ (eT _ _ z.2.1), e _ _ (eT _ _ z.2.2)⟩⟩) (fun σ' H' z => hd σ' H' z.1)⟩⟩
/-- a dict comprehension over a walk -/
theorem dc_it {J : It} {G : Hp → Prop} {Y : Nat → Hp → V → Hp → Prop} (w : Walk J n G Y) {g : TG} {H1 : Hp} {Dl : Addr} {Qd : Hp → Prop} (Pv : Nat → Hp → Prop) (h0 : Pv 0 (upd H1 Dl (.dK []))) (hG : ∀ i H, i ≤ n → Pv i H → G H)
    (hs : ∀ i x H H', i < n → Pv i H → Y i H x H' → g x (wipe σ vs) H' fun σ2 H2 => wipe σ2 vs = wipe σ vs ∧ tt σ2 H2 fun b H3 =>
      if b = true then tk σ2 H3 fun y H4 => tx σ2 H4 fun z H5 => ∃ kvs k, y = kV k ∧ H5 Dl = some (.dK kvs) ∧ kvs.length < sizeLine ∧ Pv (i + 1) (upd H5 Dl (.dK (putK kvs k z))) else Pv (i + 1) H3) (hd : ∀ H, Pv n H → Qd H) :
    ∃ W : Nat → Nat → Hp → Prop, (∃ m, W 0 m (upd H1 Dl (.dK []))) ∧ ∀ i m H, W i m H →
      (J.stop i H ∧ Qd H) ∨ (J.go i H ∧ ∃ Nx : Hp → Prop, (∀ H', Nx H' → ∃ m', m' < m ∧ W (i + 1) m' H') ∧ ∀ x H', J.yld i H x H' → g x (wipe σ vs) H' fun σ2 H2 => wipe σ2 vs = wipe σ vs ∧ tt σ2 H2 fun b H3 =>
        if b = true then tk σ2 H3 fun y H4 => tx σ2 H4 fun z H5 => ∃ kvs k, y = kV k ∧ H5 Dl = some (.dK kvs) ∧ kvs.length < sizeLine ∧ Nx (upd H5 Dl (.dK (putK kvs k z))) else Nx H3) := by
  refine ⟨fun i m H => m = n - i ∧ i ≤ n ∧ Pv i H, ⟨n, by simp, Nat.zero_le _, h0⟩, ?_⟩
  rintro i m H ⟨rfl, hi, p⟩
  have q := hG i H hi p
  by_cases hlt : i < n
  · exact .inr ⟨w.goes i H hlt q, Pv (i + 1), fun H' p' => ⟨n - (i + 1), by omega, rfl, hlt, p'⟩, fun x H' y => hs i x H H' hlt p (w.yields i H x H' hlt q y)⟩
  · have e : i = n := by omega
    subst e
    exact .inl ⟨w.stops H q, hd H p⟩
end
end K29

set_option Elab.async false
set_option linter.all false
set_option maxRecDepth 100000
set_option maxHeartbeats 4000000
/-! An order is made. -/
namespace K29
open PySem PySem.Spec PyProof.Rows L2 Evl
def wOf : List (Str × Int) → Str → Int
  | [], _ => 0
  | r :: rs, x => if r.1 = x then r.2 else wOf rs x
def rk : List (Str × Int) → Str → Nat
  | [], _ => 0
  | r :: rs, x => if r.1 = x then 0 else rk rs x + 1
def wkv (rs : List (Str × Int)) : List (Key × V) := rs.map fun r => (Sum.inr r.1, V.int r.2)
def rkv : Nat → List (Str × Int) → List (Key × V)
  | _, [] => []
  | j, r :: rs => (Sum.inr r.1, V.int (j : Int)) :: rkv (j + 1) rs
theorem valV_cons {κ : Type} [DecidableEq κ] (k k' : κ) (v : V) (kvs : List (κ × V)) : valV ((k', v) :: kvs) k = if k' = k then some v else valV kvs k := by
  unfold valV
  rw [List.find?_cons]
  by_cases h : k' = k
  · simp [h]
  · simp [h]
theorem key_r {x y : Str} : ((Sum.inr x : Key) = Sum.inr y) = (x = y) := by simp
theorem val_w {x : Str} : ∀ {rs : List (Str × Int)}, x ∈ rs.map (·.1) → valV (wkv rs) (Sum.inr x : Key) = some (.int (wOf rs x))
  | [], h => by simp at h
  | r :: rs, h => by
    show valV ((Sum.inr r.1, V.int r.2) :: wkv rs) _ = _
    rw [valV_cons]
    simp only [key_r, wOf]
    by_cases e : r.1 = x
    · rw [if_pos e, if_pos e]
    · rw [if_neg e, if_neg e]
      refine val_w ?_
      rcases List.mem_cons.mp h with q | q
      · exact absurd q.symm e
      · exact q
theorem val_r {x : Str} : ∀ {rs : List (Str × Int)} {j : Nat}, x ∈ rs.map (·.1) → valV (rkv j rs) (Sum.inr x : Key) = some (.int ((rk rs x + j : Nat) : Int))
  | [], j, h => by simp at h
  | r :: rs, j, h => by
    show valV ((Sum.inr r.1, V.int (j : Int)) :: rkv (j + 1) rs) _ = _
    rw [valV_cons]
    simp only [key_r, rk]
    by_cases e : r.1 = x
    · rw [if_pos e, if_pos e, Nat.zero_add]
    · rw [if_neg e, if_neg e]
      rw [val_r (j := j + 1)]
      · congr 2
        omega
      rcases List.mem_cons.mp h with q | q
      · exact absurd q.symm e
      · exact q
theorem val_none {x : Str} : ∀ {rs : List (Str × Int)}, x ∉ rs.map (·.1) → valV (wkv rs) (Sum.inr x : Key) = none
  | [], h => rfl
  | r :: rs, h => by
    show valV ((Sum.inr r.1, V.int r.2) :: wkv rs) _ = _
    rw [valV_cons]
    simp only [key_r]
    rw [if_neg (fun e => h (by simp [e]))]
    exact val_none fun q => h (by simp only [List.map_cons, List.mem_cons]; exact .inr q)
theorem valr_none {x : Str} : ∀ {rs : List (Str × Int)} {j : Nat}, x ∉ rs.map (·.1) → valV (rkv j rs) (Sum.inr x : Key) = none
  | [], j, h => rfl
  | r :: rs, j, h => by
    show valV ((Sum.inr r.1, V.int (j : Int)) :: rkv (j + 1) rs) _ = _
    rw [valV_cons]
    simp only [key_r]
    rw [if_neg (fun e => h (by simp [e]))]
    exact valr_none fun q => h (by simp only [List.map_cons, List.mem_cons]; exact .inr q)
theorem rkv_snoc : ∀ (rs : List (Str × Int)) (j : Nat) (r : Str × Int), rkv j (rs ++ [r]) = rkv j rs ++ [(Sum.inr r.1, V.int ((j + rs.length : Nat) : Int))]
  | [], j, r => by simp [rkv]
  | s :: rs, j, r => by
    show _ :: rkv (j + 1) (rs ++ [r]) = _ :: (rkv (j + 1) rs ++ _)
    rw [rkv_snoc rs (j + 1) r]
    have e : j + 1 + rs.length = j + (s :: rs).length := by simp; omega
    rw [e]
theorem rkv_len : ∀ (rs : List (Str × Int)) (j : Nat), (rkv j rs).length = rs.length
  | [], _ => rfl
  | _ :: rs, j => congrArg (· + 1) (rkv_len rs (j + 1))
/-- the name at i is none of those ahead -/
theorem not_ahead {rs : List (Str × Int)} {i : Nat} {r : Str × Int} (nd : (rs.map (·.1)).Nodup) (h : rs[i]? = some r) : r.1 ∉ (rs.take i).map (·.1) := by
  intro z
  obtain ⟨s, hs, e⟩ := List.mem_map.mp z
  obtain ⟨j, hj⟩ := List.getElem?_of_mem hs
  have hji : j < i := by
    have h1 := (List.getElem?_eq_some_iff.mp hj).1
    rw [List.length_take] at h1
    omega
  rw [List.getElem?_take_of_lt hji] at hj
  have e1 : (rs.map (·.1))[j]? = some s.1 := by rw [List.getElem?_map, hj] <;> rfl
  have e2 : (rs.map (·.1))[i]? = some r.1 := by rw [List.getElem?_map, h] <;> rfl
  rw [← e] at e2
  have e3 := nd_ix nd e1 e2
  omega
/-- an order at o -/
structure OrdAt (C : Addr) (H : Hp) (o : Addr) (rs : List (Str × Int)) : Prop where
  ex : ∃ dx dw dk fs, H o = some (.ins C dx fs) ∧ fs.lookup ("weights" : Str) = some (.ref dw) ∧ fs.lookup ("ranks" : Str) = some (.ref dk) ∧ H dw = some (.dK (wkv rs)) ∧ H dk = some (.dK (rkv 0 rs))
theorem OrdAt.ext {C : Addr} {H G : Hp} {o : Addr} {rs : List (Str × Int)} (e : Ex H G) (h : OrdAt C H o rs) : OrdAt C G o rs := by
  obtain ⟨dx, dw, dk, fs, h1, h2, h3, h4, h5⟩ := h.ex
  exact ⟨dx, dw, dk, fs, e _ _ h1, h2, h3, e _ _ h4, e _ _ h5⟩
/-- what is known of the class -/
structure TO (P : Program) (w : World) (K : PySem.W.Frag) (mg : Str → Option Value) (base : Heap) (C : Addr) : Prop extends T29 P w K mg base where
  cl : Cls K C
  nR : NoAttr K C "_rows"
  nW : NoAttr K C "weights"
  nK : NoAttr K C "ranks"
  mgO : mg "Order" = some (.ref C)
  mkI : ∃ fI fdI, Mk K C fI ∧ FunD K "__init__" "Order.__init__" (defArgs s_init) (defBody s_init) (defScope s_init) [] [] fI fdI
  ha : PySem.W.findIn K (.ref C) "__class__" = some (some (.builtin "object.__class__"))
  hn : PySem.W.specialIn K (.builtin "object.__class__") "__get__" = some (some (.builtin "getset_descriptor.__get__"))
  htk : PySem.W.takesIn K (.builtin "object.__class__") = some true
  hm : PySem.W.mroIn K C (.type "object") = some true
section
variable {P : Program} {w : World} {K : PySem.W.Frag} {mg : Str → Option Value} {base : Heap} {C : Addr}
def spInit (C : Addr) : Sp := fun vs H Q _ => ∃ (p dx a : Addr) (xs : List V) (rs : List (Str × Int)), vs = [.ref p, .ref a] ∧ H p = some (.ins C dx []) ∧ H a = some (.lst xs) ∧ RVs H xs rs ∧ RowsOk rs ∧
  ∀ H' : Hp, OrdAt C H' p rs → (∀ b o, H b = some o → b ≠ p → H' b = some o) → Q .non H'
abbrev nI : List Str := ["self", "rows", "index", "name", "weight", "at", "row"]
theorem sc_init : FnScope nI ["self", "rows"] (defScope s_init) := ⟨rfl, rfl, rfl, by decide +kernel, rfl, by decide +kernel, by decide +kernel⟩
theorem ev_notN {σ : L2.St} {H : Hp} {te : TE} {v : V} {b : Bool} (h : Ev te σ H v) (e : (!decide (v = .non)) = b) : Ev (tNotN te) σ H (.bl b) := fun H1 x Q q => h H1 x _ fun H2 x2 => by
  subst e
  exact q H2 x2
theorem ok_init {f : Addr} {fd : FuncData} (T : TO P w K mg base C) (F : FunD K "__init__" "Order.__init__" (defArgs s_init) (defBody s_init) (defScope s_init) [] [] f fd) : FnOk P w K mg base CX0 4 f fd ["self", "rows"] (spInit C) := by
  obtain ⟨fB, dB, GB, bB, kB, mB⟩ := (ok_bad_pair T.toT29).ex
  obtain ⟨fW, dW, GW, bW, kW, mW⟩ := (ok_is_weight T.toT29).ex
  refine F.ok sc_init (fun vs H Q E h => ?_) (fun cdv A outer s H vs Q E hr h => ?_)
  · obtain ⟨p, dx, a, xs, rs, rfl, _⟩ := h
    rfl
  · obtain ⟨p, dx, a, xs, rs, rfl, hp, ha, hR, R, k⟩ := h
    refine ⟨_, PSs.nox (pss_cons (ps_set (i := 2) sc_init.nd rfl (Or.inl rfl) (pe_call GB hr (by rfl) mB kB bB .nil pass0 (pa_cons (pv 1) (pa_cons (pe_lst pa_nil) (pa_cons (pe_glob (v := .ref fW) rfl mW rfl) pa_nil)))))
      (pss_cons (ps_if (pt_cmp (pc_notN (pv 2))) (pss_one ps_never) pss_nil)
      (pss_cons (ps_fld (pv 0) (pe_lc (own := [("name", 3), ("weight", 4)]) (g := gPair K 3 4) (tt := tYes) (te := tTup (tCons (tVar 3) (tCons (tVar 4) tNil))) rfl sc_init.nd (pi_list (pv 1)) (blkOk_by (N := nI) (sc := defScope s_init) (by decide +kernel))
        (fun _ _ _ _ _ => pg_tup rfl (pgs_cons (pg_name (i := 3) sc_init.nd rfl (Or.inl rfl)) (pgs_cons (pg_name (i := 4) sc_init.nd rfl (Or.inl rfl)) pgs_nil))) (fun _ _ _ _ _ => pts_nil) (fun _ _ _ _ _ => pe_tup (pa_cons (pv 3) (pa_cons (pv 4) pa_nil)))) rfl)
      (pss_cons (ps_fld (pv 0) (pe_dc (own := [("name", 3), ("weight", 4)]) (g := gPair K 3 4) (tt := tYes) (tk := tVar 3) (tv := tVar 4) rfl sc_init.nd (pi_list (pv 1)) (blkOk_by (N := nI) (sc := defScope s_init) (by decide +kernel))
        (fun _ _ _ _ _ => pg_tup rfl (pgs_cons (pg_name (i := 3) sc_init.nd rfl (Or.inl rfl)) (pgs_cons (pg_name (i := 4) sc_init.nd rfl (Or.inl rfl)) pgs_nil))) (fun _ _ _ _ _ => pts_nil) (fun _ _ _ _ _ => pv 3) (fun _ _ _ _ _ => pv 4)) rfl)
      (pss_one (ps_fld (pv 0) (pe_dc (own := [("at", 5), ("row", 6)]) (g := gPair K 5 6) (tt := tYes) (tk := tOp (rIxT K) (tVar 6) (tC (.int 0))) (tv := tVar 5) rfl sc_init.nd (pi_enum (by rfl) T.enumerate (pa_cons (pv 1) pa_nil)) (blkOk_by (N := nI) (sc := defScope s_init) (by decide +kernel))
        (fun _ _ _ _ _ => pg_tup rfl (pgs_cons (pg_name (i := 5) sc_init.nd rfl (Or.inl rfl)) (pgs_cons (pg_name (i := 6) sc_init.nd rfl (Or.inl rfl)) pgs_nil))) (fun _ _ _ _ _ => pts_nil) (fun _ _ _ _ _ => pe_ix ix_tup (pv 6) pe_int (fun _ _ => rfl)) (fun _ _ _ _ _ => pv 5)) rfl)))))), ?_⟩
    refine q_asg (v := .non) (fun H1 e Q q => ⟨_, rfl, Nat.zero_le _, fun b hb => ?_⟩) fun H1 e1 => ?_
    · have e2 : Ex H1 (upd H1 b (.lst [])) := Ex.new hb
      exact ⟨a, b, fW, xs, rs, rfl, mW, e2 _ _ (e _ _ ha), hR.ext (e.trans e2), R, upd_same, fun H2 e3 => q H2 (e2.trans e3)⟩
    refine q_when (b := false) (et_B (ev_notN (ev_var rfl) rfl)) (fun z => nomatch z) fun _ H2 e2 => ?_
    have e12 := e1.trans e2
    have ha2 := e12 _ _ ha
    have R2 := hR.ext e12
    -- self._rows = [..]
    refine ⟨_, rfl, a, rfl, ⟨xs, sq_of ha2⟩, fun D hD => lc_it walk_list (fun i G => Ex H2 G ∧ ∃ acc, G D = some (.lst acc) ∧ acc.length ≤ i) ⟨Ex.new hD, [], upd_same, Nat.le_refl _⟩ (fun i G _ q => sq_of (q.1 _ _ ha2)) ?_ ?_⟩
    · rintro i x G G' hi ⟨q1, acc, q2, q3⟩ ⟨rfl, hx⟩
      obtain ⟨r, hr1, c, rfl, hc⟩ := (R2.ext q1).2 i x hx
      refine ⟨c, _, rfl, st_of hc, rfl, _, _, rfl, _, _, rfl, rfl, rfl, ?_⟩
      unfold tYes
      dsimp only
      rw [if_pos rfl]
      refine ⟨_, rfl, _, rfl, by show 2 ≤ sizeLine; decide, fun t ht => ⟨acc, ?_, sz_lt (by have := R.len; have := hR.1; omega), Ex.mut (q1.trans (Ex.new ht)) hD, _, upd_same, by simp; omega⟩⟩
      rw [upd_ne (ne_of_none q2 ht)]
      exact q2
    rintro H3 ⟨e3, acc3, hD3, _⟩
    have hp3 : H3 p = some (.ins C dx []) := e3 _ _ (e12 _ _ hp)
    refine ⟨_, rfl, p, C, dx, [], rfl, hp3, T.cl, T.nR, by show 0 < 1000; decide, ?_⟩
    let H4 := upd H3 p (.ins C dx (putF "_rows" (.ref D) []))
    have ha4 : H4 a = some (.lst xs) := by
      show upd H3 p _ a = _
      rw [upd_ne (ne_of (e3 _ _ ha2) hp3 (by intro z; cases z))]
      exact e3 _ _ ha2
    have t4 : Tx H2 H4 := (Tx.of e3).trans fun b ys hb => by
      show upd H3 p _ b = _
      rw [upd_ne (ne_of hb hp3 (by intro z; cases z))]
      exact hb
    have R4 : RVs H4 xs rs := R2.tx t4
    have hlx : xs.length = rs.length := hR.1
    -- self.weights = {..}
    refine ⟨_, rfl, a, rfl, ⟨xs, sq_of ha4⟩, fun dw hdw => dc_it walk_list (fun i G => Ex H4 G ∧ G dw = some (.dK (wkv (rs.take i)))) ⟨Ex.new hdw, upd_same⟩ (fun i G _ q => sq_of (q.1 _ _ ha4)) ?_ ?_⟩
    · rintro i x G G' hi ⟨q1, q2⟩ ⟨rfl, hx⟩
      obtain ⟨r, hr1, c, rfl, hc⟩ := (R4.ext q1).2 i x hx
      refine ⟨c, _, rfl, st_of hc, rfl, _, _, rfl, _, _, rfl, rfl, rfl, ?_⟩
      unfold tYes
      dsimp only
      rw [if_pos rfl]
      have el : (wkv (rs.take i)).length ≤ 5 := by
        have := R.len
        simp only [wkv, List.length_map, List.length_take]
        omega
      refine ⟨_, rfl, _, rfl, _, Sum.inr r.1, rfl, q2, sz_lt (by omega), Ex.mut q1 hdw, ?_⟩
      rw [upd_same, putK_new _ (val_none (not_ahead R.nd hr1)), List.take_succ, hr1]
      simp [wkv]
    rintro H5 ⟨e5, hdw5⟩
    rw [hlx, List.take_length] at hdw5
    have hp5 : H5 p = some (.ins C dx (putF "_rows" (.ref D) [])) := e5 _ _ upd_same
    refine ⟨_, rfl, p, C, dx, _, rfl, hp5, T.cl, T.nW, by show 1 < 1000; decide, ?_⟩
    let H6 := upd H5 p (.ins C dx (putF "weights" (.ref dw) (putF "_rows" (.ref D) [])))
    have other6 : ∀ b o, H5 b = some o → (∀ fs, o ≠ .ins C dx fs) → H6 b = some o := fun b o hb n => by
      show upd H5 p _ b = _
      rw [upd_ne (ne_of hb hp5 (n _))]
      exact hb
    have ha6 : H6 a = some (.lst xs) := other6 _ _ (e5 _ _ ha4) fun _ z => nomatch z
    have R6 : RVs H6 xs rs := (R4.ext e5).tx fun b ys hb => other6 _ _ hb fun _ z => nomatch z
    have hdw6 : H6 dw = some (.dK (wkv rs)) := other6 _ _ hdw5 fun _ z => nomatch z
    -- self.ranks = {..}
    refine ⟨_, rfl, a, xs, rfl, sq_of ha6, fun dk hdk => dc_it walk_enum (fun i G => Ex H6 G ∧ G dk = some (.dK (rkv 0 (rs.take i)))) ⟨Ex.new hdk, upd_same⟩ (fun i G _ q => sq_of (q.1 _ _ ha6)) ?_ ?_⟩
    · rintro i v G G' hi ⟨q1, q2⟩ ⟨t, x, y, rfl, ht, rfl, ex, ey⟩
      cases ex
      obtain ⟨r, hr1, c, rfl, hc⟩ := (R6.ext q1).2 i y ey
      have et : Ex G (upd G t (.tup [.int (i : Nat), .ref c])) := Ex.new ht
      refine ⟨t, _, rfl, st_of upd_same, rfl, _, _, rfl, _, _, rfl, rfl, rfl, ?_⟩
      unfold tYes
      dsimp only
      rw [if_pos rfl]
      have el : (rkv 0 (rs.take i)).length ≤ 5 := by
        have := R.len
        rw [rkv_len, List.length_take]
        omega
      refine ⟨_, rfl, c, _, _, _, rfl, rfl, st_of (et _ _ hc), atI_nat (j := 0) rfl, _, rfl, _, Sum.inr r.1, rfl, et _ _ q2, sz_lt (by omega), Ex.mut (q1.trans et) hdk, ?_⟩
      rw [upd_same, putK_new _ (valr_none (not_ahead R.nd hr1)), List.take_succ, hr1]
      have hi2 : i < rs.length := (List.getElem?_eq_some_iff.mp hr1).1
      show some (HO.dK _) = some (HO.dK (rkv 0 (rs.take i ++ [r])))
      rw [rkv_snoc, Nat.zero_add, List.length_take, Nat.min_eq_left (by omega)]
    rintro H7 ⟨e7, hdk7⟩
    rw [hlx, List.take_length] at hdk7
    have hp7 : H7 p = some (.ins C dx (putF "weights" (.ref dw) (putF "_rows" (.ref D) []))) := e7 _ _ upd_same
    refine ⟨_, rfl, p, C, dx, _, rfl, hp7, T.cl, T.nK, by show 2 < 1000; decide, ?_⟩
    refine k _ ⟨dx, dw, dk, _, upd_same, ?_, ?_, ?_, ?_⟩ fun b o hb n => ?_
    · rw [lookup_putF, if_neg (by decide +kernel), lookup_putF, if_pos rfl]
    · rw [lookup_putF, if_pos rfl]
    · rw [upd_ne (ne_of (e7 _ _ hdw6) hp7 (by intro z; cases z))]
      exact e7 _ _ hdw6
    · rw [upd_ne (ne_of hdk7 hp7 (by intro z; cases z))]
      exact hdk7
    · rw [upd_ne n]
      refine e7 _ _ ?_
      show upd H5 p _ b = _
      rw [upd_ne n]
      refine e5 _ _ ?_
      show upd H3 p _ b = _
      rw [upd_ne n]
      exact e3 _ _ (e12 _ _ hb)
end
end K29

set_option Elab.async false
set_option linter.all false
set_option maxRecDepth 100000
set_option maxHeartbeats 4000000
/-! An order asked. -/
namespace K29
open PySem PySem.Spec PyProof.Rows L2 Evl
def wt (rs : List (Str × Int)) : Wd → Int
  | .a => wOf rs "a" | .b => wOf rs "b" | .f x => wOf rs "f" + wt rs x | .g x y => wOf rs "g" + wt rs x + wt rs y | .p x => wOf rs "p" + wt rs x
def wts (rs : List (Str × Int)) (ws : List Wd) : Int := (ws.map (wt rs)).sum
theorem wt_args (rs : List (Str × Int)) (z : Wd) : wt rs z = wOf rs z.nm + wts rs z.args := by
  cases z <;> simp [wt, wts, Wd.nm, Wd.args] <;> omega
/-- by weight, then by name, then c -/
def topB (rs : List (Str × Int)) (x y : Wd) (c : Bool) : Bool := if wt rs x ≠ wt rs y then decide (wt rs y < wt rs x) else if x.nm ≠ y.nm then decide (rk rs y.nm < rk rs x.nm) else c
def abv (rs : List (Str × Int)) : Wd → Wd → Bool
  | .f x, .f y => topB rs (.f x) (.f y) (if x = y then false else abv rs x y)
  | .g x1 x2, .g y1 y2 => topB rs (.g x1 x2) (.g y1 y2) (if x1 = y1 then (if x2 = y2 then false else abv rs x2 y2) else abv rs x1 y1)
  | .p x, .p y => topB rs (.p x) (.p y) (if x = y then false else abv rs x y)
  | x, y => topB rs x y false
def lexd (g : Wd → Wd → Bool) : List Wd → List Wd → Bool
  | a :: as, b :: bs => if a = b then lexd g as bs else g a b
  | _, _ => false
theorem nm_ne {x y : Wd} (h : x.nm ≠ y.nm) (rs : List (Str × Int)) (c d : Bool) : topB rs x y c = topB rs x y d := by
  unfold topB
  rw [if_pos h, if_pos h]
theorem nm_ab : Wd.a.nm ≠ Wd.b.nm := by decide +kernel
theorem abv_eq (rs : List (Str × Int)) (x y : Wd) : abv rs x y = topB rs x y (lexd (abv rs) x.args y.args) := by
  have nmf : ∀ {s t : Str}, (s = t) = False → s ≠ t := fun h e => by rw [h] at e; exact e
  cases x <;> cases y <;> first
    | rfl
    | (simp only [abv]; exact nm_ne (by simp only [Wd.nm]; decide +kernel) rs _ _)
    | simp [abv, lexd, Wd.args]
def AllN (rs : List (Str × Int)) : Prop := ∀ x ∈ N5, x ∈ rs.map (·.1)
section
variable {K : PySem.W.Frag} {σ : L2.St} {H G : Hp} {te ta tb tl tk tx : TE} {tt : TT} {v : V} {D : Ends} {tu tz : TS}
theorem ev_fld {o C dx : Addr} {fs : List (Str × V)} {f : Str} (h : Ev te σ H (.ref o)) (ho : H o = some (.ins C dx fs)) (cl : Cls K C) (nf : NoAttr K C f) (l : fs.lookup f = some v) : Ev (tFld K te f) σ H v := fun H1 e Q q =>
  h H1 e _ fun H2 e2 => ⟨o, C, dx, fs, v, rfl, (e.trans e2) _ _ ho, cl, nf, l, q H2 e2⟩
theorem ev_dget {d : Addr} {kvs : List (Key × V)} {k : Key} (h : Ev ta σ H (.ref d)) (hk : Ev tb σ H (kV k)) (hd : H d = some (.dK kvs)) (l : valV kvs k = some v) : Ev (tDGet ta tb) σ H v := fun H1 e Q q =>
  h H1 e _ fun H2 e2 => hk H2 (e.trans e2) _ fun H3 e3 => ⟨d, v, rfl, by rw [← l]; exact DGet.k (((e.trans e2).trans e3) _ _ hd), q H3 (e2.trans e3)⟩
theorem ev_dnin {d : Addr} {kvs : List (Key × V)} {k : Key} {b : Bool} (hk : Ev tb σ H (kV k)) (h : Ev ta σ H (.ref d)) (hd : H d = some (.dK kvs)) (l : (!(valV kvs k).isSome) = b) : Ev (tDNotIn tb ta) σ H (.bl b) := fun H1 e Q q =>
  hk H1 e _ fun H2 e2 => h H2 (e.trans e2) _ fun H3 e3 => ⟨d, _, rfl, DGet.k (((e.trans e2).trans e3) _ _ hd), by rw [l]; exact q H3 (e2.trans e3)⟩
theorem ex_put {d : Addr} {u : HO} (h : H d = some u) : Ex H (upd H d u) := fun a o e => by
  by_cases q : a = d
  · subst q
    rw [upd_same]
    rw [h] at e
    exact e
  · rw [upd_ne q]
    exact e
end
section
variable {P : Program} {w : World} {K : PySem.W.Frag} {mg : Str → Option Value} {base : Heap} {C : Addr}
theorem kit_self {K : PySem.W.Frag} {C : Addr} : PySem.W.kitOne K (.ref C) (.ref C) = some true := by
  unfold PySem.W.kitOne
  rw [if_pos (by simp)]
def spCheck (C : Addr) : Sp := fun vs H Q _ => ∃ o rs, vs = [.ref o] ∧ OrdAt C H o rs ∧ RetV .non H Q
theorem sc_co : FnScope ["order"] ["order"] (defScope s_check_order) := ⟨rfl, rfl, rfl, by decide +kernel, rfl, by decide +kernel, by decide +kernel⟩
theorem ok_check_order (T : TO P w K mg base C) : Ok P w K mg base "check_order" ["order"] 1 (spCheck C) := by
  refine T.ok 18 rfl sc_co (fun vs H Q E h => ?_) (fun kV doc pm an cdv ct us hl => match us, hl with | [_], _ => rfl) (fun f cdv A outer s H vs Q E hr h => ?_)
  · obtain ⟨o, rs, rfl, _⟩ := h
    rfl
  · obtain ⟨o, rs, rfl, ho, k⟩ := h
    refine ⟨_, pss_one (ps_if (pt_not (pt_val (pe_callB call_isi (by rfl) T.isi PyProof.Rows.boot_isinstance (pa_cons (pv 0) (pa_cons (pe_glob (v := .ref C) rfl T.mgO rfl) pa_nil))))) (pss_one ps_never) pss_nil), ?_⟩
    obtain ⟨dx, dw, dk, fs, h1, _⟩ := ho.ex
    exact s_when (b := false) (et_not (a := true) (et_B (ev_cb (ea_cons (ev_var rfl) (ea_cons ev_c ea_nil)) fun H1 x Q q => ⟨.ref o, .ref C, .ref C, .ref C, true, rfl, .own C, .base (.ins (x _ _ h1) T.cl T.ha T.hn T.htk T.hm), kit_self, q H1 (Ex.refl H1)⟩))) (fun z => nomatch z) fun _ H1 e1 => k H1 e1
def spFU (C : Addr) (m : Nat) : Sp := fun vs H Q _ => ∃ o rs v z, vs = [.ref o, v] ∧ OrdAt C H o rs ∧ WV H v z ∧ z.dp < m ∧ AllN rs ∧ RetV .non H Q
theorem sc_fu : FnScope ["order", "word", "part", "name"] ["order", "word"] (defScope s_first_unordered) := ⟨rfl, rfl, rfl, by decide +kernel, rfl, by decide +kernel, by decide +kernel⟩
theorem dp_args {z x : Wd} (h : x ∈ z.args) : x.dp < z.dp := by
  cases z <;> simp [Wd.args, Wd.dp] at h ⊢
  · subst h; omega
  · rcases h with rfl | rfl <;> omega
  · subst h; omega
theorem ok_first_unordered (T : TO P w K mg base C) : ∀ m, Ok P w K mg base "first_unordered" ["order", "word"] (m + 1) (spFU C m)
  | 0 => T.ok 19 rfl sc_fu (fun vs H Q E h => by obtain ⟨o, rs, v, z, rfl, _⟩ := h; rfl) (fun kV doc pm an cdv ct us hl => match us, hl with | [_, _], _ => rfl) (fun f cdv A outer s H vs Q E hr h => by obtain ⟨o, rs, v, z, _, _, _, h0, _⟩ := h; exact absurd h0 (Nat.not_lt_zero _))
  | m + 1 => by
    obtain ⟨fR, dR, GR, bR, kR, mR⟩ := (ok_first_unordered T m).ex
    refine T.ok 19 rfl sc_fu (fun vs H Q E h => ?_) (fun kV doc pm an cdv ct us hl => match us, hl with | [_, _], _ => rfl) (fun f cdv A outer s H vs Q E hr h => ?_)
    · obtain ⟨o, rs, v, z, rfl, _⟩ := h
      rfl
    · obtain ⟨o, rs, v, z, rfl, ho, hw, hz, hN, k⟩ := h
      obtain ⟨r, us, rfl, hr1, hu⟩ := hw.tup
      obtain ⟨dx, dw, dk, fs, h1, l1, l2, h2, h3⟩ := ho.ex
      refine ⟨_, pss_cons (ps_if (pt_val (pe_isiB T.isi T.str PyProof.Rows.boot_str (pv 1))) (pss_one (ps_ret pe_non)) pss_nil)
        (pss_cons (ps_if (pt_cmp (pc_dnotin (hu_of hr) (pe_ix ix_tup (pv 1) pe_int (fun _ _ => rfl)) (pe_fld (pv 0) rfl))) (pss_one ps_never) pss_nil)
        (pss_cons (ps_for PassesOwn.never rfl (pi_tup (pe_slice sl_tup (pv 1) (po_some pe_int) po_none)) (pg_name (i := 2) sc_fu.nd rfl (Or.inl rfl))
          (pss_cons (ps_set (i := 3) sc_fu.nd rfl (Or.inl rfl) (pe_call GR hr (by rfl) mR kR bR .nil pass0 (pa_cons (pv 0) (pa_cons (pv 2) pa_nil))))
          (pss_one (ps_if (pt_cmp (pc_notN (pv 3))) (pss_one (ps_ret (pv 3))) pss_nil))))
        (pss_one (ps_ret pe_non)))), ?_⟩
      refine q_when (b := false) (et_B (ev_isi (ev_var rfl) (.base (.tup hr1)) (by decide +kernel))) (fun z => nomatch z) fun _ H1 e1 => ?_
      refine q_when (b := false) (et_B (ev_dnin (k := Sum.inr z.nm) (ev_op (ev_var rfl) ev_c (rv_ixT (st_of (e1 _ _ hr1)) (atI_nat (j := 0) rfl))) (ev_fld (ev_var rfl) (e1 _ _ h1) T.cl T.nK l2) (e1 _ _ h3) (by rw [val_r (hN _ (nm5 z))] <;> rfl))) (fun z => nomatch z) fun _ H2 e2 => ?_
      have e12 := e1.trans e2
      refine q_forNT (eu_tail (ev_var rfl) (st_of (e12 _ _ hr1))) (fun p i σ' H' => Ex H H' ∧ H' p = some (.tup us) ∧ ∃ a b : Option V, σ' = [some (.ref o), some (.ref r), a, b]) ?_ ?_ ?_ ?_
      · exact fun p H3 hp e3 h3 => ⟨e12.trans e3, h3, none, none, rfl⟩
      · exact fun p i σ' H' hi z => st_of z.2.1
      · rintro p i x σ' H' hx ⟨e, hp, a, b, rfl⟩
        obtain ⟨y, hy, hwy⟩ := (hu.ext e).get hx
        refine q_asg (ev_call (ea_cons (ev_var rfl) (ea_cons (ev_var rfl) ea_nil)) fun H4 e4 Q q E => ⟨o, rs, x, y, rfl, ho.ext (e.trans e4), hwy.ext e4, by have := dp_args (List.mem_of_getElem? hy); omega, hN, q⟩) fun H4 e4 => ?_
        exact s_when (b := false) (et_B (ev_notN (ev_var rfl) rfl)) (fun z => nomatch z) fun _ H5 e5 => ⟨(e.trans e4).trans e5, e5 _ _ (e4 _ _ hp), _, _, rfl⟩
      · rintro p σ' H' ⟨e, _, a, b, rfl⟩
        exact s_ret ev_c fun H4 e4 => k H4 (e.trans e4)
def spCO (C : Addr) : Sp := fun vs H Q _ => ∃ o rs v z, vs = [.ref o, v] ∧ OrdAt C H o rs ∧ WV H v z ∧ z.dp < 8 ∧ z.sz ≤ 1000 ∧ AllN rs ∧ RetV v H Q
theorem sc_cho : FnScope ["order", "word", "told", "name"] ["order", "word"] (defScope s_checked_ordered) := ⟨rfl, rfl, rfl, by decide +kernel, rfl, by decide +kernel, by decide +kernel⟩
theorem ok_checked_ordered (T : TO P w K mg base C) : Ok P w K mg base "checked_ordered" ["order", "word"] 10 (spCO C) := by
  obtain ⟨fW, dW, GW, bW, kW, mW⟩ := (ok_checked_word T.toT29).ex
  obtain ⟨fU, dU, GU, bU, kU, mU⟩ := (ok_first_unordered T 8).ex
  refine T.ok 20 rfl sc_cho (fun vs H Q E h => ?_) (fun kV doc pm an cdv ct us hl => match us, hl with | [_, _], _ => rfl) (fun f cdv A outer s H vs Q E hr h => ?_)
  · obtain ⟨o, rs, v, z, rfl, _⟩ := h
    rfl
  · obtain ⟨o, rs, v, z, rfl, ho, hw, hz, hs, hN, k⟩ := h
    refine ⟨_, pss_cons (ps_set (i := 2) sc_cho.nd rfl (Or.inl rfl) (pe_call GW (hr.mono (by decide)) (by rfl) mW kW bW .nil pass0 (pa_cons (pv 1) pa_nil)))
      (pss_cons (ps_set (i := 3) sc_cho.nd rfl (Or.inl rfl) (pe_call GU hr (by rfl) mU kU bU .nil pass0 (pa_cons (pv 0) (pa_cons (pv 2) pa_nil))))
      (pss_cons (ps_if (pt_cmp (pc_notN (pv 3))) (pss_one ps_never) pss_nil) (pss_one (ps_ret (pv 2))))), ?_⟩
    refine q_asg (ev_call (ea_cons (ev_var rfl) ea_nil) fun H1 e Q q E => ⟨v, z, rfl, hw.ext e, hs, q⟩) fun H1 e1 => ?_
    refine q_asg (ev_call (ea_cons (ev_var rfl) (ea_cons (ev_var rfl) ea_nil)) fun H2 e Q q E => ⟨o, rs, v, z, rfl, ho.ext (e1.trans e), hw.ext (e1.trans e), hz, hN, q⟩) fun H2 e2 => ?_
    refine q_when (b := false) (et_B (ev_notN (ev_var rfl) rfl)) (fun z => nomatch z) fun _ H3 e3 => ?_
    exact s_ret (ev_var rfl) fun H4 e4 => k H4 (((e1.trans e2).trans e3).trans e4)
def spWe (C : Addr) (m : Nat) : Sp := fun vs H Q _ => ∃ o rs v z c, vs = [.ref o, v, c] ∧ OrdAt C H o rs ∧ WV H v z ∧ z.dp < m ∧ AllN rs ∧ RetV (.int (wt rs z)) H Q
theorem sc_we : FnScope ["order", "word", "counts", "total", "part"] ["order", "word", "counts"] (defScope s_weigh) := ⟨rfl, rfl, rfl, by decide +kernel, rfl, by decide +kernel, by decide +kernel⟩
theorem ok_weigh (T : TO P w K mg base C) : ∀ m, Ok P w K mg base "weigh" ["order", "word", "counts"] (m + 1) (spWe C m)
  | 0 => T.ok 21 rfl sc_we (fun vs H Q E h => by obtain ⟨o, rs, v, z, c, rfl, _⟩ := h; rfl) (fun kV doc pm an cdv ct us hl => match us, hl with | [_, _, _], _ => rfl) (fun f cdv A outer s H vs Q E hr h => by obtain ⟨o, rs, v, z, c, _, _, _, h0, _⟩ := h; exact absurd h0 (Nat.not_lt_zero _))
  | m + 1 => by
    obtain ⟨fR, dR, GR, bR, kR, mR⟩ := (ok_weigh T m).ex
    refine T.ok 21 rfl sc_we (fun vs H Q E h => ?_) (fun kV doc pm an cdv ct us hl => match us, hl with | [_, _, _], _ => rfl) (fun f cdv A outer s H vs Q E hr h => ?_)
    · obtain ⟨o, rs, v, z, c, rfl, _⟩ := h
      rfl
    · obtain ⟨o, rs, v, z, c, rfl, ho, hw, hz, hN, k⟩ := h
      obtain ⟨r, us, rfl, hr1, hu⟩ := hw.tup
      obtain ⟨dx, dw, dk, fs, h1, l1, l2, h2, h3⟩ := ho.ex
      have hul := hu.length
      refine ⟨_, pss_cons (ps_if (pt_val (pe_isiB T.isi T.str PyProof.Rows.boot_str (pv 1))) (pss_cons ps_never (pss_one ps_never)) pss_nil)
        (pss_cons (ps_set (i := 3) sc_we.nd rfl (Or.inl rfl) (pe_dget (hu_of hr) (pe_fld (pv 0) rfl) (pe_ix ix_tup (pv 1) pe_int (fun _ _ => rfl)) (fun _ _ => rfl)))
        (pss_cons (ps_for PassesOwn.never rfl (pi_tup (pe_slice sl_tup (pv 1) (po_some pe_int) po_none)) (pg_name (i := 4) sc_we.nd rfl (Or.inl rfl))
          (pss_one (ps_set (i := 3) sc_we.nd rfl (Or.inl rfl) (pe_op op_add (pv 3) (pe_call GR hr (by rfl) mR kR bR .nil pass0 (pa_cons (pv 0) (pa_cons (pv 4) (pa_cons (pv 2) pa_nil))))))))
        (pss_one (ps_ret (pv 3))))), ?_⟩
      refine q_when (b := false) (et_B (ev_isi (ev_var rfl) (.base (.tup hr1)) (by decide +kernel))) (fun z => nomatch z) fun _ H1 e1 => ?_
      refine q_asg (ev_dget (k := Sum.inr z.nm) (ev_fld (ev_var rfl) (e1 _ _ h1) T.cl T.nW l1) (ev_op (ev_var rfl) ev_c (rv_ixT (st_of (e1 _ _ hr1)) (atI_nat (j := 0) rfl))) (e1 _ _ h2) (val_w (hN _ (nm5 z)))) fun H2 e2 => ?_
      have e12 := e1.trans e2
      refine q_forNT (eu_tail (ev_var rfl) (st_of (e12 _ _ hr1))) (fun p i σ' H' => Ex H H' ∧ H' p = some (.tup us) ∧ ∃ a : Option V, σ' = [some (.ref o), some (.ref r), some c, some (.int (wOf rs z.nm + wts rs (z.args.take i))), a]) ?_ ?_ ?_ ?_
      · exact fun p H3 hp e3 h3 => ⟨e12.trans e3, h3, none, by simp [wts]; rfl⟩
      · exact fun p i σ' H' hi z => st_of z.2.1
      · rintro p i x σ' H' hx ⟨e, hp, a, rfl⟩
        obtain ⟨y, hy, hwy⟩ := (hu.ext e).get hx
        refine s_asg (ev_op (ev_var rfl) (ev_call (ea_cons (ev_var rfl) (ea_cons (ev_var rfl) (ea_cons (ev_var rfl) ea_nil))) fun H4 e4 Q q E => ⟨o, rs, x, y, c, rfl, ho.ext (e.trans e4), hwy.ext e4, by have := dp_args (List.mem_of_getElem? hy); omega, hN, q⟩) rv_I0) fun H4 e4 => ?_
        refine ⟨e.trans e4, e4 _ _ hp, some x, ?_⟩
        have ee : wOf rs z.nm + wts rs (z.args.take (i + 1)) = wOf rs z.nm + wts rs (z.args.take i) + wt rs y := by
          rw [List.take_succ, hy]
          simp [wts]
          omega
        rw [ee] <;> rfl
      · rintro p σ' H' ⟨e, _, a, rfl⟩
        refine s_ret (v := .int (wt rs z)) (ev_is (ev_var rfl) ?_) fun H4 e4 => k H4 (e.trans e4)
        rw [hul, List.take_length, wt_args]
end
end K29

set_option Elab.async false
set_option linter.all false
set_option maxRecDepth 100000
set_option maxHeartbeats 4000000
/-! Words compared. -/
namespace K29
open PySem PySem.Spec PyProof.Rows L2 Evl
section
variable {K : PySem.W.Frag} {σ : L2.St} {H G : Hp} {te ta tb tl tk tx : TE} {tt : TT} {v : V} {D : Ends} {tu tz : TS}
theorem rv_neW {x y : V} {z1 z2 : Wd} (h1 : WV H x z1) (h2 : WV H y z2) (d1 : z1.dp ≤ 50) (d2 : z2.dp ≤ 50) : Evl.RV (rNeD K) x y H (.bl (!decide (z1 = z2))) := fun H1 e Q q =>
  ⟨z1.dat, z2.dat, (h1.ext e).dp, (h2.ext e).dp, dat_shaped d1, dat_shaped d2, by rw [dat_eqv]; exact q H1 (Ex.refl H1)⟩
theorem rv_eqW {x y : V} {z1 z2 : Wd} (h1 : WV H x z1) (h2 : WV H y z2) (d1 : z1.dp ≤ 50) (d2 : z2.dp ≤ 50) : Evl.RV (rEqD K) x y H (.bl (decide (z1 = z2))) := fun H1 e Q q =>
  ⟨z1.dat, z2.dat, (h1.ext e).dp, (h2.ext e).dp, dat_shaped d1, dat_shaped d2, by rw [dat_eqv]; exact q H1 (Ex.refl H1)⟩
/-- a loop over the keys of a dict that is empty: nothing is done -/
theorem q_forNoKeys {d : Addr} {j : Nat} (h : Ev te σ H (.ref d)) (hv : ∀ G, te σ G = te σ G) (hd : H d = some (.dK [])) (hs : ∀ od, Ev te σ (upd H d (.frz od (.dK []))) (.ref d)) (k : ∀ H1, Ex H H1 → tz D σ H1) : tSeq (tLock (tFor (iKeys te) (gName j) tu)) tz D σ H := by
  refine ⟨d, .dK [], hd, trivial, fun od => ?_⟩
  refine hs od _ (Ex.refl _) _ fun H2 e2 => ?_
  have h2 := e2 _ _ (upd_same (H := H) (a := d) (o := .frz od (.dK [])))
  refine ⟨d, od, rfl, .inl ⟨[], h2, ?_⟩⟩
  refine for_it (walk_keys (d := d) (o := od) (kvs := [])) (fun i σ' H' => i = 0 ∧ σ' = σ ∧ H' = H2) ⟨rfl, rfl, rfl⟩ (fun i σ' H' _ z => by rw [z.2.2]; exact h2) (fun i x σ' H' H'' hi => absurd hi (Nat.not_lt_zero _)) ?_
  rintro σ' H' ⟨_, rfl, rfl⟩
  refine ⟨h2, k _ fun b o e => ?_⟩
  by_cases q : b = d
  · subst q
    rw [upd_same]
    rw [hd] at e
    exact e
  · rw [upd_ne q]
    refine e2 _ _ ?_
    rw [upd_ne q]
    exact e
end
theorem q_par {σ : L2.St} {H : Hp} {ta tb : TE} {D : Ends} {tz : TS} {i j : Nat} {x y : V} (ha : Ev ta σ H x) (hb : Ev tb σ H y) (k : ∀ H1, Ex H H1 → tz D ((σ.set i (some x)).set j (some y)) H1) : tSeq (tPar i j (tCons ta (tCons tb tNil))) tz D σ H :=
  ha H (Ex.refl H) _ fun H1 e1 => hb H1 e1 _ fun H2 e2 => ⟨x, y, rfl, k H2 (e1.trans e2)⟩
theorem lexd_step {g : Wd → Wd → Bool} {as bs : List Wd} {i : Nat} {a : Wd} (h1 : as[i]? = some a) (h2 : bs[i]? = some a) : lexd g (as.drop i) (bs.drop i) = lexd g (as.drop (i + 1)) (bs.drop (i + 1)) := by
  obtain ⟨l1, e1⟩ := List.getElem?_eq_some_iff.mp h1
  obtain ⟨l2, e2⟩ := List.getElem?_eq_some_iff.mp h2
  rw [List.drop_eq_getElem_cons l1, List.drop_eq_getElem_cons l2, e1, e2]
  simp [lexd]
theorem lexd_ne {g : Wd → Wd → Bool} {as bs : List Wd} {i : Nat} {a b : Wd} (h1 : as[i]? = some a) (h2 : bs[i]? = some b) (n : a ≠ b) : lexd g (as.drop i) (bs.drop i) = g a b := by
  obtain ⟨l1, e1⟩ := List.getElem?_eq_some_iff.mp h1
  obtain ⟨l2, e2⟩ := List.getElem?_eq_some_iff.mp h2
  rw [List.drop_eq_getElem_cons l1, List.drop_eq_getElem_cons l2, e1, e2]
  simp [lexd, n]
theorem lexd_end {g : Wd → Wd → Bool} {as bs : List Wd} {i : Nat} (h : as.length ≤ i ∨ bs.length ≤ i) : lexd g (as.drop i) (bs.drop i) = false := by
  rcases h with h | h
  · rw [List.drop_eq_nil_of_le h]
    rfl
  · rw [List.drop_eq_nil_of_le h]
    cases as.drop i <;> rfl
section
variable {P : Program} {w : World} {K : PySem.W.Frag} {mg : Str → Option Value} {base : Heap} {C : Addr}
def spAb (C : Addr) (m : Nat) : Sp := fun vs H Q _ => ∃ o rs v u y z, vs = [.ref o, v, u] ∧ OrdAt C H o rs ∧ WV H v y ∧ WV H u z ∧ y.dp < m ∧ y.dp < 9 ∧ z.dp < 9 ∧ AllN rs ∧ RetV (.bl (abv rs y z)) H Q
theorem sc_ab : FnScope ["order", "one", "other", "mine", "others", "weight", "other_weight", "variable", "left", "right"] ["order", "one", "other"] (defScope s_is_above) := ⟨rfl, rfl, rfl, by decide +kernel, rfl, by decide +kernel, by decide +kernel⟩
theorem ok_is_above (T : TO P w K mg base C) : ∀ m, Ok P w K mg base "is_above" ["order", "one", "other"] (m + 11) (spAb C m)
  | 0 => (T.ok 22 rfl sc_ab (k := 10) (fun vs H Q E h => by obtain ⟨o, rs, v, u, y, z, rfl, _⟩ := h; rfl) (fun kV doc pm an cdv ct us hl => match us, hl with | [_, _, _], _ => rfl) (fun f cdv A outer s H vs Q E hr h => by obtain ⟨o, rs, v, u, y, z, _, _, _, _, h0, _⟩ := h; exact absurd h0 (Nat.not_lt_zero _)))
  | m + 1 => by
    obtain ⟨fR, dR, GR, bR, kR, mR⟩ := (ok_is_above T m).ex
    obtain ⟨fW, dW, GW, bW, kW, mW⟩ := (ok_weigh T 9).ex
    refine T.ok 22 rfl sc_ab (fun vs H Q E h => ?_) (fun kV doc pm an cdv ct us hl => match us, hl with | [_, _, _], _ => rfl) (fun f cdv A outer s H vs Q E hr h => ?_)
    · obtain ⟨o, rs, v, u, y, z, rfl, _⟩ := h
      rfl
    · obtain ⟨o, rs, v, u, y, z, rfl, ho, hy, hz, hm, hy9, hz9, hN, k⟩ := h
      obtain ⟨r1, us1, rfl, hr1, hu1⟩ := hy.tup
      obtain ⟨r2, us2, rfl, hr2, hu2⟩ := hz.tup
      obtain ⟨dx, dw, dk, fs, h1, l1, l2, h2, h3⟩ := ho.ex
      have hrW : Room 10 _ := hr.mono (by omega)
      refine ⟨_, pss_cons (ps_par (i := 3) (j := 4) rfl sc_ab.nd rfl rfl (by decide) rfl rfl (pa_cons pe_dnewK (pa_cons pe_dnewK pa_nil)) (by rfl))
        (pss_cons (ps_par (i := 5) (j := 6) rfl sc_ab.nd rfl rfl (by decide) rfl rfl (pa_cons (pe_call GW hrW (by rfl) mW kW bW .nil pass0 (pa_cons (pv 0) (pa_cons (pv 1) (pa_cons (pv 3) pa_nil)))) (pa_cons (pe_call GW hrW (by rfl) mW kW bW .nil pass0 (pa_cons (pv 0) (pa_cons (pv 2) (pa_cons (pv 4) pa_nil)))) pa_nil)) (by rfl))
        (pss_cons (ps_lock (ps_for PassesOwn.never rfl (pi_keys (pv 4)) (pg_name (i := 7) sc_ab.nd rfl (Or.inl rfl)) (pss_one ps_never)))
        (pss_cons (ps_if (PW.pt (pw_or (pt_cmpR op_ne (pv 5) (pv 6) (nomark _)) (pw_or (pt_val (pe_isiB T.isi T.str PyProof.Rows.boot_str (pv 1))) (pw_or1 (pt_val (pe_isiB T.isi T.str PyProof.Rows.boot_str (pv 2))))))) (pss_one (ps_ret (pe_cmpR op_gt (pv 5) (pv 6) (nomark _)))) pss_nil)
        (pss_cons (ps_if (pt_cmpR op_ne (pe_ix ix_tup (pv 1) pe_int (fun _ _ => rfl)) (pe_ix ix_tup (pv 2) pe_int (fun _ _ => rfl)) (nomark _)) (pss_one (ps_ret (pe_cmpR op_gt (pe_dget (hu_of hr) (pe_fld (pv 0) rfl) (pe_ix ix_tup (pv 1) pe_int (fun _ _ => rfl)) (fun _ _ => rfl)) (pe_dget (hu_of hr) (pe_fld (pv 0) rfl) (pe_ix ix_tup (pv 2) pe_int (fun _ _ => rfl)) (fun _ _ => rfl)) (nomark _)))) pss_nil)
        (pss_cons (ps_for PassesOwn.never rfl (RZ.pi_zipA (by rfl) T.zip (pa_cons (pe_slice sl_tup (pv 1) (po_some pe_int) po_none) (pa_cons (pe_slice sl_tup (pv 2) (po_some pe_int) po_none) pa_nil))) (pg_tup rfl (pgs_cons (pg_name (i := 8) sc_ab.nd rfl (Or.inl rfl)) (pgs_cons (pg_name (i := 9) sc_ab.nd rfl (Or.inl rfl)) pgs_nil)))
          (pss_one (ps_if (pt_cmpR (op_neD hr.units) (pv 8) (pv 9) (nomark _)) (pss_one (ps_ret (pe_call GR hr (by rfl) mR kR bR .nil pass0 (pa_cons (pv 0) (pa_cons (pv 8) (pa_cons (pv 9) pa_nil)))))) pss_nil)))
        (pss_one (ps_ret pe_bl))))))), ?_⟩
      intro d1 hd1 d2 hd2
      have e1 : Ex H (upd H d1 (.dK [])) := Ex.new hd1
      have e2 : Ex H (upd (upd H d1 (.dK [])) d2 (.dK [])) := e1.trans (Ex.new hd2)
      refine ⟨_, _, rfl, ?_⟩
      have hwe : ∀ {v : V} {x : Wd} {c : V} {σ : L2.St} {G : Hp} {i j : Nat}, Ex H G → WV H v x → x.dp < 9 → σ[0]? = some (some (.ref o)) → σ[i]? = some (some v) → σ[j]? = some (some c) → Ev (tCall (spWe C 9) [] E0 (tCons (tVar 0) (tCons (tVar i) (tCons (tVar j) tNil)))) σ G (.int (wt rs x)) := fun e hw hd a b c => ev_call (ea_cons (ev_var a) (ea_cons (ev_var b) (ea_cons (ev_var c) ea_nil))) fun H4 e4 Q q E => ⟨o, rs, _, _, _, rfl, ho.ext (e.trans e4), hw.ext (e.trans e4), hd, hN, q⟩
      refine q_par (hwe e2 hy hy9 rfl rfl rfl) (hwe e2 hz hz9 rfl rfl rfl) fun H3 e3 => ?_
      refine q_forNoKeys (ev_var rfl) (fun _ => rfl) (e3 _ _ upd_same) (fun od => ev_var rfl) fun H4 e4 => ?_
      have e04 : Ex H H4 := (e2.trans e3).trans e4
      have k' := k
      rw [abv_eq] at k'
      unfold topB at k'
      by_cases hwt : wt rs y = wt rs z
      · rw [if_neg (fun q => q hwt)] at k'
        refine q_when (b := false) (et_or (a := false) (et_is (et_test (ev_op (ev_var rfl) (ev_var rfl) (rv_ne rfl))) (by rw [hwt]; simp)) fun _ => et_or (a := false) (et_B (ev_isi (ev_var rfl) (.base (.tup (e04 _ _ hr1))) (by decide +kernel))) fun _ => et_B (ev_isi (ev_var rfl) (.base (.tup (e04 _ _ hr2))) (by decide +kernel))) (fun z => nomatch z) fun _ H5 e5 => ?_
        have e05 := e04.trans e5
        have ix : ∀ {σ : L2.St} {G : Hp} {i : Nat} {r : Addr} {us : List V} {x : Wd}, Ex H G → H r = some (.tup (.str x.nm :: us)) → σ[i]? = some (some (.ref r)) → Ev (tOp (rIxT K) (tVar i) (tC (.int 0))) σ G (.str x.nm) := fun e h a => ev_op (ev_var a) ev_c (rv_ixT (st_of (e _ _ h)) (atI_nat (j := 0) rfl))
        by_cases hnm : y.nm = z.nm
        · rw [if_neg (fun q => q hnm)] at k'
          refine q_when (b := false) (et_is (et_test (ev_op (ix e05 hr1 rfl) (ix e05 hr2 rfl) (rv_ne rfl))) (by rw [hnm]; simp)) (fun z => nomatch z) fun _ H6 e6 => ?_
          have e06 := e05.trans e6
          refine q_forZipNT (eu_tail (ev_var rfl) (st_of (e06 _ _ hr1))) (eu_tail (ev_var rfl) (st_of (e06 _ _ hr2))) (fun i σ' H' => Ex H6 H' ∧ lexd (abv rs) (y.args.drop i) (z.args.drop i) = lexd (abv rs) y.args z.args ∧ ∃ a b : Option V, σ' = [some (.ref o), some (.ref r1), some (.ref r2), some (.ref d1), some (.ref d2), some (.int (wt rs y)), some (.int (wt rs z)), none, a, b]) ?_ ?_ ?_ ?_ ?_
          · exact fun H7 e7 => ⟨e7, rfl, none, none, rfl⟩
          · exact fun i σ' H' z => z.1
          · exact fun i σ' H' G z e => ⟨z.1.trans e, z.2⟩
          · rintro i x1 x2 σ' H' hx1 hx2 ⟨e7, hlex, a, b, rfl⟩ N hN2
            obtain ⟨w1, hw1, hv1⟩ := (hu1.ext (e06.trans e7)).get hx1
            obtain ⟨w2, hw2, hv2⟩ := (hu2.ext (e06.trans e7)).get hx2
            have dw1 := dp_args (List.mem_of_getElem? hw1)
            have dw2 := dp_args (List.mem_of_getElem? hw2)
            refine s_when (et_test (ev_op (ev_var rfl) (ev_var rfl) (rv_neW hv1 hv2 (by omega) (by omega)))) (fun hb H8 e8 => ?_) fun hb H8 e8 => ?_
            · have hne : w1 ≠ w2 := by simpa using hb
              rw [← hlex, lexd_ne hw1 hw2 hne] at k'
              exact s_ret (ev_call (ea_cons (ev_var rfl) (ea_cons (ev_var rfl) (ea_cons (ev_var rfl) ea_nil))) fun H9 e9 Q q E => ⟨o, rs, x1, x2, w1, w2, rfl, ho.ext (((e06.trans e7).trans e8).trans e9), hv1.ext (e8.trans e9), hv2.ext (e8.trans e9), by omega, by omega, by omega, hN, q⟩) fun H9 e9 => k' H9 (((e06.trans e7).trans e8).trans e9)
            · have heq : w1 = w2 := by simpa using hb
              subst heq
              exact hN2 _ _ ⟨e7.trans e8, by rw [← hlex]; exact (lexd_step hw1 hw2).symm, _, _, rfl⟩ e8
          · rintro σ' H' ⟨e7, hlex, a, b, rfl⟩
            have hl1 := hu1.length
            have hl2 := hu2.length
            rw [← hlex, lexd_end (by omega)] at k'
            exact s_ret ev_c fun H8 e8 => k' H8 ((e06.trans e7).trans e8)
        · rw [if_pos hnm] at k'
          refine q_when (b := true) (et_is (et_test (ev_op (ix e05 hr1 rfl) (ix e05 hr2 rfl) (rv_ne rfl))) (by rw [decide_eq_false (fun q => hnm (V.str.inj q))]; rfl)) (fun _ H6 e6 => ?_) (fun z => nomatch z)
          have e06 := e05.trans e6
          have dg : ∀ {σ : L2.St} {G : Hp} {i : Nat} {r : Addr} {us : List V} {x : Wd}, Ex H G → H r = some (.tup (.str x.nm :: us)) → σ[0]? = some (some (.ref o)) → σ[i]? = some (some (.ref r)) → Ev (tDGet (tFld K (tVar 0) "ranks") (tOp (rIxT K) (tVar i) (tC (.int 0)))) σ G (.int ((rk rs x.nm + 0 : Nat) : Int)) := fun {_ _ _ _ _ x} e h a b =>
            ev_dget (k := Sum.inr x.nm) (ev_fld (ev_var a) (e _ _ h1) T.cl T.nK l2) (ix e h b) (e _ _ h3) (val_r (hN _ (nm5 x)))
          refine s_ret (ev_is (ev_op (dg e06 hr1 rfl rfl) (dg e06 hr2 rfl rfl) rv_I0) ?_) fun H7 e7 => k' H7 (e06.trans e7)
          congr 1
          exact decide_eq_decide.mpr (by omega)
      · rw [if_pos hwt] at k'
        refine q_when (b := true) (et_or (a := true) (b := true) (et_is (et_test (ev_op (ev_var rfl) (ev_var rfl) (rv_ne rfl))) (by rw [decide_eq_false (fun q => hwt (V.int.inj q))]; rfl)) (fun z => nomatch z)) (fun _ H5 e5 => ?_) (fun z => nomatch z)
        exact s_ret (ev_op (ev_var rfl) (ev_var rfl) rv_I0) fun H6 e6 => k' H6 ((e04.trans e5).trans e6)
/-- what compare tells -/
def cmpS (rs : List (Str × Int)) (y z : Wd) : Str := if y = z then "same" else if abv rs y z = true then "above" else if abv rs z y = true then "below" else "none"
def spCmp (C : Addr) : Sp := fun vs H Q _ => ∃ o rs v u y z, vs = [.ref o, v, u] ∧ OrdAt C H o rs ∧ WV H v y ∧ WV H u z ∧ y.dp < 8 ∧ z.dp < 8 ∧ y.sz ≤ 1000 ∧ z.sz ≤ 1000 ∧ AllN rs ∧ RetV (.str (cmpS rs y z)) H Q
theorem sc_cmp : FnScope ["order", "one", "other", "left", "right"] ["order", "one", "other"] (defScope s_compare) := ⟨rfl, rfl, rfl, by decide +kernel, rfl, by decide +kernel, by decide +kernel⟩
theorem ok_compare (T : TO P w K mg base C) : Ok P w K mg base "compare" ["order", "one", "other"] 20 (spCmp C) := by
  obtain ⟨fC, dC, GC, bC, kC, mC⟩ := (ok_check_order T).ex
  obtain ⟨fO, dO, GO, bO, kO, mO⟩ := (ok_checked_ordered T).ex
  obtain ⟨fA, dA, GA, bA, kA, mA⟩ := (ok_is_above T 8).ex
  refine T.ok 23 rfl sc_cmp (fun vs H Q E h => ?_) (fun kV doc pm an cdv ct us hl => match us, hl with | [_, _, _], _ => rfl) (fun f cdv A outer s H vs Q E hr h => ?_)
  · obtain ⟨o, rs, v, u, y, z, rfl, _⟩ := h
    rfl
  · obtain ⟨o, rs, v, u, y, z, rfl, ho, hy, hz, dy, dz, sy, sz, hN, k⟩ := h
    have hr1 : Room 1 _ := hr.mono (by decide)
    have hr10 : Room 10 _ := hr.mono (by decide)
    refine ⟨_, pss_cons (ps_expr (pe_call GC hr1 (by rfl) mC kC bC .nil pass0 (pa_cons (pv 0) pa_nil)))
      (pss_cons (ps_set (i := 3) sc_cmp.nd rfl (Or.inl rfl) (pe_call GO hr10 (by rfl) mO kO bO .nil pass0 (pa_cons (pv 0) (pa_cons (pv 1) pa_nil))))
      (pss_cons (ps_set (i := 4) sc_cmp.nd rfl (Or.inl rfl) (pe_call GO hr10 (by rfl) mO kO bO .nil pass0 (pa_cons (pv 0) (pa_cons (pv 2) pa_nil))))
      (pss_cons (ps_if (pt_cmpR (op_eqD hr.units) (pv 3) (pv 4) (nomark _)) (pss_one (ps_ret pe_str)) pss_nil)
      (pss_cons (ps_if (pt_val (pe_call GA hr (by rfl) mA kA bA .nil pass0 (pa_cons (pv 0) (pa_cons (pv 3) (pa_cons (pv 4) pa_nil))))) (pss_one (ps_ret pe_str)) pss_nil)
      (pss_one (ps_ret (pe_ifExp (pt_val (pe_call GA hr (by rfl) mA kA bA .nil pass0 (pa_cons (pv 0) (pa_cons (pv 4) (pa_cons (pv 3) pa_nil))))) pe_str pe_str))))))), ?_⟩
    refine q_drop (ev_call (ea_cons (ev_var rfl) ea_nil) fun H1 e Q q E => ⟨o, rs, rfl, ho.ext e, q⟩) fun H1 e1 => ?_
    refine q_asg (ev_call (ea_cons (ev_var rfl) (ea_cons (ev_var rfl) ea_nil)) fun H2 e Q q E => ⟨o, rs, v, y, rfl, ho.ext (e1.trans e), hy.ext (e1.trans e), dy, sy, hN, q⟩) fun H2 e2 => ?_
    have e02 := e1.trans e2
    refine q_asg (ev_call (ea_cons (ev_var rfl) (ea_cons (ev_var rfl) ea_nil)) fun H3 e Q q E => ⟨o, rs, u, z, rfl, ho.ext (e02.trans e), hz.ext (e02.trans e), dz, sz, hN, q⟩) fun H3 e3 => ?_
    have e03 := e02.trans e3
    have ab : ∀ {σ : L2.St} {G : Hp} {i j : Nat} {v u : V} {y z : Wd}, Ex H G → WV H v y → WV H u z → y.dp < 8 → z.dp < 8 → σ[0]? = some (some (.ref o)) → σ[i]? = some (some v) → σ[j]? = some (some u) → Ev (tCall (spAb C 8) [] E0 (tCons (tVar 0) (tCons (tVar i) (tCons (tVar j) tNil)))) σ G (.bl (abv rs y z)) := fun e hy hz dy dz a b c =>
      ev_call (ea_cons (ev_var a) (ea_cons (ev_var b) (ea_cons (ev_var c) ea_nil))) fun H4 e4 Q q E => ⟨o, rs, _, _, _, _, rfl, ho.ext (e.trans e4), hy.ext (e.trans e4), hz.ext (e.trans e4), dy, by omega, by omega, hN, q⟩
    unfold cmpS at k
    refine q_when (et_test (ev_op (ev_var rfl) (ev_var rfl) (rv_eqW (hy.ext e03) (hz.ext e03) (by omega) (by omega)))) (fun hb H4 e4 => ?_) fun hb H4 e4 => ?_
    · rw [if_pos (of_decide_eq_true hb)] at k
      exact s_ret ev_c fun H5 e5 => k H5 ((e03.trans e4).trans e5)
    · rw [if_neg (of_decide_eq_false hb)] at k
      have e04 := e03.trans e4
      refine q_when (et_B (ab e04 hy hz dy dz rfl rfl rfl)) (fun hb H5 e5 => ?_) fun hb H5 e5 => ?_
      · rw [if_pos hb] at k
        exact s_ret ev_c fun H6 e6 => k H6 ((e04.trans e5).trans e6)
      · rw [if_neg (by rw [hb]; decide)] at k
        have e05 := e04.trans e5
        refine s_ret (ev_if (et_B (ab e05 hz hy dz dy rfl rfl rfl)) (fun hb => ?_) (fun hb => ?_)) fun H6 e6 => k H6 (e05.trans e6)
        · rw [if_pos hb]
          exact ev_c
        · rw [if_neg (by rw [hb]; decide)]
          exact ev_c
end
end K29

set_option Elab.async false
set_option linter.all false
set_option maxRecDepth 100000
set_option maxHeartbeats 4000000
/-! enumerate of a tuple. -/
namespace K29
open PySem PySem.Spec PyProof.Rows L2 Evl
set_option maxHeartbeats 1000000 in
theorem meets_enum1 {v : Value} {o : Obj} {H : Heap → Prop} (B : Begins v o H) :
    Meets (Builtin.«enumerate.__new__» ⟨[.type "enumerate", v], []⟩) (fun _ R s => H s.heap ∧
      R (.ok (.ret (.ref (s.heap.push o).objs.size))) { s with heap := (s.heap.push o).push { cls := .type "enumerate", data := .fields #[.none, .bool false, .ref s.heap.objs.size, rawInt 0, .none, .none] } }) :=
  .of_wp fun prog w A R s h => by
    obtain ⟨hp, g, d, tk, os⟩ := s
    obtain ⟨h1, h⟩ := h
    have hsub := sub_enumerate
    have q1 : ∀ {A' : Around} {E : Value → Shared → Prop} {Q : Value → Shared → Prop}, Q (.ref hp.objs.size) ⟨hp.push o, g, d, tk, os⟩ → wpAny (model prog w) A' (pyIter v) Q E ⟨hp, g, d, tk, os⟩ :=
      fun q => B.iter prog w _ _ ⟨hp, g, d, tk, os⟩ _ h1 q
    wp_walk using q1
    refine wpAny_stack_any fun st => wpAny_pure ?_
    split
    · rename_i c _ _ _ _ _
      cases (c == Value.type "enumerate")
      · wp_walk using q1
        exact ⟨_, rfl, h⟩
      · wp_walk using q1
        exact ⟨_, rfl, h⟩
    · wp_walk using q1
      exact ⟨_, rfl, h⟩
theorem call_enum1 {prog : Program} {w : World} {A : Around} {E : Value → Shared → Prop} {s : Shared} {v : Value} {o : Obj} {H : Heap → Prop} {Q : Value → Shared → Prop} (B : Begins v o H) (h1 : H s.heap)
    (h : ∀ h', IsEnum h' (s.heap.objs.size + 1) s.heap.objs.size 0 .none → h'.get? s.heap.objs.size = some o → h'.objs.size = s.heap.objs.size + 2 →
      (∀ b o, s.heap.get? b = some o → h'.get? b = some o) → Q (.ref (s.heap.objs.size + 1)) { s with heap := h' }) :
    wpAny (model prog w) A (call (.type "enumerate") [v]) Q E s := by
  refine callType_new F.called_enumerate (by decide) (F.typeCall_enumerate_1 _) (F.newCall_enumerate_1 _) (fun obj => F.args_object_init_2 obj _) F.entry_enumerate_new
    (meets_enum1 B) ⟨h1, ?_⟩
  have hz : (s.heap.push o).objs.size = s.heap.objs.size + 1 := Heap.size_push ..
  show _ ∧ _
  rw [hz]
  have he : IsEnum ((s.heap.push o).push { cls := .type "enumerate", data := .fields #[.none, .bool false, .ref s.heap.objs.size, rawInt 0, .none, .none] }) (s.heap.objs.size + 1) s.heap.objs.size 0 .none := by
    have := Heap.get?_push_size (s.heap.push o) (o := { cls := .type "enumerate", data := .fields #[.none, .bool false, .ref s.heap.objs.size, rawInt 0, .none, .none] }) rfl
    rw [hz] at this; exact this
  refine ⟨⟨_, he, rfl⟩, h _ he (Heap.get?_push_of_some _ (Heap.get?_push_size _ B.free)) (by rw [Heap.size_push, hz]) fun b o x => Heap.get?_push_of_some _ (Heap.get?_push_of_some _ x)⟩
/-- the tuple at a as it stands at each turn, each item in a new pair -/
def IteT (K : PySem.W.Frag) (a : Addr) : It :=
  ⟨fun i H => ∃ (xs : List V) (x : V), SqT K H a xs ∧ xs[i]? = some x, fun i H v H' => ∃ T x, v = .ref T ∧ H T = none ∧ H' = upd H T (.tup [.int (i : Nat), x]) ∧ ∀ xs, SqT K H a xs → xs[i]? = some x, fun i H => ∃ xs : List V, SqT K H a xs ∧ xs.length ≤ i⟩
theorem draws_end {prog : Program} {w : World} {A : Around} {it a : Addr} {items : Array Value} {i : Nat} (hh : A.handled = none) (hne : a ≠ it) (hx : items[i]? = none) :
    Draws prog w A it [it, a] i (fun _ _ => False) (fun j h => j = i ∧ h.IsTupleIter it a i ∧ h.IsTuple a items) where
  live := fun _ _ st => let ⟨o, ho, _⟩ := st.2.1; ⟨o, ho⟩
  frame := fun _ _ _ st hk => ⟨st.1, st.2.1.at fun o e => hk it (by simp) o e, st.2.2.at fun o e => hk a (by simp) o e⟩
  item := fun j s Q E hj st _ => absurd st.1 (by omega)
  done := fun s Q E st hE => wpAny_nextOf_tuple_end hh st.2.1 st.2.2 hx hE
theorem turn_enumT {P : Program} {w : World} {K : PySem.W.Frag} {elts : List Expr} {kk : Nat} {tpos : Pos} (a e it : Addr) :
    Turn P w K (.Tuple elts kk tpos) (IteT K a) [e, it] e (fun i h => (∃ old, IsEnum h e it ((i : Nat) : Int) old) ∧ h.IsTupleIter it a i ∧ e ≠ it ∧ a ≠ it ∧ e ≠ a) where
  mem := by simp
  obj := fun i h st b hb => by
    obtain ⟨⟨old, he⟩, ⟨o, ho, hc, hd⟩, _⟩ := st
    have e' : b = e ∨ b = it := by simpa using hb
    rcases e' with z | z
    · rw [z]; exact ⟨_, he, fun v q => nomatch q⟩
    · rw [z]; exact ⟨o, ho, fun v q => by rw [hd] at q; cases q⟩
  keep := fun i h h' st k => let ⟨⟨old, he⟩, hi, hne⟩ := st; ⟨⟨old, k e (by simp) _ he⟩, hi.at fun o q => k it (by simp) o q, hne⟩
  item := by
    intro X hP hw hK hc i pins s σ H E I hf st hg
    subst hP hw hK
    obtain ⟨⟨old, he⟩, hit, hne, hai, hea⟩ := st
    obtain ⟨xs, x, hq, hx⟩ := hg
    obtain ⟨its, rv, p, hz⟩ := I.tuple hq
    obtain ⟨u, hu, ru⟩ := rv.get hx
    have hel : e < s.heap.objs.size := Heap.lt_size he
    have hil : it < s.heap.objs.size := by obtain ⟨_, q, _⟩ := hit; exact Heap.lt_size q
    have hlt : i < its.toArray.size := by
      have := (List.getElem?_eq_some_iff.mp hu).1
      simpa using this
    refine wpAny_pyNext_enum_itemD (Draws.tuple (A := X.A.in1) (I.ok.hd hc) it a hai its.toArray) he ⟨hit, p⟩ hlt hne (by simp [hne, hea]) fun y h' tk hy ho hst hT hsz hk => ?_
    have hyu : y = u := by
      have e1 : its.toArray[i]? = some u := by simpa using hu
      rw [e1] at hy
      exact (Option.some.inj hy).symm
    subst hyu
    refine ⟨_, rfl, wpAny_letOwnedTupleGo_enum (s := { s with heap := h', toks := tk + 1 }) ho fun h'' he' sb => ?_⟩
    have hT2 : h''.get? s.heap.objs.size = some { cls := .type "tuple", data := .seq #[.int i tk, y] } := (sb.2 _ (Nat.ne_of_gt hel)).trans hT
    have new : ObjOk X.prog X.w (upd H s.heap.objs.size (.tup [.int (i : Nat), x])) h'' s.heap.objs.size (.tup [.int (i : Nat), x]) :=
      ⟨by show 2 ≤ sizeLine; decide, [.int i tk, y], .cons ⟨_, rfl⟩ (.cons ru .nil), ⟨_, hT2, rfl, _, rfl⟩⟩
    have I1 : Inv X pins σ (upd H s.heap.objs.size (.tup [.int (i : Nat), x])) { s with heap := h'', toks := tk + 1 } :=
      I.turnedNew (ch := [e, it]) (fun b ob hb q => (sb.2 b (fun z => hb (by simp [z]))).trans (hk b ob (fun z => hb (by simp [z])) (fun z => hb (by simp [z])) q)) hf (Nat.le_refl _) new
    refine ⟨.ref s.heap.objs.size, _, I1, rfl, ⟨_, x, rfl, I.hok.fresh (Nat.le_refl _), rfl, fun ys hy => by rw [I.tuple_inj hy hq]; exact hx⟩, ⟨⟨y, ?_⟩, hst.1.at fun o q => (sb.2 it (Ne.symm hne)).trans q, hne, hai, hea⟩, fun b hb => ?_⟩
    · have e1 : ((i + 1 : Nat) : Int) = (i : Int) + 1 := by omega
      rw [e1]; exact he'
    · have hb' : b < s.heap.objs.size := by
        have e' : b = e ∨ b = it := by simpa using hb
        rcases e' with z | z
        · rw [z]; exact hel
        · rw [z]; exact hil
      rw [upd_ne (Nat.ne_of_lt hb')]
      exact (hf b hb).1
  done := by
    intro X hP hw hK hc i pins s σ H E I hf st hg
    subst hP hw hK
    obtain ⟨⟨old, he⟩, hit, hne, hai, hea⟩ := st
    obtain ⟨xs, hq, hx⟩ := hg
    obtain ⟨its, rv, p, hz⟩ := I.tuple hq
    obtain ⟨f0, f1, f2, f3, f4, f5⟩ := hf it (by simp)
    have hl := rv.length
    have hx0 : its.toArray[i]? = none := by simp; omega
    exact wpAny_pyNext_enum_endD (draws_end (A := X.A.in1) (I.ok.hd hc) hai hx0) he ⟨rfl, hit, p⟩ fun h' eb => ⟨rfl, I.turned (t' := s.toks) (fun b o hb q => eb b o hb q) f0 f1 f3 f4 f5⟩
  self := fun A i s Q E st h => let ⟨⟨_, he⟩, _⟩ := st; wpAny_pyIter_enum he h
def iEnumT (K : PySem.W.Frag) (ta : TA) : TI := fun σ H R => ta σ H fun vs H1 => ∃ a xs, vs = [.ref a] ∧ SqT K H1 a xs ∧ R (IteT K a) H1
theorem pi_enumT {X : Cx} {e : Expr} {ta : TA} {p pos tpos : Pos} {elts : List Expr} {kk : Nat} (hg : Gl X "enumerate") (hm : X.mg "enumerate" = none) (ha : PA X [e] ta) (hs : starEach [e] X.env = [(false, eval e X.env)] := by rfl) :
    PI X (.Tuple elts kk tpos) (.Call (.Name "enumerate" p) [e] [] pos) (iEnumT X.K ta) := by
  refine ⟨fun pins s σ H R I h => ?_⟩
  refine Call_ (ld_blt I hg hm boot_enumerate (PyProof.Rows.callWith_type1 (thn (ha.run pos pins s σ H _ I h) fun us s1 ⟨vs, H1, I1, r1, q1⟩ => ?_) hs rfl))
  obtain ⟨a, xs, ex, hq, q⟩ := q1
  subst ex
  cases r1 with
  | cons r rr =>
    cases rr
    cases r
    obtain ⟨its, rv, p', hz⟩ := I1.tuple hq
    have hal : a < s1.heap.objs.size := by obtain ⟨_, q, _⟩ := p'; exact Heap.lt_size q
    refine call_enum1 (begins_tuple a its.toArray) (show s1.heap.IsTuple a its.toArray from p') fun h' he hit hsz hk => wpAny_pyIter_enum he ?_
    have I2 : Inv X pins σ H1 { s1 with heap := h' } := I1.kept (t' := s1.toks) hk
    refine ⟨s1.heap.objs.size + 1, [s1.heap.objs.size + 1, s1.heap.objs.size], _, _, H1, rfl, I2, turn_enumT a (s1.heap.objs.size + 1) s1.heap.objs.size, ⟨⟨.none, he⟩, ⟨_, hit, rfl, rfl⟩, Nat.succ_ne_self _, Nat.ne_of_lt hal, Nat.ne_of_gt (Nat.lt_succ_of_lt hal)⟩, fun b hb => ?_, q⟩
    have e' : b = s1.heap.objs.size + 1 ∨ b = s1.heap.objs.size := by simpa using hb
    have hle : s1.heap.objs.size ≤ b := by
      rcases e' with z | z
      · rw [z]; exact Nat.le_add_right _ _
      · rw [z]; exact Nat.le_refl _
    exact I1.fpOk hle (I1.hok.fresh hle)
theorem walk_enumT {K : PySem.W.Frag} {a : Addr} {xs : List V} : Walk (IteT K a) xs.length (fun H => SqT K H a xs) (YPair (fun i => some (.int (i : Nat))) (fun i => xs[i]?)) := by
  refine ⟨fun i _ hi q => ⟨xs, xs[i], q, by simp [hi]⟩, fun _ q => ⟨xs, q, Nat.le_refl _⟩, fun i H v H' _ q y => ?_⟩
  obtain ⟨T, x, h1, h2, h3, h4⟩ := y
  exact ⟨T, .int (i : Nat), x, h1, h2, h3, rfl, h4 xs q⟩
/-- for i, x in enumerate(t), t a new tuple -/
theorem q_forEnumNT {K : PySem.W.Frag} {σ : L2.St} {H : Hp} {tl : TE} {D : Ends} {tu tz : TS} {xs : List V} {j1 j2 : Nat} (h : EvU tl σ H xs) (Pv : Nat → L2.St → Hp → Prop) (h0 : ∀ H1, Ex H H1 → Pv 0 σ H1)
    (hs : ∀ (i : Nat) x σ' H' H2, xs[i]? = some x → Pv i σ' H' → Ex H' H2 → ∀ N : L2.St → Hp → Prop, (∀ σ3 H3, Pv (i + 1) σ3 H3 → Tx H2 H3 → N σ3 H3) → tu { D with nx := N, ct := N, bk := tz D } ((σ'.set j1 (some (.int i))).set j2 (some x)) H2) (hd : ∀ σ' H', Pv xs.length σ' H' → tz D σ' H') : tSeq (tFor (iEnumT K (tCons tl tNil)) (gPair K j1 j2) tu) tz D σ H :=
  h H (Ex.refl H) _ fun p H1 _ e hp => ⟨p, xs, rfl, st_of hp, for_it walk_enumT (fun i σ' H' => Pv i σ' H' ∧ H' p = some (.tup xs)) ⟨h0 H1 e, hp⟩ (fun i σ' H' _ z => st_of z.2) (fun i v σ' H' H2 hi z y => by
    obtain ⟨T, x, w, rfl, hT, rfl, e1, e2⟩ := y
    cases e1
    have eT : Ex H' (upd H' T (.tup [.int (i : Nat), w])) := Ex.new hT
    exact ⟨T, _, rfl, st_of upd_same, rfl, _, _, rfl, _, _, rfl, rfl, hs i w σ' H' _ e2 z.1 eT _ fun σ3 H3 a t => ⟨a, t _ _ (eT _ _ z.2)⟩⟩) fun σ' H' z => hd σ' H' z.1⟩
end K29

set_option Elab.async false
set_option linter.all false
set_option maxRecDepth 100000
set_option maxHeartbeats 4000000
/-! The law's words: their parts, their weights. -/
namespace K29
open PySem PySem.Spec PyProof.Rows L2 Evl
section
variable {K : PySem.W.Frag} {σ : L2.St} {H G : Hp} {te ta tb tl tk tx : TE} {tt : TT} {v : V} {D : Ends} {tu tz : TS}
theorem s_extLP {l : Addr} {xs : List V} {P : List V → Hp → Prop} (hl : H l = some (.lst xs)) (ha : Ev ta σ H (.ref l)) (hb : EvLP te σ H P) (hs : ∀ zs G, P zs G → xs.length + zs.length ≤ 100000) (k : ∀ zs H1, Ex H H1 → P zs H1 → D.nx σ (upd H1 l (.lst (xs ++ zs)))) :
    tDrop (tBM K "list" rExtend ta (tCons te tNil)) D σ H := ha H (Ex.refl H) _ fun H1 e1 => ⟨.inl ⟨rfl, _, sq_of (e1 l _ hl)⟩, hb H1 e1 _ fun p zs H2 _ e2 hp pz =>
  ⟨l, p, xs, zs, rfl, rfl, e2 l _ (e1 l _ hl), hp, sz_of (hs zs H2 pz), k zs H2 (e1.trans e2) pz⟩⟩
theorem et_yes : EvT tYes σ H true := fun H1 e Q q => q H1 (Ex.refl _)
end
theorem sz_mem {ws : List Wd} {w : Wd} (h : w ∈ ws) : w.sz ≤ wsz ws := by
  induction ws with
  | nil => simp at h
  | cons x xs ih =>
    simp only [wsz, List.map_cons, List.sum_cons] at ih ⊢
    rcases List.mem_cons.mp h with rfl | h
    · omega
    · have := ih h
      omega
theorem wsz_take (ws : List Wd) (i : Nat) : wsz (ws.take i) ≤ wsz ws := by
  have h : wsz ws = wsz (ws.take i) + wsz (ws.drop i) := by
    conv => lhs; rw [← List.take_append_drop i ws]
    simp only [wsz, List.map_append, List.sum_append]
  omega
theorem s_forEnumNT {K : PySem.W.Frag} {σ : L2.St} {H : Hp} {tl : TE} {D : Ends} {tu : TS} {xs : List V} {j1 j2 : Nat} (h : EvU tl σ H xs) (Pv : Nat → L2.St → Hp → Prop) (h0 : ∀ H1, Ex H H1 → Pv 0 σ H1)
    (hs : ∀ (i : Nat) x σ' H' H2, xs[i]? = some x → Pv i σ' H' → Ex H' H2 → ∀ N : L2.St → Hp → Prop, (∀ σ3 H3, Pv (i + 1) σ3 H3 → Tx H2 H3 → N σ3 H3) → tu { D with nx := N, ct := N, bk := D.nx } ((σ'.set j1 (some (.int i))).set j2 (some x)) H2) (hd : ∀ σ' H', Pv xs.length σ' H' → D.nx σ' H') : tFor (iEnumT K (tCons tl tNil)) (gPair K j1 j2) tu D σ H :=
  q_forEnumNT (D := D) (tz := fun D => D.nx) h Pv h0 hs hd
theorem filter_true (l : List Nat) : (l.filter fun _ => true) = l := List.filter_eq_self.mpr fun _ _ => rfl
/-- parts: a new list of places, a word; B is so of each place's list -/
def PartV (n : Nat) (B : Addr → Prop) (H : Hp) (x : V) : Prop := ∃ t l lx u y, x = .ref t ∧ H t = some (.tup [.ref l, u]) ∧ B l ∧ H l = some (.lst lx) ∧ lx.length ≤ n ∧ WV H u y
theorem PartV.mut {n m : Nat} {B B' : Addr → Prop} {H G : Hp} {x : V} (h : PartV n B H x) (nm : n ≤ m) (t : Tx H G) (l : ∀ a o, B a → H a = some o → G a = some o) (b : ∀ a, B a → B' a) : PartV m B' G x := by
  obtain ⟨q, o, lx, u, y, rfl, h1, h2, h3, h4, h5⟩ := h
  exact ⟨q, o, lx, u, y, rfl, t _ _ h1, b _ h2, l _ _ h2 h3, Nat.le_trans h4 nm, h5.tx t⟩
section
variable {P : Program} {w : World} {K : PySem.W.Frag} {mg : Str → Option Value} {base : Heap} {C : Addr}
def spDP (m : Nat) : Sp := fun vs H Q _ => ∃ v z, vs = [v] ∧ WV H v z ∧ z.dp < m ∧ m ≤ 40 ∧ z.sz ≤ 1000 ∧
  ∀ p xs H', H p = none → Ex H H' → H' p = some (.lst xs) → (∀ x ∈ xs, PartV m (fun l => H l = none ∧ l ≠ p) H' x) → xs.length ≤ z.sz → Q (.ref p) H'
abbrev nDP : List Str := ["_law_word", "_law_found", "_law_index", "_law_part", "_law_place", "_law_deep"]
theorem sc_dp : FnScope nDP ["_law_word"] (defScope s__law_d_parts) := ⟨rfl, rfl, rfl, by decide +kernel, rfl, by decide +kernel, by decide +kernel⟩
theorem ok_d_parts (T : T29 P w K mg base) : ∀ m, Ok P w K mg base "_law_d_parts" ["_law_word"] (m + 1) (spDP m)
  | 0 => T.ok 24 rfl sc_dp (fun vs H Q E h => by obtain ⟨v, z, rfl, _⟩ := h; rfl) (fun kV doc pm an cdv ct us hl => match us, hl with | [_], _ => rfl) (fun f cdv A outer s H vs Q E hr h => by obtain ⟨v, z, _, _, h0, _⟩ := h; exact absurd h0 (Nat.not_lt_zero _))
  | m + 1 => by
    obtain ⟨fR, dR, GR, bR, kR, mR⟩ := (ok_d_parts T m).ex
    refine T.ok 24 rfl sc_dp (fun vs H Q E h => ?_) (fun kV doc pm an cdv ct us hl => match us, hl with | [_], _ => rfl) (fun f cdv A outer s H vs Q E hr h => ?_)
    · obtain ⟨v, z, rfl, _⟩ := h
      rfl
    · obtain ⟨v, z, rfl, hw, hz, hm, hs, k⟩ := h
      obtain ⟨r, us, rfl, hr1, hu⟩ := hw.tup
      refine ⟨_, pss_cons (ps_set (i := 1) sc_dp.nd rfl (Or.inl rfl) (pe_lst (pa_cons (pe_tup (pa_cons (pe_lst pa_nil) (pa_cons (pv 0) pa_nil))) pa_nil)))
        (pss_cons (ps_if (pt_not (pt_val (pe_isiB T.isi T.str PyProof.Rows.boot_str (pv 0))))
          (pss_one (ps_for PassesOwn.never rfl (pi_enumT (by rfl) T.enumerate (pa_cons (pe_slice sl_tup (pv 0) (po_some pe_int) po_none) pa_nil)) (pg_tup rfl (pgs_cons (pg_name (i := 2) sc_dp.nd rfl (Or.inr rfl)) (pgs_cons (pg_name (i := 3) sc_dp.nd rfl (Or.inl rfl)) pgs_nil)))
            (pss_one (ps_expr (pe_bm PySem.F.plainAttrs_list PySem.F.slot_list_extend PySem.F.type_list_extend mt_extend (pv 1) (pa_cons
              (pe_lc (own := [("_law_place", 4), ("_law_deep", 5)]) (g := gPair K 4 5) (tt := tYes) (te := tTup (tCons (tOp rCat (tLst (tCons (tVar 2) tNil)) (tVar 4)) (tCons (tVar 5) tNil))) rfl sc_dp.nd (pi_list (pe_call GR hr (by rfl) mR kR bR .nil pass0 (pa_cons (pv 3) pa_nil))) (blkOk_by (N := nDP) (sc := defScope s__law_d_parts) (by decide +kernel))
                (fun _ _ _ _ _ => pg_tup rfl (pgs_cons (pg_name (i := 4) sc_dp.nd rfl (Or.inl rfl)) (pgs_cons (pg_name (i := 5) sc_dp.nd rfl (Or.inl rfl)) pgs_nil))) (fun _ _ _ _ _ => pts_nil)
                (fun _ _ _ _ _ => pe_tup (pa_cons (pe_op op_cat (pe_lst (pa_cons (pv 2) pa_nil)) (pv 4)) (pa_cons (pv 5) pa_nil)))) pa_nil)))))) pss_nil)
        (pss_one (ps_ret (pv 1)))), ?_⟩
      refine ⟨Nat.zero_le _, fun l hl => ⟨_, rfl, by show 2 ≤ sizeLine; decide, fun t ht => ⟨by show 1 ≤ sizeLine; decide, fun p hp => ?_⟩⟩⟩
      have e1 : Ex H (upd H l (.lst [])) := Ex.new hl
      have e2 := e1.trans (Ex.new (o := .tup [.ref l, .ref r]) ht)
      have e3 := e2.trans (Ex.new (o := .lst [.ref t]) hp)
      have hp0 : H p = none := fresh_back e2 hp
      have hlp : l ≠ p := by
        intro q
        subst q
        have q2 := (Ex.new (H := upd H l (.lst [])) (o := .tup [.ref l, .ref r]) ht) l _ upd_same
        rw [q2] at hp
        cases hp
      have htp : t ≠ p := by
        intro q
        subst q
        rw [upd_same] at hp
        cases hp
      have first : PartV (m + 1) (fun l => H l = none ∧ l ≠ p) (upd (upd (upd H l (.lst [])) t (.tup [.ref l, .ref r])) p (.lst [.ref t])) (.ref t) :=
        ⟨t, l, [], .ref r, z, rfl, by rw [upd_ne htp, upd_same], ⟨hl, hlp⟩, by rw [upd_ne hlp]; exact (Ex.new (o := .tup [.ref l, .ref r]) ht) l _ upd_same, Nat.zero_le _, hw.ext e3⟩
      refine q_when (b := true) (et_not (a := false) (et_B (ev_isi (ev_var rfl) (.base (.tup (e3 _ _ hr1))) (by decide +kernel)))) (fun _ H1 e4 => ?_) (fun z => nomatch z)
      have e04 := e3.trans e4
      refine s_forEnumNT (eu_tail (ev_var rfl) (st_of (e04 _ _ hr1))) (fun i σ' H' => Ex H H' ∧ (∃ a b : Option V, σ' = [some (.ref r), some (.ref p), a, b, none, none]) ∧ ∃ xs, H' p = some (.lst xs) ∧ (∀ x ∈ xs, PartV (m + 1) (fun l => H l = none ∧ l ≠ p) H' x) ∧ xs.length ≤ 1 + wsz (z.args.take i)) ?_ ?_ ?_
      · intro H2 e5
        refine ⟨e04.trans e5, ⟨none, none, rfl⟩, [.ref t], e5 _ _ (e4 _ _ upd_same), fun x hx => ?_, by simp⟩
        obtain rfl : x = .ref t := by simpa using hx
        exact first.mut (Nat.le_refl _) (Tx.of (e4.trans e5)) (fun a o _ q => e5 _ _ (e4 _ _ q)) fun _ q => q
      · rintro i x σ' H' H2 hx ⟨e5, ⟨a, b, rfl⟩, xs, h5, hP, hlen⟩ e6 N hN
        have e06 := e5.trans e6
        have h6 := e6 _ _ h5
        obtain ⟨y, hy, hwy⟩ := (hu.ext e06).get hx
        have hym := List.mem_of_getElem? hy
        have hyd := dp_args hym
        have hys : y.sz ≤ 1000 := by
          have h1 := wsz_args z
          have h2 := sz_mem hym
          omega
        refine s_extLP (P := fun zs G => (∀ x ∈ zs, PartV (m + 1) (fun l => H2 l = none) G x) ∧ zs.length ≤ y.sz) h6 (ev_var rfl) ?_ (fun zs G q => ?_) fun zs H3 e7 q => ?_
        · intro H3 e7 Q3 q3
          refine ⟨x, rfl, x, y, rfl, hwy.ext e7, by omega, by omega, hys, fun pq ps H5 hpq e9 h9 hparts hplen => ?_⟩
          refine ⟨pq, rfl, ⟨ps, sq_of h9⟩, fun Dl hD => lc_it walk_list (Cwp H5 (fun _ => true) (fun _ v G => PartV (m + 1) (fun l => H2 l = none ∧ l ≠ Dl) G v) Dl) (cwp0 hD) (fun i G _ c => sq_of (c.2.1 _ _ h9)) ?_ ?_⟩
          · rintro j v G G' hj c ⟨rfl, hv⟩
            obtain ⟨t5, l5, lx5, u5, y5, rfl, k1, k2, k3, k4, k5⟩ := hparts v (List.mem_of_getElem? hv)
            have eG := c.2.1
            obtain ⟨acc, hacc, _⟩ := c.2.2
            refine ⟨t5, _, rfl, st_of (eG _ _ k1), rfl, _, _, rfl, _, _, rfl, rfl, rfl, cwp_turn (fun _ v => ?_) c (Ex.refl _) (by omega) et_yes (fun _ G3 e10 => ?_)⟩
            · intro G1 G2 xs1 a0 a1 a2 a3 hp
              have tx : Tx G1 G2 := fun a ys q => a3 a _ (ne_of q a0 (by intro z; cases z)) q
              exact hp.mut (Nat.le_refl _) tx (fun a o q1 q2 => a3 a o q1.2 q2) fun _ q => q
            · intro G4 e11 Q4 q4
              have e12 := (eG.trans e10).trans e11
              refine ⟨_, rfl, by show 1 ≤ sizeLine; decide, fun l6 hl6 => ⟨_, rfl, l6, l5, _, lx5, rfl, rfl, upd_same, Ex.new hl6 _ _ (e12 _ _ k3), sz_of (by simp; omega), fun l7 hl7 => ⟨_, rfl, by show 2 ≤ sizeLine; decide, fun t8 ht8 => ?_⟩⟩⟩
              have x6 : Ex G4 (upd G4 l6 (.lst [.int i])) := Ex.new hl6
              have x7 := x6.trans (Ex.new (o := .lst ([V.int i] ++ lx5)) hl7)
              have x8 := x7.trans (Ex.new (o := .tup [.ref l7, u5]) ht8)
              have h47 : G4 l7 = none := fresh_back x6 hl7
              refine q4 _ _ x8 ⟨t8, l7, [V.int i] ++ lx5, u5, y5, rfl, upd_same, ⟨fresh_back (((e7.trans e9).trans e12)) h47, fun z => ?_⟩, ?_, by simp; omega, k5.ext (e12.trans x8)⟩
              · rw [z, e11 _ _ (e10 _ _ hacc)] at h47
                cases h47
              · rw [upd_ne (fun z => by rw [z, upd_same] at ht8; cases ht8)]
                exact upd_same
          · rintro G c
            obtain ⟨acc, hacc, hal, ha2⟩ := c.2.2
            have hal2 := ha2.length
            rw [filter_true, List.length_range] at hal2
            refine q3 Dl acc G (fresh_back e9 c.1) (e9.trans c.2.1) hacc ⟨fun v hv => ?_, by omega⟩
            obtain ⟨j, hj⟩ := List.getElem?_of_mem hv
            obtain ⟨i', _, hp⟩ := ha2.getb hj
            exact hp.mut (Nat.le_refl _) (Tx.refl _) (fun _ _ _ q => q) fun _ q => q.1
        · have h1 := wsz_args z
          have h3 : wsz (z.args.take i) ≤ wsz z.args := wsz_take _ _
          have := q.2
          omega
        · refine hN _ _ ⟨Ex.mut (e06.trans e7) hp0, ⟨_, _, rfl⟩, xs ++ zs, upd_same, fun x' hx' => ?_, ?_⟩ ((Tx.of e7).trans (Tx.lst (e7 _ _ h6)))
          · rcases List.mem_append.mp hx' with g | g
            · refine (hP _ g).mut (Nat.le_refl _) ((Tx.of (e6.trans e7)).trans (Tx.lst (e7 _ _ h6))) (fun a o q1 q2 => ?_) fun _ q => q
              rw [upd_ne q1.2]
              exact e7 _ _ (e6 _ _ q2)
            · refine (q.1 _ g).mut (Nat.le_refl _) (Tx.lst (e7 _ _ h6)) (fun a o q1 q2 => ?_) fun a q1 => ⟨fresh_back e06 q1, fun z => ?_⟩
              · rw [upd_ne (fun z => by rw [z, h6] at q1; cases q1)]
                exact q2
              · rw [z, h6] at q1
                cases q1
          · have e : wsz (z.args.take (i + 1)) = wsz (z.args.take i) + y.sz := by
              rw [List.take_succ, hy]
              simp [wsz]
            rw [List.length_append, e]
            have := q.2
            omega
      · rintro σ' H' ⟨e5, ⟨a, b, rfl⟩, xs, h5, hP, hlen⟩
        have hl1 := hu.length
        rw [hl1, List.take_length] at hlen
        have h1 := wsz_args z
        refine s_ret (ev_var rfl) fun H2 e6 => k p xs H2 hp0 (e5.trans e6) (e6 _ _ h5) (fun x hx => (hP x hx).mut (Nat.le_refl _) (Tx.of e6) (fun a o _ q => e6 _ _ q) fun _ q => q) (by omega)
end
end K29

set_option Elab.async false
set_option linter.all false
set_option maxRecDepth 100000
set_option maxHeartbeats 4000000
/-! The law's order of words. -/
namespace K29
open PySem PySem.Spec PyProof.Rows L2 Evl
section
variable {K : PySem.W.Frag} {σ : L2.St} {H G : Hp} {te ta tb tl tk tx : TE} {tt : TT} {v : V} {D : Ends} {tu tz : TS}
/-- [f(x) for x in t], t a new tuple -/
theorem el_lcNT {xs : List V} {j : Nat} {vs : List Nat} (f : Nat → V) (h : EvU tl σ H xs) (hz : xs.length ≤ 40000) (hw : ∀ x, wipe ((wipe σ vs).set j (some x)) vs = wipe σ vs)
    (he : ∀ (i : Nat) (x : V) H1, Ex H H1 → xs[i]? = some x → Ev te ((wipe σ vs).set j (some x)) H1 (f i)) :
    EvL (tLc (iTup K tl) (gName j) tYes te vs) σ H (given xs.length (fun _ => true) f) := fun H0 e Q q => h H0 e _ fun a H1 ha e1 hx => ⟨a, rfl, ⟨xs, st_of hx⟩, fun Dl hD =>
  lc_tup (xs := xs) (Cw H1 (fun _ => true) f Dl) ⟨hD, Ex.new hD, upd_same⟩ (fun i H' _ p => st_of (p.2.1 a _ hx)) (fun i x H' hi p => ⟨hw x, cw_turn p (by have := (List.getElem?_eq_some_iff.mp hi).1; omega) et_yes (fun _ => he i x H1 (e.trans e1) hi)⟩)
    (fun H' p => q Dl H' (fresh_back e1 p.1) (e1.trans p.2.1) p.2.2)⟩
theorem given_all (n : Nat) (f : Nat → V) : given n (fun _ => true) f = (List.range n).map f := by
  unfold given
  rw [filter_true]
theorem ev_sumL {ns : List Int} (h : EvL te σ H (ns.map V.int)) : Ev (tCB (rSum K) (tCons te tNil)) σ H (.int ns.sum) := fun H1 e Q q => h H1 e _ fun p H2 _ e2 h2 => ⟨p, ns, rfl, sq_of h2, q H2 e2⟩
theorem ev_anyL {bs : List Bool} (h : EvL te σ H (bs.map V.bl)) : Ev (tCB (rAny K) (tCons te tNil)) σ H (.bl (bs.any id)) := fun H1 e Q q => h H1 e _ fun p H2 _ e2 h2 => ⟨p, bs, rfl, sq_of h2, q H2 e2⟩
end
/-- rows as dicts: dict(rows) -/
theorem merge_w : ∀ (rs qs : List (Str × Int)), ((qs ++ rs).map (·.1)).Nodup → mergeK (wkv qs) (wkv rs) = wkv (qs ++ rs)
  | [], qs, _ => by simp [wkv, mergeK]
  | r :: rs, qs, nd => by
    show mergeK (putK (wkv qs) (Sum.inr r.1) (V.int r.2)) (wkv rs) = _
    have h1 : r.1 ∉ qs.map (·.1) := by
      intro z
      rw [List.map_append] at nd
      exact (List.nodup_append.mp nd).2.2 _ z _ (by simp) rfl
    rw [putK_new _ (val_none h1)]
    have e1 : wkv qs ++ [((Sum.inr r.1 : Key), V.int r.2)] = wkv (qs ++ [r]) := by simp [wkv]
    rw [e1, merge_w rs (qs ++ [r]) (by rw [List.append_assoc]; exact nd), List.append_assoc] <;> rfl
/-- a new dict of the rows -/
abbrev tDict (K : PySem.W.Frag) (te : TE) : TE := tCB (fun xs H Q => ∃ (a : Addr) (ps : List Addr) (kvs : List (Key × V)), xs = [.ref a] ∧ SqL K H a (ps.map V.ref) ∧ Paired (fun p kv => SqT K H p [kV kv.1, kv.2]) ps kvs ∧ ∀ p, H p = none → Q (.ref p) (upd H p (.dK (mergeK [] kvs)))) (tCons te tNil)
theorem rvs_paired {K : PySem.W.Frag} {H : Hp} : ∀ {rs : List (Str × Int)} {xs : List V}, RVs H xs rs → ∃ ps : List Addr, xs = ps.map V.ref ∧ Paired (fun p (kv : Key × V) => SqT K H p [kV kv.1, kv.2]) ps (wkv rs)
  | [], xs, h => by
    have h1 : xs = [] := List.length_eq_zero_iff.mp h.1
    subst h1
    exact ⟨[], rfl, .nil⟩
  | r :: rs, [], h => by
    have h1 := h.1
    simp at h1
  | r :: rs, x :: xs, h => by
    obtain ⟨r', e, a, rfl, ha⟩ := h.2 0 x rfl
    have e' : r = r' := Option.some.inj e
    subst e'
    have h2 : RVs H xs rs := ⟨by have h1 := h.1; simpa using h1, fun i v hv => by simpa using h.2 (i + 1) v (by simpa using hv)⟩
    obtain ⟨ps, rfl, hp⟩ := rvs_paired h2
    exact ⟨a :: ps, rfl, .cons (st_of ha) hp⟩
theorem ev_dictR {K : PySem.W.Frag} {σ : L2.St} {H : Hp} {te : TE} {a : Addr} {xs : List V} {rs : List (Str × Int)} {P : V → Hp → Prop} (h : Ev te σ H (.ref a)) (ha : SqL K H a xs) (hR : RVs H xs rs) (nd : (rs.map (·.1)).Nodup) (p : ∀ d G, Ex H G → G d = some (.dK (wkv rs)) → P (.ref d) G) : EvP (tDict K te) σ H P := fun H1 e Q q => h H1 e _ fun H2 e2 => by
  obtain ⟨ps, rfl, hp⟩ := rvs_paired (K := K) (hR.ext (e.trans e2))
  refine ⟨a, ps, wkv rs, rfl, ex_l (e.trans e2) ha, hp, fun d hd => ?_⟩
  have e0 : mergeK [] (wkv rs) = wkv rs := merge_w rs [] nd
  rw [e0]
  exact q _ _ (e2.trans (Ex.new hd)) (p d _ ((e.trans e2).trans (Ex.new hd)) upd_same)
section
variable {P : Program} {w : World} {K : PySem.W.Frag} {mg : Str → Option Value} {base : Heap} {C : Addr}
def spDW (m : Nat) : Sp := fun vs H Q _ => ∃ d rs v z, vs = [.ref d, v] ∧ H d = some (.dK (wkv rs)) ∧ AllN rs ∧ WV H v z ∧ z.dp < m ∧ RetV (.int (wt rs z)) H Q
abbrev nDW : List Str := ["_law_weights", "_law_word", "_law_part"]
theorem sc_dw : FnScope nDW ["_law_weights", "_law_word"] (defScope s__law_d_weight) := ⟨rfl, rfl, rfl, by decide +kernel, rfl, by decide +kernel, by decide +kernel⟩
theorem wts_range (rs : List (Str × Int)) (ws : List Wd) : ((List.range ws.length).map fun i => V.int (wt rs (ws.getD i .a))) = (ws.map (wt rs)).map V.int := by
  refine List.ext_getElem? fun i => ?_
  rw [List.getElem?_map, List.getElem?_map, List.getElem?_map]
  by_cases h : i < ws.length
  · simp [h, List.getD]
  · simp [h]
theorem ok_d_weight (T : T29 P w K mg base) : ∀ m, Ok P w K mg base "_law_d_weight" ["_law_weights", "_law_word"] (m + 1) (spDW m)
  | 0 => T.ok 25 rfl sc_dw (fun vs H Q E h => by obtain ⟨d, rs, v, z, rfl, _⟩ := h; rfl) (fun kV doc pm an cdv ct us hl => match us, hl with | [_, _], _ => rfl) (fun f cdv A outer s H vs Q E hr h => by obtain ⟨d, rs, v, z, _, _, _, _, h0, _⟩ := h; exact absurd h0 (Nat.not_lt_zero _))
  | m + 1 => by
    obtain ⟨fR, dR, GR, bR, kR, mR⟩ := (ok_d_weight T m).ex
    refine T.ok 25 rfl sc_dw (fun vs H Q E h => ?_) (fun kV doc pm an cdv ct us hl => match us, hl with | [_, _], _ => rfl) (fun f cdv A outer s H vs Q E hr h => ?_)
    · obtain ⟨d, rs, v, z, rfl, _⟩ := h
      rfl
    · obtain ⟨d, rs, v, z, rfl, hd, hN, hw, hz, k⟩ := h
      obtain ⟨r, us, rfl, hr1, hu⟩ := hw.tup
      refine ⟨_, pss_cons (ps_if (pt_val (pe_isiB T.isi T.str PyProof.Rows.boot_str (pv 1))) (pss_one (ps_ret pe_int)) pss_nil)
        (pss_one (ps_ret (pe_op op_add (pe_dget (hu_of hr) (pv 0) (pe_ix ix_tup (pv 1) pe_int (fun _ _ => rfl)) (fun _ _ => rfl)) (pe_callB (cr_sum rfl) (by rfl) T.sum (by decide +kernel) (pa_cons
          (pe_lc (own := [("_law_part", 2)]) (g := gName 2) (tt := tYes) (te := tCall (spDW m) [] E0 (tCons (tVar 0) (tCons (tVar 2) tNil))) rfl sc_dw.nd (pi_tup (pe_slice sl_tup (pv 1) (po_some pe_int) po_none)) (blkOk_by (N := nDW) (sc := defScope s__law_d_weight) (by decide +kernel))
            (fun _ _ _ _ _ => pg_name (i := 2) sc_dw.nd rfl (Or.inl rfl)) (fun _ _ _ _ _ => pts_nil) (fun _ _ _ _ _ => pe_call GR hr (by rfl) mR kR bR .nil pass0 (pa_cons (pv 0) (pa_cons (pv 2) pa_nil)))) pa_nil))))), ?_⟩
      refine q_when (b := false) (et_B (ev_isi (ev_var rfl) (.base (.tup hr1)) (by decide +kernel))) (fun z => nomatch z) fun _ H1 e1 => ?_
      have hul := hu.length
      refine s_ret (v := .int (wt rs z)) (ev_is (ev_op (ev_dget (k := Sum.inr z.nm) (ev_var rfl) (ev_op (ev_var rfl) ev_c (rv_ixT (st_of (e1 _ _ hr1)) (atI_nat (j := 0) rfl))) (e1 _ _ hd) (val_w (hN _ (nm5 z))))
        (ev_sumL (ns := z.args.map (wt rs)) ?_) rv_I0) ?_) fun H2 e2 => k H2 (e1.trans e2)
      · have g := el_lcNT (K := K) (te := tCall (spDW m) [] E0 (tCons (tVar 0) (tCons (tVar 2) tNil))) (vs := [2]) (j := 2) (fun i => V.int (wt rs (z.args.getD i .a))) (eu_tail (K := K) (ev_var (i := 1) (σ := [some (.ref d), some (.ref r), none]) rfl) (st_of (e1 _ _ hr1))) (by have := args_two z; omega) (fun _ => rfl) fun i x H2 e2 hx => ?_
        · rw [given_all, hul, wts_range] at g
          exact g
        · obtain ⟨y, hy, hwy⟩ := (hu.ext (e1.trans e2)).get hx
          have hyd := dp_args (List.mem_of_getElem? hy)
          have eg : z.args.getD i .a = y := by rw [List.getD, hy]; rfl
          rw [eg]
          exact ev_call (ea_cons (ev_var rfl) (ea_cons (ev_var rfl) ea_nil)) fun H3 e3 Q q E => ⟨d, rs, x, y, rfl, ((e1.trans e2).trans e3) _ _ hd, hN, hwy.ext e3, by omega, q⟩
      · rw [wt_args]
        rfl
end
end K29

set_option Elab.async false
set_option linter.all false
set_option maxRecDepth 100000
set_option maxHeartbeats 4000000
namespace K29
open PySem PySem.Spec PyProof.Rows L2 Evl
/-- what is filtered of a range: nothing, or it has a first one -/
theorem filter_first (f : Nat → Bool) : ∀ n : Nat, (((List.range n).filter f) = [] ∧ ∀ j, j < n → f j = false) ∨ ∃ i rest, (List.range n).filter f = i :: rest ∧ i < n ∧ f i = true ∧ ∀ j, j < i → f j = false
  | 0 => .inl ⟨rfl, fun j h => absurd h (Nat.not_lt_zero _)⟩
  | n + 1 => by
    rw [List.range_succ, List.filter_append]
    rcases filter_first f n with ⟨h1, h2⟩ | ⟨i, rest, h1, h2, h3, h4⟩
    · rw [h1, List.nil_append]
      cases hf : f n with
      | true => exact .inr ⟨n, [], by simp [hf], Nat.lt_succ_self n, hf, h2⟩
      | false => exact .inl ⟨by simp [hf], fun j hj => by
          by_cases e : j = n
          · subst e; exact hf
          · exact h2 j (by omega)⟩
    · exact .inr ⟨i, rest ++ [n].filter f, by rw [h1]; rfl, by omega, h3, h4⟩
theorem topB_self (rs : List (Str × Int)) (x : Wd) (c : Bool) : topB rs x x c = c := by
  unfold topB
  rw [if_neg (fun h => h rfl), if_neg (fun h => h rfl)]
theorem abv_self (rs : List (Str × Int)) : ∀ x : Wd, abv rs x x = false
  | .a => topB_self ..
  | .b => topB_self ..
  | .f x => by simp [abv, topB_self]
  | .g x y => by simp [abv, topB_self]
  | .p x => by simp [abv, topB_self]
theorem nm_args {y z : Wd} (h : y.nm = z.nm) : y.args.length = z.args.length ∧ (y.args = z.args → y = z) := by
  cases y <;> cases z <;> first
    | exact ⟨rfl, fun q => by simpa [Wd.args] using q⟩
    | exact ⟨rfl, fun _ => rfl⟩
    | exact absurd h (by simp only [Wd.nm]; decide +kernel)
theorem lexd_at {g : Wd → Wd → Bool} {as bs : List Wd} : ∀ {i : Nat} {a b : Wd}, as[i]? = some a → bs[i]? = some b → a ≠ b → (∀ j, j < i → as[j]? = bs[j]?) → lexd g as bs = g a b := by
  intro i a b h1 h2 n hj
  have key : ∀ k, k ≤ i → lexd g as bs = lexd g (as.drop k) (bs.drop k) := by
    intro k
    induction k with
    | zero => intro _; rfl
    | succ k ih =>
      intro hk
      rw [ih (by omega)]
      have l1 := (List.getElem?_eq_some_iff.mp h1).1
      have q : as[k]? = some as[k] := by simp
      exact lexd_step q (by rw [← hj k (by omega)]; exact q)
  rw [key i (Nat.le_refl _)]
  exact lexd_ne h1 h2 n
section
variable {K : PySem.W.Frag} {σ : L2.St} {H G : Hp} {te ta tb tl tk tx : TE} {tt : TT} {v : V} {D : Ends} {tu tz : TS}
theorem q_par1 {i j : Nat} {P : V → Hp → Prop} (ha : EvP ta σ H P) (k : ∀ v H1, Ex H H1 → P v H1 → tb σ H1 fun y H2 => tz D ((σ.set i (some v)).set j (some y)) H2) : tSeq (tPar i j (tCons ta (tCons tb tNil))) tz D σ H :=
  ha H (Ex.refl H) _ fun v H1 e1 p => by
    have q := k v H1 e1 p
    have e : (fun (y : V) (H2 : Hp) => ∃ v' w, [v, y] = [v', w] ∧ tz D ((σ.set i (some v')).set j (some w)) H2) = fun y H2 => tz D ((σ.set i (some v)).set j (some y)) H2 := by
      funext y H2
      refine propext ⟨fun ⟨v', w, h, g⟩ => ?_, fun g => ⟨v, y, rfl, g⟩⟩
      injection h with h1 h2
      injection h2 with h2 _
      rw [h1, h2]
      exact g
    show tb σ H1 (fun y H2 => ∃ v' w, [v, y] = [v', w] ∧ tz D ((σ.set i (some v')).set j (some w)) H2)
    rw [e]
    exact q
theorem q_asgP {i : Nat} {P : V → Hp → Prop} (h : EvP te σ H P) (k : ∀ v H1, Ex H H1 → P v H1 → tz D (σ.set i (some v)) H1) : tSeq (tAsg te (gName i)) tz D σ H := h H (Ex.refl H) _ fun v H1 e p => k v H1 e p
theorem q_asgLP {i : Nat} {P : List V → Hp → Prop} (h : EvLP te σ H P) (k : ∀ p xs H1, H p = none → Ex H H1 → H1 p = some (.lst xs) → P xs H1 → tz D (σ.set i (some (.ref p))) H1) : tSeq (tAsg te (gName i)) tz D σ H := h H (Ex.refl H) _ fun p xs H1 hp e h1 q => k p xs H1 hp e h1 q
/-- the names of a list, one of them asked for its place -/
theorem dp_strs (K : PySem.W.Frag) (H : Hp) : ∀ xs : List Str, DpAll K H (xs.map V.str) (xs.map PyData.str)
  | [] => .nil
  | x :: xs => .cons (.str x) (dp_strs K H xs)
end
theorem rk_at {x : Str} : ∀ {rs : List (Str × Int)}, x ∈ rs.map (·.1) → (rs.map (·.1))[rk rs x]? = some x ∧ ∀ j, j < rk rs x → (rs.map (·.1))[j]? ≠ some x
  | [], h => by simp at h
  | r :: rs, h => by
    simp only [rk]
    by_cases e : r.1 = x
    · rw [if_pos e]
      exact ⟨by simp [e], fun j hj => absurd hj (Nat.not_lt_zero _)⟩
    · rw [if_neg e]
      have h1 : x ∈ rs.map (·.1) := by
        rcases List.mem_cons.mp h with q | q
        · exact absurd q.symm e
        · exact q
      obtain ⟨a, b⟩ := rk_at h1
      refine ⟨by simpa using a, fun j hj => ?_⟩
      cases j with
      | zero => simpa using e
      | succ j => simpa using b j (by omega)
theorem shaped_names {xs : List Str} (h : ∀ x ∈ xs, x ∈ N5) : SeqAt.shaped (.list (xs.map PyData.str)) = true := by
  have so : ∀ x ∈ N5, PyData.strOk x = true := by
    intro x hx
    have h2 : x = "a" ∨ x = "b" ∨ x = "f" ∨ x = "g" ∨ x = "p" := by simpa [N5] using hx
    rcases h2 with rfl | rfl | rfl | rfl | rfl
    · exact so_a
    · exact so_b
    · exact so_f
    · exact so_g
    · exact so_p
  show (PyData.canLay0 (.list (xs.map PyData.str)) && decide (PyData.depth (.list (xs.map PyData.str)) ≤ 64)) = true
  have h1 : PyData.canLayAll0 (xs.map PyData.str) = true := by
    induction xs with
    | nil => simp [PyData.canLayAll0]
    | cons x xs ih => simp [PyData.canLayAll0, PyData.canLay0, so x (h x (by simp)), ih fun y hy => h y (by simp [hy])]
  have h2 : PyData.depthAll (xs.map PyData.str) ≤ 1 := by
    clear h h1
    induction xs with
    | nil => simp [PyData.depthAll]
    | cons x xs ih => simp only [List.map_cons, PyData.depthAll, PyData.depth]; omega
  rw [Bool.and_eq_true]
  refine ⟨by simp only [PyData.canLay0]; exact h1, decide_eq_true ?_⟩
  simp only [PyData.depth]
  omega
theorem shaped_name {x : Str} (h : x ∈ N5) : SeqAt.shaped (.str x) = true := by
  have h2 : x = "a" ∨ x = "b" ∨ x = "f" ∨ x = "g" ∨ x = "p" := by simpa [N5] using h
  rcases h2 with rfl | rfl | rfl | rfl | rfl <;> decide +kernel
section
variable {K : PySem.W.Frag} {σ : L2.St} {H G : Hp} {te ta tb tl tk tx : TE} {tt : TT} {v : V} {D : Ends} {tu tz : TS}
/-- names.index(x) -/
theorem ev_index {l : Addr} {rs : List (Str × Int)} {x : Str} (h5 : ∀ r ∈ rs, r.1 ∈ N5) (ha : Ev ta σ H (.ref l)) (hb : Ev tb σ H (.str x)) (hl : SqL K H l ((rs.map (·.1)).map V.str)) (hx : x ∈ rs.map (·.1)) : Ev (tBM K "list" (rIndexD K) ta (tCons tb tNil)) σ H (.int (rk rs x : Nat)) := fun H1 e Q q =>
  ha H1 e _ fun H2 e2 => ⟨.inl ⟨rfl, _, ex_l (e.trans e2) hl⟩, hb H2 (e.trans e2) _ fun H3 e3 => by
    obtain ⟨r1, r2⟩ := rk_at hx
    refine ⟨l, .str x, .str x, _, rk rs x, .str x, rfl, rfl, .lst (ex_l ((e.trans e2).trans e3) hl) (dp_strs K H3 _), .str x, shaped_names fun y hy => ?_, shaped_name ?_, ?_, by simp [PyData.eqv], fun m z' hm hz => ?_, q H3 (e2.trans e3)⟩
    · obtain ⟨r, hr, rfl⟩ := List.mem_map.mp hy
      exact h5 r hr
    · obtain ⟨r, hr, rfl⟩ := List.mem_map.mp hx
      exact h5 r hr
    · rw [List.getElem?_map, r1] <;> rfl
    · rw [List.getElem?_map] at hz
      obtain ⟨y, hy, rfl⟩ := Option.map_eq_some_iff.mp hz
      have h1 := r2 m hm
      rw [hy] at h1
      simp only [PyData.eqv]
      exact beq_eq_false_iff_ne.mpr fun e => h1 (by rw [e])⟩
end
section
variable {P : Program} {w : World} {K : PySem.W.Frag} {mg : Str → Option Value} {base : Heap} {C : Addr}
theorem u65 {k : Nat} {A : Around} (r : Room k A) : A.units + 65 < cLine := by
  have := r.un
  omega
/-- no part of a word is a name -/
theorem el_noStr {σ : L2.St} {H : Hp} {i : Nat} {v : V} {z : Wd} (hs : σ[i]? = some (some v)) (hw : WV H v z) (hd : z.dp < 9) (hz : z.sz ≤ 1000) (w1 : ∀ x y, wipe (((wipe σ [12, 13]).set 12 (some x)).set 13 (some y)) [12, 13] = wipe σ [12, 13]) (w2 : ∀ x y, (((wipe σ [12, 13]).set 12 (some x)).set 13 (some y))[13]? = some (some y)) :
    EvL (tLc (iList K (tCall (spDP 9) [] E0 (tCons (tVar i) tNil))) (gPair K 12 13) (tB (tIsi K "str" (tVar 13))) (tVar 13) [12, 13]) σ H [] := fun H1 e Q q => by
  refine ⟨v, hs, v, z, rfl, hw.ext e, hd, by decide, hz, fun pq ps H2 hpq e2 h2 hparts hlen => ⟨pq, rfl, ⟨ps, sq_of h2⟩, fun Dl hD => lc_it walk_list (fun i G => Ex H2 G ∧ G Dl = some (.lst [])) ⟨Ex.new hD, upd_same⟩ (fun i G _ c => sq_of (c.1 _ _ h2)) ?_ fun G c => q Dl G (fresh_back e2 hD) (e2.trans c.1) c.2⟩⟩
  rintro j x G G' hj ⟨c1, c2⟩ ⟨rfl, hx⟩
  obtain ⟨t5, l5, lx5, u5, y5, rfl, k1, k2, k3, k4, k5⟩ := hparts x (List.mem_of_getElem? hx)
  obtain ⟨r5, us5, rfl, hr5, _⟩ := (k5.ext c1).tup
  refine ⟨t5, _, rfl, st_of (c1 _ _ k1), rfl, _, _, rfl, _, _, rfl, rfl, w1 _ _, ?_⟩
  refine (et_B (b := false) (ev_isi (ev_var (w2 _ _)) (.base (.tup hr5)) (by decide +kernel))) _ (Ex.refl _) _ fun H3 e3 => ?_
  exact ⟨c1.trans e3, e3 _ _ c2⟩
/-- a pair of parts that are unlike -/
def UnP (y z : Wd) (i : Nat) (v : V) (G : Hp) : Prop := ∃ t n1 n2 w1 w2, v = .ref t ∧ G t = some (.tup [n1, n2]) ∧ y.args[i]? = some w1 ∧ z.args[i]? = some w2 ∧ WV G n1 w1 ∧ WV G n2 w2
def unF (y z : Wd) (i : Nat) : Bool := !decide (y.args[i]? = z.args[i]?)
theorem elp_unlike {σ : L2.St} {H : Hp} {r1 r2 : Addr} {us1 us2 : List V} {y z : Wd} (s1 : σ[1]? = some (some (.ref r1))) (s2 : σ[2]? = some (some (.ref r2))) (hr1 : H r1 = some (.tup (.str y.nm :: us1))) (hr2 : H r2 = some (.tup (.str z.nm :: us2))) (hu1 : WVs H us1 y.args) (hu2 : WVs H us2 z.args) (dy : y.dp < 9) (dz : z.dp < 9)
    (w1 : ∀ x y, wipe (((wipe σ [15, 16]).set 15 (some x)).set 16 (some y)) [15, 16] = wipe σ [15, 16]) (w2 : ∀ x y, (((wipe σ [15, 16]).set 15 (some x)).set 16 (some y))[15]? = some (some x)) (w3 : ∀ x y, (((wipe σ [15, 16]).set 15 (some x)).set 16 (some y))[16]? = some (some y)) :
    EvLP (tLc (RZ.iZipA K (tCons (tSl (rSlT K) (tVar 1) (tPart (tC (.int 1))) tNoPart) (tCons (tSl (rSlT K) (tVar 2) (tPart (tC (.int 1))) tNoPart) tNil))) (gPair K 15 16) (tTest (tOp (rNeD K) (tVar 15) (tVar 16))) (tTup (tCons (tVar 15) (tCons (tVar 16) tNil))) [15, 16]) σ H
      (fun xs G => A2 (fun i v => UnP y z i v G) ((List.range (min us1.length us2.length)).filter (unF y z)) xs) := fun H1 e Q q =>
  (eu_tail (K := K) (ev_var s1) (st_of hr1)) H1 e _ fun p1 G1 hp1 g1 h1 => (eu_tail (K := K) (ev_var s2) (st_of hr2)) G1 (e.trans g1) _ fun p2 G2 hp2 g2 h2 => ⟨p1, p2, us1, us2, rfl, .inr ⟨st_of (g2 _ _ h1), st_of h2, fun Dl hD =>
    lc_it (walk_zipT (K := K) (a := p1) (b := p2) (xs := us1) (ys := us2) rfl) (Cwp G2 (unF y z) (UnP y z) Dl) (cwp0 hD) (fun i G _ c => ⟨st_of (c.2.1 _ _ (g2 _ _ h1)), st_of (c.2.1 _ _ h2)⟩) (fun i x G G' hi c ⟨t, x1, x2, hx, ht, hG', hx1, hx2⟩ => by
      subst hx hG'
      have eT : Ex G (upd G t (.tup [x1, x2])) := Ex.new ht
      have eA : Ex H (upd G t (.tup [x1, x2])) := (((e.trans g1).trans g2).trans c.2.1).trans eT
      obtain ⟨v1, hv1, k1⟩ := (hu1.ext eA).get hx1
      obtain ⟨v2, hv2, k2⟩ := (hu2.ext eA).get hx2
      have d1 := dp_args (List.mem_of_getElem? hv1)
      have d2 := dp_args (List.mem_of_getElem? hv2)
      refine ⟨t, _, rfl, st_of upd_same, rfl, _, _, rfl, _, _, rfl, rfl, w1 _ _, cwp_turn (fun i v => ?_) c eT (by have := hu1.length; have := args_two y; omega) ?_ fun _ G3 g3 => ?_⟩
      · intro J1 J2 xs1 a0 a1 a2 a3 hp
        obtain ⟨t', n1, n2, z1, z2, rfl, m1, m2, m3, m4, m5⟩ := hp
        have tx : Tx J1 J2 := fun a ys q => a3 a _ (ne_of q a0 (by intro z; cases z)) q
        exact ⟨t', n1, n2, z1, z2, rfl, tx _ _ m1, m2, m3, m4.tx tx, m5.tx tx⟩
      · refine et_is (et_test (ev_op (ev_var (w2 _ _)) (ev_var (w3 _ _)) (rv_neW k1 k2 (by omega) (by omega)))) ?_
        unfold unF
        rw [hv1, hv2]
        simp
      · refine EvP.tup (eu_tup (ea_cons (ev_var (w2 _ _)) (ea_cons (ev_var (w3 _ _)) ea_nil)) (by show 2 ≤ 100000; decide)) fun a J g ha => ⟨a, x1, x2, v1, v2, rfl, ha, hv1, hv2, k1.ext (g3.trans g), k2.ext (g3.trans g)⟩) fun G c => by
      obtain ⟨acc, hacc, _, ha2⟩ := c.2.2
      exact q Dl acc G (fresh_back (g1.trans g2) c.1) ((g1.trans g2).trans c.2.1) hacc ha2⟩⟩
def spDA (m : Nat) : Sp := fun vs H Q _ => ∃ a xs rs v u y z, vs = [.ref a, v, u] ∧ H a = some (.lst xs) ∧ RVs H xs rs ∧ RowsOk rs ∧ AllN rs ∧ WV H v y ∧ WV H u z ∧ y.dp < m ∧ y.dp < 9 ∧ z.dp < 9 ∧ y.sz ≤ 1000 ∧ z.sz ≤ 1000 ∧ RetV (.bl (abv rs y z)) H Q
abbrev nDA : List Str := ["_law_rows", "_law_one", "_law_other", "_law_weights", "_law_names", "_law_many", "_law_few", "_law_heavy", "_law_light", "_law_unlike", "_law_name", "_law_weight", "_law_place", "_law_part", "_law_variable", "_law_near", "_law_far"]
theorem sc_da : FnScope nDA ["_law_rows", "_law_one", "_law_other"] (defScope s__law_d_above) := ⟨rfl, rfl, rfl, by decide +kernel, rfl, by decide +kernel, by decide +kernel⟩
abbrev xStr (K : PySem.W.Frag) : TE := tIsi K "str" (tVar 13)
theorem ok_d_above (T : T29 P w K mg base) : ∀ m, Ok P w K mg base "_law_d_above" ["_law_rows", "_law_one", "_law_other"] (m + 12) (spDA m)
  | 0 => (T.ok 26 rfl sc_da (k := 11) (fun vs H Q E h => by obtain ⟨a, xs, rs, v, u, y, z, rfl, _⟩ := h; rfl) (fun kV doc pm an cdv ct us hl => match us, hl with | [_, _, _], _ => rfl) (fun f cdv A outer s H vs Q E hr h => by obtain ⟨a, xs, rs, v, u, y, z, _, _, _, _, _, _, _, h0, _⟩ := h; exact absurd h0 (Nat.not_lt_zero _)))
  | m + 1 => by
    obtain ⟨fR, dR, GR, bR, kR, mR⟩ := (ok_d_above T m).ex
    obtain ⟨fP, dP, GP, bP, kP, mP⟩ := (ok_d_parts T 9).ex
    obtain ⟨fW, dW, GW, bW, kW, mW⟩ := (ok_d_weight T 9).ex
    refine T.ok 26 rfl sc_da (fun vs H Q E h => ?_) (fun kV doc pm an cdv ct us hl => match us, hl with | [_, _, _], _ => rfl) (fun f cdv A outer s H vs Q E hr h => ?_)
    · obtain ⟨a, xs, rs, v, u, y, z, rfl, _⟩ := h
      rfl
    · obtain ⟨a, xs, rs, v, u, y, z, rfl, ha, hR, R, hN, hy, hz, hm, hy9, hz9, sy, sz, k⟩ := h
      obtain ⟨r1, us1, rfl, hr1, hu1⟩ := hy.tup
      obtain ⟨r2, us2, rfl, hr2, hu2⟩ := hz.tup
      have hr10 : Room 10 _ := hr.mono (by omega)
      refine ⟨_, pss_cons (ps_if (PW.pt (pw_or (pt_cmpR (op_eqD hr.units) (pv 1) (pv 2) (nomark _)) (pw_or1 (pt_val (pe_isiB T.isi T.str PyProof.Rows.boot_str (pv 1)))))) (pss_one (ps_ret pe_bl)) pss_nil)
        (pss_cons (ps_par (i := 3) (j := 4) rfl sc_da.nd rfl rfl (by decide) rfl rfl (pa_cons (pe_callTy (call_dictP rfl) (by rfl) T.dict (by decide +kernel) (pa_cons (pv 0) pa_nil)) (pa_cons
            (pe_lc (own := [("_law_name", 10), ("_law_weight", 11)]) (g := gPair K 10 11) (tt := tYes) (te := tVar 10) rfl sc_da.nd (pi_list (pv 0)) (blkOk_by (N := nDA) (sc := defScope s__law_d_above) (by decide +kernel))
              (fun _ _ _ _ _ => pg_tup rfl (pgs_cons (pg_name (i := 10) sc_da.nd rfl (Or.inl rfl)) (pgs_cons (pg_name (i := 11) sc_da.nd rfl (Or.inl rfl)) pgs_nil))) (fun _ _ _ _ _ => pts_nil) (fun _ _ _ _ _ => pv 10)) pa_nil)) (by rfl))
        (pss_cons (ps_set (i := 5) sc_da.nd rfl (Or.inr rfl) (pe_lc (own := [("_law_place", 12), ("_law_part", 13)]) (g := gPair K 12 13) (tt := tB (xStr K)) (te := tVar 13) rfl sc_da.nd (pi_list (pe_call GP hr10 (by rfl) mP kP bP .nil pass0 (pa_cons (pv 1) pa_nil))) (blkOk_by (N := nDA) (sc := defScope s__law_d_above) (by decide +kernel))
              (fun _ _ _ _ _ => pg_tup rfl (pgs_cons (pg_name (i := 12) sc_da.nd rfl (Or.inl rfl)) (pgs_cons (pg_name (i := 13) sc_da.nd rfl (Or.inl rfl)) pgs_nil))) (fun _ _ _ _ _ => pts_one (pt_val (pe_isiB T.isi T.str PyProof.Rows.boot_str (pv 13)))) (fun _ _ _ _ _ => pv 13)))
        (pss_cons (ps_set (i := 6) sc_da.nd rfl (Or.inr rfl) (pe_lc (own := [("_law_place", 12), ("_law_part", 13)]) (g := gPair K 12 13) (tt := tB (xStr K)) (te := tVar 13) rfl sc_da.nd (pi_list (pe_call GP hr10 (by rfl) mP kP bP .nil pass0 (pa_cons (pv 2) pa_nil))) (blkOk_by (N := nDA) (sc := defScope s__law_d_above) (by decide +kernel))
              (fun _ _ _ _ _ => pg_tup rfl (pgs_cons (pg_name (i := 12) sc_da.nd rfl (Or.inl rfl)) (pgs_cons (pg_name (i := 13) sc_da.nd rfl (Or.inl rfl)) pgs_nil))) (fun _ _ _ _ _ => pts_one (pt_val (pe_isiB T.isi T.str PyProof.Rows.boot_str (pv 13)))) (fun _ _ _ _ _ => pv 13)))
        (pss_cons (ps_if (pt_val (pe_callB (cr_any rfl) (by rfl) T.any (by decide +kernel) (pa_cons (pe_lc (own := [("_law_variable", 14)]) (g := gName 14) (tt := tYes) (te := tOp (rI0 fun i j => .bl (decide (i < j))) (tBM K "list" (rCntI K) (tVar 5) (tCons (tVar 14) tNil)) (tBM K "list" (rCntI K) (tVar 6) (tCons (tVar 14) tNil))) rfl sc_da.nd (pi_list (pv 6)) (blkOk_by (N := nDA) (sc := defScope s__law_d_above) (by decide +kernel))
              (fun _ _ _ _ _ => pg_name (i := 14) sc_da.nd rfl (Or.inl rfl)) (fun _ _ _ _ _ => pts_nil) (fun _ _ _ _ _ => pe_cmpR op_lt (pe_bm PySem.F.plainAttrs_list PySem.F.slot_list_count PySem.F.type_list_count mt_lcount (pv 5) (pa_cons (pv 14) pa_nil)) (pe_bm PySem.F.plainAttrs_list PySem.F.slot_list_count PySem.F.type_list_count mt_lcount (pv 6) (pa_cons (pv 14) pa_nil)) (nomark _))) pa_nil))) (pss_one ps_never) pss_nil)
        (pss_cons (ps_par (i := 7) (j := 8) rfl sc_da.nd rfl rfl (by decide) rfl rfl (pa_cons (pe_call GW hr10 (by rfl) mW kW bW .nil pass0 (pa_cons (pv 3) (pa_cons (pv 1) pa_nil))) (pa_cons (pe_call GW hr10 (by rfl) mW kW bW .nil pass0 (pa_cons (pv 3) (pa_cons (pv 2) pa_nil))) pa_nil)) (by rfl))
        (pss_cons (ps_if (PW.pt (pw_or (pt_cmpR op_ne (pv 7) (pv 8) (nomark _)) (pw_or1 (pt_val (pe_isiB T.isi T.str PyProof.Rows.boot_str (pv 2)))))) (pss_one (ps_ret (pe_cmpR op_gt (pv 7) (pv 8) (nomark _)))) pss_nil)
        (pss_cons (ps_if (pt_cmpR op_ne (pe_ix ix_tup (pv 1) pe_int (fun _ _ => rfl)) (pe_ix ix_tup (pv 2) pe_int (fun _ _ => rfl)) (nomark _)) (pss_one (ps_ret (pe_cmpR op_gt (pe_bm PySem.F.plainAttrs_list PySem.F.slot_list_index PySem.F.type_list_index (mt_indexD (u65 hr)) (pv 4) (pa_cons (pe_ix ix_tup (pv 1) pe_int (fun _ _ => rfl)) pa_nil)) (pe_bm PySem.F.plainAttrs_list PySem.F.slot_list_index PySem.F.type_list_index (mt_indexD (u65 hr)) (pv 4) (pa_cons (pe_ix ix_tup (pv 2) pe_int (fun _ _ => rfl)) pa_nil)) (nomark _)))) pss_nil)
        (pss_cons (ps_setLc (i := 9) (own := [("_law_near", 15), ("_law_far", 16)]) (g := gPair K 15 16) (tt := tTest (tOp (rNeD K) (tVar 15) (tVar 16))) (te := tTup (tCons (tVar 15) (tCons (tVar 16) tNil))) (by rfl) sc_da.nd rfl rfl (sw_true rfl rfl rfl (by decide +kernel)) (RZ.pi_zipA (by rfl) T.zip (pa_cons (pe_slice sl_tup (pv 1) (po_some pe_int) po_none) (pa_cons (pe_slice sl_tup (pv 2) (po_some pe_int) po_none) pa_nil))) (blkOk_by (N := nDA) (sc := defScope s__law_d_above) (by decide +kernel))
              (fun _ _ _ _ _ => pg_tup rfl (pgs_cons (pg_name (i := 15) sc_da.nd rfl (Or.inl rfl)) (pgs_cons (pg_name (i := 16) sc_da.nd rfl (Or.inl rfl)) pgs_nil))) (fun _ _ _ _ _ => pts_one (pt_cmpR (op_neD hr.units) (pv 15) (pv 16) (nomark _))) (fun _ _ _ _ _ => pe_tup (pa_cons (pv 15) (pa_cons (pv 16) pa_nil))))
        (pss_one (ps_ret (pe_call GR hr (by rfl) mR kR bR .nil pass0 (pa_cons (pv 0) (pa_cons (pe_ix ix_tup (pe_ix ix_list (pv 9) pe_int (fun _ _ => rfl)) pe_int (fun _ _ => rfl)) (pa_cons (pe_ix ix_tup (pe_ix ix_list (pv 9) pe_int (fun _ _ => rfl)) pe_int (fun _ _ => rfl)) pa_nil)))))))))))))), ?_⟩
      refine q_when (b := decide (y = z)) (et_is (et_or (b := false) (et_test (ev_op (ev_var rfl) (ev_var rfl) (rv_eqW hy hz (by omega) (by omega)))) fun _ => et_B (ev_isi (ev_var rfl) (.base (.tup hr1)) (by decide +kernel))) (Bool.or_false _)) (fun hb H1 e1 => ?_) fun hb H1 e1 => ?_
      · have e := of_decide_eq_true hb
        subst e
        rw [abv_self] at k
        exact s_ret ev_c fun H2 e2 => k H2 (e1.trans e2)
      have hne := of_decide_eq_false hb
      -- the weights, the names
      refine q_par1 (ev_dictR (P := fun v G => ∃ d, v = .ref d ∧ G d = some (.dK (wkv rs))) (ev_var rfl) (sq_of (e1 _ _ ha)) (hR.ext e1) R.nd (fun d G _ h => ⟨d, rfl, h⟩)) fun vd H2 e2 ⟨d, hvd, hd⟩ => ?_
      subst hvd
      have e02 := e1.trans e2
      have ha2 := e02 _ _ ha
      have R2 := hR.ext e02
      refine ⟨_, rfl, a, rfl, ⟨xs, sq_of ha2⟩, fun nl hnl => lc_it walk_list (fun i G => Ex H2 G ∧ G nl = some (.lst (((rs.map (·.1)).map V.str).take i))) ⟨Ex.new hnl, upd_same⟩ (fun i G _ c => sq_of (c.1 _ _ ha2)) ?_ ?_⟩
      · rintro i x G G' hi ⟨q1, q2⟩ ⟨rfl, hx⟩
        obtain ⟨r, hrr, c, rfl, hc⟩ := (R2.ext q1).2 i x hx
        refine ⟨c, _, rfl, st_of hc, rfl, _, _, rfl, _, _, rfl, rfl, rfl, ?_⟩
        unfold tYes
        dsimp only
        rw [if_pos rfl]
        refine ⟨_, rfl, _, q2, sz_lt (by have := R.len; simp only [List.length_take, List.length_map]; omega), Ex.mut q1 hnl, ?_⟩
        rw [upd_same, List.take_succ, List.getElem?_map, List.getElem?_map, hrr] <;> rfl
      rintro H3 ⟨e3, hn3⟩
      have hlx : xs.length = ((rs.map (·.1)).map V.str).length := by rw [hR.1]; simp
      rw [hlx, List.take_length] at hn3
      have e03 := e02.trans e3
      refine q_asgL (el_noStr rfl (hy.ext e03) hy9 sy (fun _ _ => rfl) fun _ _ => rfl) fun l5 H4 hl5 e4 h4 => ?_
      have e04 := e03.trans e4
      refine q_asgL (el_noStr rfl (hz.ext e04) hz9 sz (fun _ _ => rfl) fun _ _ => rfl) fun l6 H5 hl6 e5 h5 => ?_
      have e05 := e04.trans e5
      refine q_when (b := false) (et_B (ev_anyL (bs := []) ?_)) (fun z => nomatch z) fun _ H6 e6 => ?_
      · intro G1 g1 Q1 q1
        exact ⟨_, rfl, l6, rfl, ⟨[], sq_of (g1 _ _ h5)⟩, fun Dl hD => lc_it (walk_list (xs := [])) (fun i G => Ex G1 G ∧ G Dl = some (.lst [])) ⟨Ex.new hD, upd_same⟩ (fun i G _ c => sq_of (c.1 _ _ (g1 _ _ h5))) (fun i x G G' hi => absurd hi (Nat.not_lt_zero _)) fun G c => q1 Dl G hD c.1 c.2⟩
      have e06 := e05.trans e6
      have e26 : Ex H2 H6 := ((e3.trans e4).trans e5).trans e6
      have hwe : ∀ {v : V} {x : Wd} {σ : L2.St} {G : Hp} {i : Nat}, Ex H6 G → WV H v x → x.dp < 9 → σ[3]? = some (some (.ref d)) → σ[i]? = some (some v) → Ev (tCall (spDW 9) [] E0 (tCons (tVar 3) (tCons (tVar i) tNil))) σ G (.int (wt rs x)) := fun e hw hd9 p1 p2 => ev_call (ea_cons (ev_var p1) (ea_cons (ev_var p2) ea_nil)) fun G1 g1 Q1 q1 E1 => ⟨d, rs, _, _, rfl, g1 _ _ (e _ _ (e26 _ _ hd)), hN, hw.ext ((e06.trans e).trans g1), hd9, q1⟩
      refine q_par (hwe (Ex.refl _) hy hy9 rfl rfl) (hwe (Ex.refl _) hz hz9 rfl rfl) fun H7 e7 => ?_
      have e07 := e06.trans e7
      have k' := k
      rw [abv_eq] at k'
      unfold topB at k'
      by_cases hwt : wt rs y = wt rs z
      · rw [if_neg (fun q => q hwt)] at k'
        refine q_when (b := false) (et_or (a := false) (et_is (et_test (ev_op (ev_var rfl) (ev_var rfl) (rv_ne rfl))) (by rw [hwt]; simp)) fun _ => et_B (ev_isi (ev_var rfl) (.base (.tup (e07 _ _ hr2))) (by decide +kernel))) (fun z => nomatch z) fun _ H8 e8 => ?_
        have e08 := e07.trans e8
        have ix : ∀ {σ : L2.St} {G : Hp} {i : Nat} {r : Addr} {us : List V} {x : Wd}, Ex H G → H r = some (.tup (.str x.nm :: us)) → σ[i]? = some (some (.ref r)) → Ev (tOp (rIxT K) (tVar i) (tC (.int 0))) σ G (.str x.nm) := fun e h a => ev_op (ev_var a) ev_c (rv_ixT (st_of (e _ _ h)) (atI_nat (j := 0) rfl))
        by_cases hnm : y.nm = z.nm
        · rw [if_neg (fun q => q hnm)] at k'
          refine q_when (b := false) (et_is (et_test (ev_op (ix e08 hr1 rfl) (ix e08 hr2 rfl) (rv_ne rfl))) (by rw [hnm]; simp)) (fun z => nomatch z) fun _ H9 e9 => ?_
          have e09 := e08.trans e9
          have hl1 := hu1.length
          have hl2 := hu2.length
          obtain ⟨hla, hinj⟩ := nm_args hnm
          refine q_asgLP (elp_unlike rfl rfl (e09 _ _ hr1) (e09 _ _ hr2) (hu1.ext e09) (hu2.ext e09) hy9 hz9 (fun _ _ => rfl) (fun _ _ => rfl) fun _ _ => rfl) fun lu xu H10 hlu e10 h10 hA => ?_
          have e010 := e09.trans e10
          rcases filter_first (unF y z) (min us1.length us2.length) with ⟨_, hno⟩ | ⟨i0, rest, hf, hi0, hfi, hbe⟩
          · refine absurd (hinj (List.ext_getElem? fun j => ?_)) hne
            by_cases hj : j < min us1.length us2.length
            · have := hno j hj
              unfold unF at this
              simpa using this
            · rw [List.getElem?_eq_none (by omega), List.getElem?_eq_none (by omega)]
          · rw [hf] at hA
            match xu, hA with
            | x0 :: xr, hA =>
              obtain ⟨t0, n1, n2, w1, w2, rfl, m1, m2, m3, m4, m5⟩ := hA.1
              have hw12 : w1 ≠ w2 := by
                intro q
                unfold unF at hfi
                rw [m2, m3, q] at hfi
                simp at hfi
              have d1 := dp_args (List.mem_of_getElem? m2)
              have d2 := dp_args (List.mem_of_getElem? m3)
              have s1 := sz_mem (List.mem_of_getElem? m2)
              have s2 := sz_mem (List.mem_of_getElem? m3)
              have s3 := wsz_args y
              have s4 := wsz_args z
              rw [lexd_at m2 m3 hw12 (fun j hj => by have := hbe j hj; unfold unF at this; simpa using this)] at k'
              have ix0 : ∀ {G : Hp}, Ex H10 G → Ev (tOp (rIxL K) (tVar 9) (tC (.int 0))) [some (.ref a), some (.ref r1), some (.ref r2), some (.ref d), some (.ref nl), some (.ref l5), some (.ref l6), some (.int (wt rs y)), some (.int (wt rs z)), some (.ref lu), none, none, none, none, none, none, none] G (.ref t0) := fun g => ev_op (ev_var rfl) ev_c (rv_ixL (sq_of (g _ _ h10)) (atI_nat (j := 0) rfl))
              refine s_ret (ev_call (ea_cons (ev_var rfl) (ea_cons (ev_op (ix0 (Ex.refl _)) ev_c (rv_ixT (st_of m1) (atI_nat (j := 0) rfl))) (ea_cons (ev_op (ix0 (Ex.refl _)) ev_c (rv_ixT (st_of m1) (atI_nat (j := 1) rfl))) ea_nil))) fun G g Q1 q1 E1 => ⟨a, xs, rs, n1, n2, w1, w2, rfl, (e010.trans g) _ _ ha, hR.ext (e010.trans g), R, hN, m4.ext g, m5.ext g, by omega, by omega, by omega, by omega, by omega, q1⟩) fun G g => k' G (e010.trans g)
        · rw [if_pos hnm] at k'
          refine q_when (b := true) (et_is (et_test (ev_op (ix e08 hr1 rfl) (ix e08 hr2 rfl) (rv_ne rfl))) (by rw [decide_eq_false (fun q => hnm (V.str.inj q))]; rfl)) (fun _ H9 e9 => ?_) (fun z => nomatch z)
          have e09 := e08.trans e9
          have n9 : H9 nl = some (.lst ((rs.map (·.1)).map V.str)) := (((((e4.trans e5).trans e6).trans e7).trans e8).trans e9) _ _ hn3
          refine s_ret (ev_is (ev_op (ev_index R.n5 (ev_var rfl) (ix e09 hr1 rfl) (sq_of n9) (hN _ (nm5 y))) (ev_index R.n5 (ev_var rfl) (ix e09 hr2 rfl) (sq_of n9) (hN _ (nm5 z))) rv_I0) ?_) fun G g => k' G (e09.trans g)
          congr 1
          exact decide_eq_decide.mpr (by omega)
      · rw [if_pos hwt] at k'
        refine q_when (b := true) (et_or (a := true) (b := true) (et_is (et_test (ev_op (ev_var rfl) (ev_var rfl) (rv_ne rfl))) (by rw [decide_eq_false (fun q => hwt (V.int.inj q))]; rfl)) (fun z => nomatch z)) (fun _ H8 e8 => ?_) (fun z => nomatch z)
        exact s_ret (ev_op (ev_var rfl) (ev_var rfl) rv_I0) fun H9 e9 => k' H9 ((e07.trans e8).trans e9)
end
end K29

set_option Elab.async false
set_option linter.all false
set_option maxRecDepth 100000
set_option maxHeartbeats 4000000
/-! The law's spring of draws. -/
namespace K29
open PySem PySem.Spec PyProof.Rows
open L2 Evl
/-- the spring at p: the cells left at q, what is left of a great one, how many were drawn, what all of them mix -/
structure Stm (H : Hp) (p q : Addr) (L : List Int) (a n t : Int) : Prop where
  hp : H p = some (.lst [.ref q, .int a, .int n, .int t])
  hq : H q = some (.lst (L.map V.int))
  ne : p ≠ q
  a0 : 0 ≤ a
  n0 : 0 ≤ n
  t0 : 0 ≤ t
  t1 : t < 2147483647
/-- all but two objects stay -/
def But (p q : Addr) (H G : Hp) : Prop := ∀ b o, b ≠ p → b ≠ q → H b = some o → G b = some o
def spDraw : Sp := fun vs H Q _ => ∃ (p q : Addr) (L : List Int) (a n t m : Int), vs = [.ref p, .int m] ∧ Stm H p q L a n t ∧ n < 100000 ∧ 1 ≤ m ∧ m ≤ 1000 ∧
  ∀ (r : Int) (G : Hp) (L' : List Int) (a' t' : Int), 0 ≤ r → r < m → Stm G p q L' a' (n + 1) t' → But p q H G → Q (.int r) G
theorem scD : FnScope ["_law_stream", "_law_many", "_law_cell", "_law_digit", "_law_mixed_here"] ["_law_stream", "_law_many"] (defScope s__law_draw) := ⟨rfl, rfl, rfl, by decide +kernel, rfl, by decide +kernel, by decide +kernel⟩
theorem dp_ints {K : PySem.W.Frag} {H : Hp} : ∀ L : List Int, DpAll K H (L.map V.int) (L.map PyData.int)
  | [] => .nil
  | i :: r => .cons (.int i) (dp_ints r)
theorem lay_ints : ∀ L : List Int, PyData.canLayAll0 (L.map PyData.int) = true
  | [] => rfl
  | _ :: r => by
    show (PyData.canLay0 (.int _) && PyData.canLayAll0 (r.map PyData.int)) = true
    rw [lay_ints r]
    rfl
theorem depth_ints : ∀ L : List Int, PyData.depthAll (L.map PyData.int) ≤ 1
  | [] => Nat.zero_le _
  | _ :: r => by
    show max (PyData.depth (.int _)) (PyData.depthAll (r.map PyData.int)) ≤ 1
    exact Nat.max_le.mpr ⟨Nat.zero_le _, depth_ints r⟩
theorem shaped_ints (L : List Int) : SeqAt.shaped (.list (L.map PyData.int)) = true := by
  unfold SeqAt.shaped
  rw [Bool.and_eq_true]
  refine ⟨lay_ints L, decide_eq_true ?_⟩
  have h := depth_ints L
  show PyData.depthAll (L.map PyData.int) + 1 ≤ 64
  omega
/-! ### reading and storing at places of a list -/
theorem ixr {K : PySem.W.Frag} {σ : L2.St} {H : Hp} {Q : VK} {i j : Nat} {z : Int} {p : Addr} {xs : List V} {v : V} (hs : σ[i]? = some (some (.ref p))) (hp : H p = some (.lst xs)) (hz : z = (j : Int)) (hj : xs[j]? = some v) (h : Q v H) :
    tOp (rIxL K) (tVar i) (tC (V.int z)) σ H Q := by
  subst hz
  exact ⟨_, hs, p, xs, _, v, rfl, rfl, SqL.of hp, atI_nat hj, h⟩
theorem ixn {m j : Nat} (hj : j < m) : ixN m (j : Int) = some j := by
  unfold ixN
  rw [if_pos (Int.natCast_nonneg j), if_pos (Int.ofNat_lt.mpr hj), Int.toNat_natCast]
theorem setr {σ : L2.St} {H : Hp} {Q : L2.St → Hp → Prop} {i j : Nat} {z : Int} {p : Addr} {xs : List V} {v : V} (hs : σ[i]? = some (some (.ref p))) (hp : H p = some (.lst xs)) (hz : z = (j : Int)) (hj : j < xs.length)
    (h : Q σ (upd H p (.lst (xs.set j v)))) : gSub (tVar i) (tC (V.int z)) rSetL v σ H Q := by
  subst hz
  exact ⟨_, hs, p, xs, _, j, rfl, rfl, hp, ixn hj, h⟩
theorem But.refl {p q : Addr} {H : Hp} : But p q H H := fun _ _ _ _ e => e
theorem But.trans {p q : Addr} {H G J : Hp} (a : But p q H G) (b : But p q G J) : But p q H J := fun c o n1 n2 e => b c o n1 n2 (a c o n1 n2 e)
theorem But.l {p q : Addr} {H : Hp} {o : HO} : But p q H (upd H p o) := fun b u n1 _ e => by rw [upd_ne n1]; exact e
theorem But.r {p q : Addr} {H : Hp} {o : HO} : But p q H (upd H q o) := fun b u _ n2 e => by rw [upd_ne n2]; exact e
theorem But.of {p q : Addr} {H G : Hp} (k : Ex H G) : But p q H G := fun b o _ _ e => k b o e
section
variable {H G : Hp} {p q : Addr} {L : List Int} {a n t : Int}
theorem Stm.ext (S : Stm H p q L a n t) (k : Ex H G) : Stm G p q L a n t := ⟨k _ _ S.hp, k _ _ S.hq, S.ne, S.a0, S.n0, S.t0, S.t1⟩
theorem Stm.put (S : Stm H p q L a n t) {a' n' t' : Int} (h1 : 0 ≤ a') (h2 : 0 ≤ n') (h3 : 0 ≤ t') (h4 : t' < 2147483647) : Stm (upd H p (.lst [.ref q, .int a', .int n', .int t'])) p q L a' n' t' :=
  ⟨upd_same, by rw [upd_ne S.ne.symm]; exact S.hq, S.ne, h1, h2, h3, h4⟩
theorem Stm.cut (S : Stm H p q L a n t) (L' : List Int) : Stm (upd H q (.lst (L'.map V.int))) p q L' a n t :=
  ⟨by rw [upd_ne S.ne]; exact S.hp, upd_same, S.ne, S.a0, S.n0, S.t0, S.t1⟩
end
/-! ### the readings -/
def dIx (K : PySem.W.Frag) (j : Int) : TE := tOp (rIxL K) (tVar 0) (tC (.int j))
def dNum (t : TE) : TE := tCB (fun xs H Q => (∃ i, xs = [V.int i] ∧ Q (.int i) H) ∨ ∃ k, xs = [V.bl k] ∧ Q (.int (if k = true then 1 else 0)) H) (tCons t tNil)
abbrev dAdd : TE → TE → TE := tOp (rI0 fun i j => .int (i + j))
abbrev dMul : TE → TE → TE := tOp (rI CMul fun i j => .int (i * j))
abbrev dMod : TE → TE → TE := tOp (rI (fun _ j => 0 < j) fun i j => .int (i % j))
abbrev dPow : TE → TE → TE := tOp (rI CPow fun i j => .int (i ^ j.toNat))
abbrev nC (i : Int) : TE := tC (.int i)
def dSet (j : Int) (te : TE) : TS := tAsg te (gSub (tVar 0) (nC j) rSetL)
def dTest (K : PySem.W.Frag) : TT := tAnd (tTest (tOp rEq (dIx K 1) (nC 0))) (tTest (tOp (rNeD K) (dIx K 0) (tLst tNil)))
def dTurn (K : PySem.W.Frag) : TS := tSeq (tAsg (tBM K "list" rPopAt (dIx K 0) (tCons (nC 0) tNil)) (gName 2))
  (tSeq (dSet 3 (dMod (dNum (dAdd (dAdd (dMul (dIx K 3) (nC 8191)) (tVar 2)) (nC 3))) (nC 2147483647)))
  (dSet 1 (tIf (tTest (tOp (rI0 fun i j => .bl (decide (j ≤ i))) (tVar 2) (dPow (nC 10) (nC 18)))) (tVar 2) (nC 0))))
def dEnd (K : PySem.W.Frag) : TS := tSeq (tIfS (tTest (tOp (rI0 fun i j => .bl (decide (j < i))) (dIx K 1) (nC 0)))
    (tSeq (tAsg (dMod (dNum (dIx K 1)) (tVar 1)) (gName 3)) (tSeq (dSet 1 (tOp (rI CDivN fun i j => .int (i.fdiv j)) (dIx K 1) (tVar 1))) (tRet (tVar 3)))) tNext)
  (tSeq (tAsg (dMod (dNum (dPow (dAdd (dAdd (dIx K 3) (dMul (nC 7919) (dIx K 2))) (nC 104729)) (nC 5))) (nC 2147483629)) (gName 4))
  (tRet (dMod (dMod (dNum (dPow (dAdd (dAdd (dMul (tVar 4) (nC 48271)) (dMul (nC 30011) (dIx K 2))) (nC 29)) (nC 3))) (nC 1000000007)) (tVar 1))))
def dAll (K : PySem.W.Frag) : TS := tSeq (dSet 2 (dAdd (dIx K 2) (nC 1))) (tSeq (tWhile (dTest K) (dTurn K)) (dEnd K))
section
variable {K : PySem.W.Frag}
theorem turn_ok {D : Ends} {σ : L2.St} {H : Hp} {p q : Addr} {c a n t : Int} {L : List Int} (S : Stm H p q (c :: L) a n t) (s0 : σ[0]? = some (some (.ref p))) (sl : σ.length = 5)
    (h : ∀ (G : Hp) (a' t' : Int), Stm G p q L a' n t' → But p q H G → D.nx (σ.set 2 (some (.int c))) G) : dTurn K D σ H := by
  have e0 : (σ.set 2 (some (V.int c)))[0]? = some (some (.ref p)) := by rw [List.getElem?_set_ne (by decide)]; exact s0
  have e2 : (σ.set 2 (some (V.int c)))[2]? = some (some (.int c)) := List.getElem?_set_self (by omega)
  refine ixr (j := 0) s0 S.hp rfl rfl ⟨.inl ⟨rfl, _, SqL.of S.hq⟩, q, _, 0, 0, .int c, rfl, rfl, S.hq, by decide, by decide, ?_, rfl, ?_⟩
  · unfold seqIndex?
    simp
  have S1 : Stm (upd H q (.lst (L.map V.int))) p q L a n t := S.cut L
  have t0 := S.t0
  have t1 := S.t1
  -- what all of them mix
  refine ixr (j := 3) e0 S1.hp rfl rfl ⟨_, _, rfl, rfl, .inl ⟨by omega, by omega⟩, _, e2, _, _, rfl, rfl, _, _, rfl, rfl, .inl ⟨_, rfl, _, _, rfl, rfl, (show (0 : Int) < 2147483647 by decide), ?_⟩⟩
  refine setr (j := 3) e0 S1.hp rfl (by show 3 < 4; omega) ?_
  have m0 := Int.emod_nonneg (t * 8191 + c + 3) (show (2147483647 : Int) ≠ 0 by decide)
  have m1 := Int.emod_lt_of_pos (t * 8191 + c + 3) (show (0 : Int) < 2147483647 by decide)
  have S2 := S1.put (a' := a) (n' := n) (t' := (t * 8191 + c + 3) % 2147483647) S.a0 S.n0 m0 m1
  have B2 : But p q H (upd (upd H q (.lst (L.map V.int))) p (.lst [.ref q, .int a, .int n, .int ((t * 8191 + c + 3) % 2147483647)])) := But.trans But.r But.l
  refine ⟨_, e2, _, _, rfl, rfl, ⟨by decide, by decide, by decide⟩, _, _, rfl, rfl, _, rfl, ?_⟩
  by_cases hc : (10 : Int) ^ (18 : Int).toNat ≤ c
  · rw [decide_eq_true hc]
    refine iteT ⟨_, e2, ?_⟩
    refine setr (j := 1) e0 S2.hp rfl (by show 1 < 4; omega) (h _ _ _ (S2.put (a' := c) ?_ S.n0 m0 m1) (B2.trans But.l))
    have z : (0 : Int) ≤ 10 ^ (18 : Int).toNat := by decide
    omega
  · rw [decide_eq_false hc]
    refine iteF ?_
    exact setr (j := 1) e0 S2.hp rfl (by show 1 < 4; omega) (h _ _ _ (S2.put (a' := 0) (by decide) S.n0 m0 m1) (B2.trans But.l))
theorem fin_ok {D : Ends} {σ : L2.St} {H : Hp} {p q : Addr} {a n t m k : Int} {L : List Int} (S : Stm H p q L a n t) (s0 : σ[0]? = some (some (.ref p))) (s1 : σ[1]? = some (some (.int m))) (sl : σ.length = 5)
    (hn : n ≤ 100000) (hm : 1 ≤ m) (hm2 : m ≤ 1000) (k0 : 0 ≤ k) (k1 : k < 2147483629)
    (h : ∀ (r : Int) (G : Hp) (L' : List Int) (a' t' : Int), 0 ≤ r → r < m → Stm G p q L' a' n t' → But p q H G → D.rt (.int r) G) :
    tRet (dMod (dMod (dNum (dPow (dAdd (dAdd (dMul (tVar 4) (nC 48271)) (dMul (nC 30011) (dIx K 2))) (nC 29)) (nC 3))) (nC 1000000007)) (tVar 1)) D (σ.set 4 (some (V.int k))) H := by
  have n0 := S.n0
  have e0 : (σ.set 4 (some (V.int k)))[0]? = some (some (.ref p)) := by rw [List.getElem?_set_ne (by decide)]; exact s0
  have e1 : (σ.set 4 (some (V.int k)))[1]? = some (some (.int m)) := by rw [List.getElem?_set_ne (by decide)]; exact s1
  have e4 : (σ.set 4 (some (V.int k)))[4]? = some (some (.int k)) := List.getElem?_set_self (by omega)
  refine ⟨_, e4, _, _, rfl, rfl, .inl ⟨by omega, by omega⟩, ?_⟩
  refine ixr (j := 2) e0 S.hp rfl rfl ⟨_, _, rfl, rfl, .inl ⟨by decide, by decide⟩, _, _, rfl, rfl, _, _, rfl, rfl, _, _, rfl, rfl, ⟨by decide, by decide, by omega⟩,
    .inl ⟨_, rfl, _, _, rfl, rfl, (show (0 : Int) < 1000000007 by decide), _, e1, _, _, rfl, rfl, by omega, ?_⟩⟩
  exact h _ _ _ _ _ (Int.emod_nonneg _ (by omega)) (Int.emod_lt_of_pos _ (by omega)) S But.refl
theorem end_ok {Q : VK} {nx : L2.St → Hp → Prop} {σ : L2.St} {H : Hp} {p q : Addr} {a n t m : Int} {L : List Int} (S : Stm H p q L a n t) (s0 : σ[0]? = some (some (.ref p))) (s1 : σ[1]? = some (some (.int m))) (sl : σ.length = 5)
    (hn : n ≤ 100000) (hm : 1 ≤ m) (hm2 : m ≤ 1000)
    (h : ∀ (r : Int) (G : Hp) (L' : List Int) (a' t' : Int), 0 ≤ r → r < m → Stm G p q L' a' n t' → But p q H G → Q (.int r) G) : dEnd K { nx := nx, rt := Q } σ H := by
  have n0 := S.n0
  have t0 := S.t0
  have t1 := S.t1
  have a0 := S.a0
  refine ixr (j := 1) s0 S.hp rfl rfl ⟨_, _, rfl, rfl, _, rfl, ?_⟩
  by_cases ha : 0 < a
  · rw [decide_eq_true ha]
    refine iteT ?_
    have e0 : (σ.set 3 (some (V.int (a % m))))[0]? = some (some (.ref p)) := by rw [List.getElem?_set_ne (by decide)]; exact s0
    have e1 : (σ.set 3 (some (V.int (a % m))))[1]? = some (some (.int m)) := by rw [List.getElem?_set_ne (by decide)]; exact s1
    have e3 : (σ.set 3 (some (V.int (a % m))))[3]? = some (some (.int (a % m))) := List.getElem?_set_self (by omega)
    refine ixr (j := 1) s0 S.hp rfl rfl (.inl ⟨_, rfl, _, s1, _, _, rfl, rfl, by omega, ?_⟩)
    refine ixr (j := 1) e0 S.hp rfl rfl ⟨_, e1, _, _, rfl, rfl, ⟨by omega, by omega⟩, ?_⟩
    refine setr (j := 1) e0 S.hp rfl (by show 1 < 4; omega) ⟨_, e3, ?_⟩
    exact h _ _ _ _ _ (Int.emod_nonneg a (by omega)) (Int.emod_lt_of_pos a (by omega)) (S.put (a' := a.fdiv m) (n' := n) (t' := t) (by rw [Int.fdiv_eq_ediv_of_nonneg _ (by omega)]; exact Int.ediv_nonneg a0 (by omega)) n0 t0 t1) But.l
  · rw [decide_eq_false ha]
    refine iteF ?_
    refine ixr (j := 3) s0 S.hp rfl rfl ?_
    refine ixr (j := 2) s0 S.hp rfl rfl ⟨_, _, rfl, rfl, .inl ⟨by decide, by decide⟩, _, _, rfl, rfl, _, _, rfl, rfl, _, _, rfl, rfl, ⟨by decide, by decide, by omega⟩, .inl ⟨_, rfl, _, _, rfl, rfl, (show (0 : Int) < 2147483629 by decide), ?_⟩⟩
    exact fin_ok S s0 s1 sl hn hm hm2 (Int.emod_nonneg _ (by decide)) (Int.emod_lt_of_pos _ (by decide)) h
theorem all_ok (vs : List V) (H : Hp) (Q : VK) (E : XK) (hs : spDraw vs H Q E) : dAll K { nx := fun _ H' => Q .non H', rt := Q } (L2.start ["_law_stream", "_law_many", "_law_cell", "_law_digit", "_law_mixed_here"] vs) H := by
  obtain ⟨p, q, L, a, n, t, m, rfl, S, hn, hm, hm2, k⟩ := hs
  -- one more was drawn
  refine ixr (j := 2) rfl S.hp rfl rfl ⟨_, _, rfl, rfl, ?_⟩
  refine setr (j := 2) rfl S.hp rfl (by show 2 < 4; omega) ?_
  have S1 := S.put (a' := a) (n' := n + 1) (t' := t) S.a0 (by have := S.n0; omega) S.t0 S.t1
  refine while_by (fun σ G => ∃ L' a' t', Stm G p q L' a' (n + 1) t' ∧ But p q H G ∧ σ[0]? = some (some (.ref p)) ∧ σ[1]? = some (some (.int m)) ∧ σ.length = 5)
    (fun _ G => match G q with | some (.lst xs) => xs.length | _ => 0) ⟨L, a, t, S1, But.l, rfl, rfl, rfl⟩ ?_ ?_
  · rintro σ G ⟨L', a', t', Z, B, s0, s1, sl⟩
    have fin : ∀ (G' : Hp) (L2 : List Int), Stm G' p q L2 a' (n + 1) t' → But p q H G' → dEnd K { nx := fun _ H' => Q .non H', rt := Q } σ G' := fun G' L2 Z' B' =>
      end_ok Z' s0 s1 sl (by omega) hm hm2 fun r G2 L3 a3 t3 r0 r1 z b => k r G2 L3 a3 t3 r0 r1 z (B'.trans b)
    refine ixr (j := 1) s0 Z.hp rfl rfl ⟨rfl, _, rfl, ?_⟩
    by_cases ha : a' = 0
    · subst ha
      rw [decide_eq_true (rfl : V.int 0 = V.int 0)]
      refine iteT ?_
      refine ixr (j := 0) s0 Z.hp rfl rfl ⟨Nat.zero_le _, fun l hl => ?_⟩
      have Zl := Z.ext (Ex.new (o := .lst []) hl)
      have Bl : But p q H (upd G l (.lst [])) := B.trans (But.of (Ex.new hl))
      refine ⟨.list (L'.map PyData.int), .list [], .lst (SqL.of Zl.hq) (dp_ints L'), .lst (SqL.of upd_same) .nil, shaped_ints L', by decide +kernel, _, rfl, ?_⟩
      cases L' with
      | nil =>
        refine iteF ?_
        exact fin _ [] Zl Bl
      | cons c L' =>
        refine iteT ?_
        refine turn_ok Zl s0 sl fun G2 a2 t2 z b => ⟨⟨L', a2, t2, z, Bl.trans b, by rw [List.getElem?_set_ne (by decide)]; exact s0, by rw [List.getElem?_set_ne (by decide)]; exact s1, by simpa using sl⟩, ?_⟩
        rw [z.hq, Z.hq]
        simp
    · rw [decide_eq_false (fun z => ha (V.int.inj z))]
      exact iteF (fin _ L' Z B)
  · rintro σ G Q1 Q2 hq h
    obtain ⟨v, e1, p1, xs, i, z, y1, y2, y3, y4, y5, kk, y6, h⟩ := h
    refine ⟨v, e1, p1, xs, i, z, y1, y2, y3, y4, y5, kk, y6, ?_⟩
    cases kk with
    | false =>
      rw [if_neg Bool.false_ne_true] at h ⊢
      exact hq _ _ h
    | true =>
      rw [if_pos rfl] at h ⊢
      obtain ⟨v, e1, p1, xs, i, z, y1, y2, y3, y4, y5, y6⟩ := h
      refine ⟨v, e1, p1, xs, i, z, y1, y2, y3, y4, y5, fun l n => ?_⟩
      obtain ⟨d, e, d1, d2, d3, d4, k2, y, z⟩ := y6 l n
      exact ⟨d, e, d1, d2, d3, d4, k2, y, hq _ _ z⟩
end
section
variable {P : Program} {w : World} {K : PySem.W.Frag} {mg : Str → Option Value} {base : Heap}
theorem ok_draw {f : Addr} {fd : FuncData} (F : FnP K "_law_draw" s__law_draw f fd) (mI : mg "int" = none) : FnOk P w K mg base CX0 1 f fd ["_law_stream", "_law_many"] spDraw := by
  refine F.ok scD (fun vs H Q E h => ?_) (fun cdv A outer s H vs Q E hr h => ⟨dAll K, PSs.nox ?_, all_ok vs H Q E h⟩)
  · obtain ⟨p, q, L, a, n, t, m, rfl, _⟩ := h
    rfl
  · exact pss_cons (ps_asg (pe_op op_add (pe_ix ix_list (pv 0) pe_int (fun _ _ => rfl)) pe_int) (pg_sub (pv 0) pe_int set_list))
      (pss_cons (ps_while PassesOwn.never (PW.pt (pw_and (pt_cmpR op_eq (pe_ix ix_list (pv 0) pe_int (fun _ _ => rfl)) pe_int (nomark _))
          (pw_and1 (pt_cmpR (op_neD hr.units) (pe_ix ix_list (pv 0) pe_int (fun _ _ => rfl)) (pe_lst pa_nil) (nomark _)))))
        (pss_cons (ps_set (i := 2) scD.nd rfl (.inl rfl) (pe_bm PySem.F.plainAttrs_list PySem.F.slot_list_pop PySem.F.type_list_pop mt_popAt (pe_ix ix_list (pv 0) pe_int (fun _ _ => rfl)) (pa_cons pe_int pa_nil)))
        (pss_cons (ps_asg (pe_op op_mod (pe_callTy call_int1 (by rfl) mI PySem.Pv.boot_int (pa_cons (pe_op op_add (pe_op op_add (pe_op op_mul (pe_ix ix_list (pv 0) pe_int (fun _ _ => rfl)) pe_int) (pv 2)) pe_int) pa_nil)) pe_int)
          (pg_sub (pv 0) pe_int set_list))
        (pss_one (ps_asg (pe_ifExp (pt_cmpR op_ge (pv 2) (pe_op op_pow pe_int pe_int) (nomark _)) (pv 2) pe_int) (pg_sub (pv 0) pe_int set_list))))))
      (pss_cons (ps_if (pt_cmpR op_gt (pe_ix ix_list (pv 0) pe_int (fun _ _ => rfl)) pe_int (nomark _))
        (pss_cons (ps_set (i := 3) scD.nd rfl (.inl rfl) (pe_op op_mod (pe_callTy call_int1 (by rfl) mI PySem.Pv.boot_int (pa_cons (pe_ix ix_list (pv 0) pe_int (fun _ _ => rfl)) pa_nil)) (pv 1)))
        (pss_cons (ps_asg (pe_op op_fdivN (pe_ix ix_list (pv 0) pe_int (fun _ _ => rfl)) (pv 1)) (pg_sub (pv 0) pe_int set_list))
        (pss_one (ps_ret (pv 3))))) pss_nil)
      (pss_cons (ps_set (i := 4) scD.nd rfl (.inl rfl) (pe_op op_mod (pe_callTy call_int1 (by rfl) mI PySem.Pv.boot_int (pa_cons (pe_op op_pow (pe_op op_add (pe_op op_add (pe_ix ix_list (pv 0) pe_int (fun _ _ => rfl))
          (pe_op op_mul pe_int (pe_ix ix_list (pv 0) pe_int (fun _ _ => rfl)))) pe_int) pe_int) pa_nil)) pe_int))
      (pss_one (ps_ret (pe_op op_mod (pe_op op_mod (pe_callTy call_int1 (by rfl) mI PySem.Pv.boot_int (pa_cons (pe_op op_pow (pe_op op_add (pe_op op_add (pe_op op_mul (pv 4) pe_int)
          (pe_op op_mul pe_int (pe_ix ix_list (pv 0) pe_int (fun _ _ => rfl)))) pe_int) pe_int) pa_nil)) pe_int) (pv 1)))))))
end
end K29

set_option Elab.async false
set_option linter.all false
set_option maxRecDepth 100000
set_option maxHeartbeats 4000000
/-! Draws: start, pick, mixed. -/
namespace K29
open PySem PySem.Spec PyProof.Rows L2 Evl
/-- the spring at p, its cells at q, n drawn -/
def Spr (H : Hp) (p q : Addr) (n : Int) : Prop := ∃ L a t, Stm H p q L a n t
theorem Spr.ext {H G : Hp} {p q : Addr} {n : Int} (e : Ex H G) (h : Spr H p q n) : Spr G p q n := let ⟨L, a, t, s⟩ := h; ⟨L, a, t, s.ext e⟩
theorem Spr.keep {H G : Hp} {p q : Addr} {n : Int} (h : Spr H p q n) (e1 : ∀ o, H p = some o → G p = some o) (e2 : ∀ o, H q = some o → G q = some o) : Spr G p q n := let ⟨L, a, t, s⟩ := h; ⟨L, a, t, e1 _ s.hp, e2 _ s.hq, s.ne, s.a0, s.n0, s.t0, s.t1⟩
theorem Spr.lst {H : Hp} {p q : Addr} {n : Int} (h : Spr H p q n) : ∃ xs ys, H p = some (.lst xs) ∧ H q = some (.lst ys) := let ⟨L, a, t, s⟩ := h; ⟨_, _, s.hp, s.hq⟩
section
variable {P : Program} {w : World} {K : PySem.W.Frag} {mg : Str → Option Value} {base : Heap} {C : Addr}
def spDr : Sp := fun vs H Q _ => ∃ (p q : Addr) (n m : Int), vs = [.ref p, .int m] ∧ Spr H p q n ∧ n < 100000 ∧ 1 ≤ m ∧ m ≤ 1000 ∧
  ∀ (r : Int) (G : Hp), 0 ≤ r → r < m → Spr G p q (n + 1) → But p q H G → Q (.int r) G
theorem ok_dr (T : T29 P w K mg base) : Ok P w K mg base "_law_draw" ["_law_stream", "_law_many"] 1 spDr := by
  obtain ⟨⟨fd, F⟩, m⟩ := T.df 28 "_law_draw" s__law_draw rfl
  have G := ok_draw (P := P) (w := w) (mg := mg) (base := base) F T.int
  refine ⟨_, fd, ?_, F.bindsN fun kV doc pm an cdv ct us hl => match us, hl with | [_, _], _ => rfl, F.kp, m⟩
  exact FnOk.imp G fun vs H Q E ⟨p, q, n, m, h1, ⟨L, a, t, S⟩, h2, h3, h4, k⟩ => ⟨p, q, L, a, n, t, m, h1, S, h2, h3, h4, fun r G L' a' t' r0 r1 S' B => k r G r0 r1 ⟨L', a', t', S'⟩ B⟩
def spStart (K : PySem.W.Frag) : Sp := fun vs H Q _ => ∃ (a : Addr) (ns : List Int), vs = [.ref a] ∧ SqL K H a (ns.map V.int) ∧ ∀ p q G, H p = none → H q = none → Ex H G → Spr G p q 0 → Q (.ref p) G
theorem sc_start : FnScope ["_law_script"] ["_law_script"] (defScope s__law_start) := ⟨rfl, rfl, rfl, by decide +kernel, rfl, by decide +kernel, by decide +kernel⟩
theorem ok_start (T : T29 P w K mg base) : Ok P w K mg base "_law_start" ["_law_script"] 1 (spStart K) := by
  refine T.ok 27 rfl sc_start (fun vs H Q E h => ?_) (fun kV doc pm an cdv ct us hl => match us, hl with | [_], _ => rfl) (fun f cdv A outer s H vs Q E hr h => ?_)
  · obtain ⟨a, ns, rfl, _⟩ := h
    rfl
  · obtain ⟨a, ns, rfl, hS, k⟩ := h
    refine ⟨_, pss_one (ps_ret (pe_lst (pa_cons (pe_callTy call_list_of (by rfl) T.list PyProof.Rows.boot_list (pa_cons (pv 0) pa_nil)) (pa_cons pe_int (pa_cons pe_int (pa_cons pe_int pa_nil)))))), ?_⟩
    refine ⟨_, rfl, a, _, rfl, .inl hS, fun l nl => ⟨by show 4 ≤ sizeLine; rw [sizeLine_eq]; omega, fun p np => ?_⟩⟩
    have ne : l ≠ p := fun z => by
      rw [z, upd_same] at np
      cases np
    exact k p l _ (fresh_back (Ex.new nl) np) nl ((Ex.new nl).trans (Ex.new np)) ⟨ns, 0, 11, upd_same, by rw [upd_ne ne, upd_same], ne.symm, Int.le_refl _, Int.le_refl _, by decide, by decide⟩
def spPick (K : PySem.W.Frag) : Sp := fun vs H Q _ => ∃ (p q c : Addr) (n : Int) (xs : List V), vs = [.ref p, .ref c] ∧ Spr H p q n ∧ n < 100000 ∧ H c = some (.lst xs) ∧ c ≠ p ∧ c ≠ q ∧ xs ≠ [] ∧ xs.length ≤ 1000 ∧
  ∀ (y : V) (G : Hp), y ∈ xs → Spr G p q (n + 1) → But p q H G → Q y G
theorem sc_pick : FnScope ["_law_stream", "_law_some"] ["_law_stream", "_law_some"] (defScope s__law_pick) := ⟨rfl, rfl, rfl, by decide +kernel, rfl, by decide +kernel, by decide +kernel⟩
theorem ok_pick (T : T29 P w K mg base) : Ok P w K mg base "_law_pick" ["_law_stream", "_law_some"] 2 (spPick K) := by
  obtain ⟨fD, dD, GD, bD, kD, mD⟩ := (ok_dr T).ex
  refine T.ok 29 rfl sc_pick (fun vs H Q E h => ?_) (fun kV doc pm an cdv ct us hl => match us, hl with | [_, _], _ => rfl) (fun f cdv A outer s H vs Q E hr h => ?_)
  · obtain ⟨p, q, c, n, xs, rfl, _⟩ := h
    rfl
  · obtain ⟨p, q, c, n, xs, rfl, S, hn, hc, n1, n2, hne, hl, k⟩ := h
    refine ⟨_, pss_one (ps_ret (pe_ix ix_list (pv 1) (pe_call GD hr (by rfl) mD kD bD .nil pass0 (pa_cons (pv 0) (pa_cons (pe_callB call_len (by rfl) T.len PySem.boot_len (pa_cons (pv 1) pa_nil)) pa_nil))) (fun _ _ => rfl))), ?_⟩
    have hpos : 0 < xs.length := List.length_pos_iff.mpr hne
    refine ⟨_, rfl, _, rfl, _, rfl, _, xs.length, rfl, .inl ⟨xs, sq_of hc, rfl⟩, p, q, n, _, rfl, S, hn, by omega, by omega, fun r G r0 r1 S' B => ?_⟩
    obtain ⟨j, rfl⟩ : ∃ j : Nat, r = (j : Int) := ⟨r.toNat, by omega⟩
    have hj : j < xs.length := by omega
    exact ⟨c, xs, _, xs[j], rfl, rfl, sq_of (B _ _ n1 n2 hc), atI_nat (by simp [hj]), k _ G (List.getElem_mem _) S' B⟩
def spMix (K : PySem.W.Frag) : Sp := fun vs H Q _ => ∃ (p q c : Addr) (n : Int) (xs : List V), vs = [.ref p, .ref c] ∧ Spr H p q n ∧ n + (xs.length : Int) < 90000 ∧ xs.length ≤ 500 ∧ SqL K H c xs ∧
  ∀ (r : Addr) (G : Hp) (ys : List V), H r = none → G r = some (.lst ys) → ys.Perm xs → Spr G p q (n + (xs.length : Int)) → But p q H G → Q (.ref r) G
abbrev nM : List Str := ["_law_stream", "_law_some", "_law_left", "_law_k"]
theorem sc_mix : FnScope nM ["_law_stream", "_law_some"] (defScope s__law_mixed) := ⟨rfl, rfl, rfl, by decide +kernel, rfl, by decide +kernel, by decide +kernel⟩
def mLen (K : PySem.W.Frag) (i : Nat) : TE := tCB (fun xs H Q => ∃ x n, xs = [x] ∧ LenV K x H n ∧ Q (.int n) H) (tCons (tVar i) tNil)
def mPop (K : PySem.W.Frag) : TE := tBM K "list" rPopAt (tVar 2) (tCons (tCall spDr [] E0 (tCons (tVar 0) (tCons (mLen K 2) tNil))) tNil)
theorem perm_eraseIdx {α : Type} : ∀ {l : List α} {j : Nat} {y : α}, l[j]? = some y → (y :: l.eraseIdx j).Perm l
  | [], j, y, h => by simp at h
  | x :: l, 0, y, h => by
    obtain rfl : x = y := by simpa using h
    exact List.Perm.refl _
  | x :: l, j + 1, y, h => by
    have ih := perm_eraseIdx (l := l) (j := j) (y := y) (by simpa using h)
    show (y :: x :: l.eraseIdx j).Perm (x :: l)
    exact (List.Perm.swap x y _).trans (ih.cons x)
theorem ok_mixed (T : T29 P w K mg base) : Ok P w K mg base "_law_mixed" ["_law_stream", "_law_some"] 2 (spMix K) := by
  obtain ⟨fD, dD, GD, bD, kD, mD⟩ := (ok_dr T).ex
  refine T.ok 30 rfl sc_mix (fun vs H Q E h => ?_) (fun kV doc pm an cdv ct us hl => match us, hl with | [_, _], _ => rfl) (fun f cdv A outer s H vs Q E hr h => ?_)
  · obtain ⟨p, q, c, n, xs, rfl, _⟩ := h
    rfl
  · obtain ⟨p, q, c, n, xs, rfl, S, hn, hz, hS, k⟩ := h
    refine ⟨_, pss_cons (ps_set (i := 2) sc_mix.nd rfl (.inr rfl) (pe_callTy call_list_of (by rfl) T.list PyProof.Rows.boot_list (pa_cons (pv 1) pa_nil)))
      (pss_one (ps_ret (pe_lc (own := [("_law_k", 3)]) (g := gName 3) (tt := tYes) (te := mPop K) rfl sc_mix.nd (pi_range1 (by rfl) T.range (pa_cons (pe_callB call_len (by rfl) T.len PySem.boot_len (pa_cons (pv 2) pa_nil)) pa_nil))
        (blkOk_by (N := nM) (sc := defScope s__law_mixed) (by decide +kernel)) (fun _ _ _ _ _ => pg_name (i := 3) sc_mix.nd rfl (Or.inl rfl)) (fun _ _ _ _ _ => pts_nil)
        (fun _ _ _ _ _ => pe_bm PySem.F.plainAttrs_list PySem.F.slot_list_pop PySem.F.type_list_pop mt_popAt (pv 2) (pa_cons (pe_call GD hr (by rfl) mD kD bD .nil pass0 (pa_cons (pv 0) (pa_cons (pe_callB call_len (by rfl) T.len PySem.boot_len (pa_cons (pv 2) pa_nil)) pa_nil))) pa_nil))))), ?_⟩
    refine ⟨_, rfl, c, xs, rfl, .inl hS, fun l hl => ?_⟩
    refine ⟨_, rfl, _, xs.length, rfl, .inl ⟨xs, SqL.of upd_same, rfl⟩, _, rfl, by omega, by omega, fun D hD => ?_⟩
    obtain ⟨sx, sy, Sp, Sq⟩ := S.lst
    have lp : l ≠ p := (ne_of_none Sp hl).symm
    have lq : l ≠ q := (ne_of_none Sq hl).symm
    have Dl : D ≠ l := fun z => by
      rw [z, upd_same] at hD
      cases hD
    have hD0 : H D = none := by
      rw [upd_ne Dl] at hD
      exact hD
    have Dp' : D ≠ p := (ne_of_none Sp hD0).symm
    have Dq : D ≠ q := (ne_of_none Sq hD0).symm
    have x1 : Ex H (upd H l (.lst xs)) := Ex.new hl
    have x2 : Ex H (upd (upd H l (.lst xs)) D (.lst [])) := x1.trans (Ex.new hD)
    refine lc_range (lo := 0) (fun i G => ∃ left acc, Spr G p q (n + (i : Int)) ∧ G l = some (.lst left) ∧ left.length + i = xs.length ∧
      G D = some (.lst acc) ∧ acc.length = i ∧ (acc ++ left).Perm xs ∧ But p q H G) ?_ ?_ ?_
    · exact ⟨xs, [], by simpa using S.ext x2, by rw [upd_ne Dl.symm, upd_same], rfl, upd_same, rfl, by simp, But.of x2⟩
    · rintro i G hi ⟨left, acc, Z, g1, g2, g4, g5, g6, B⟩
      refine ⟨rfl, ?_⟩
      unfold tYes
      dsimp only
      rw [if_pos (rfl : true = true)]
      have hi' : i < xs.length := by simpa using hi
      refine ⟨_, rfl, .inl ⟨rfl, _, SqL.of g1⟩, _, rfl, _, rfl, _, left.length, rfl, .inl ⟨left, SqL.of g1, rfl⟩, ?_⟩
      refine ⟨p, q, _, _, rfl, Z, by omega, by omega, by omega, fun r G2 r0 r1 Z2 B2 => ?_⟩
      have h1 : G2 l = some (.lst left) := B2 l _ lp lq g1
      have h2 : G2 D = some (.lst acc) := B2 D _ Dp' Dq g4
      obtain ⟨j, rfl⟩ : ∃ j : Nat, r = (j : Int) := ⟨r.toNat, by omega⟩
      have hj : j < left.length := by omega
      obtain ⟨y, hy⟩ : ∃ y, left[j]? = some y := ⟨left[j], by simp [hj]⟩
      refine ⟨l, left, _, j, y, rfl, rfl, h1, by omega, by omega, (ixN_seq (ixn hj)).1, hy, acc, by rw [upd_ne Dl]; exact h2, by rw [g5, sizeLine_eq]; omega, ?_⟩
      refine ⟨left.eraseIdx j, acc ++ [y], ?_, by rw [upd_ne Dl.symm, upd_same], ?_, upd_same, by simp [g5], ?_, ?_⟩
      · have e : n + ((i + 1 : Nat) : Int) = n + (i : Int) + 1 := by omega
        rw [e]
        exact Z2.keep (fun o h => by rw [upd_ne Dp'.symm, upd_ne lp.symm]; exact h) (fun o h => by rw [upd_ne Dq.symm, upd_ne lq.symm]; exact h)
      · rw [List.length_eraseIdx_of_lt hj]
        omega
      · rw [List.append_assoc]
        exact ((perm_eraseIdx hy).append_left acc).trans g6
      · intro b o n1 n2 e
        have nl : b ≠ l := ne_of_none e hl
        have nD : b ≠ D := ne_of_none e hD0
        rw [upd_ne nD, upd_ne nl]
        exact B2 b o n1 n2 (B b o n1 n2 e)
    · rintro G ⟨left, acc, Z, g1, g2, g4, g5, g6, B⟩
      have hl0 : left = [] := List.length_eq_zero_iff.mp (by have e : ((xs.length : Nat) : Int).toNat = xs.length := rfl; rw [e] at g2; omega)
      subst hl0
      exact k D G acc hD0 g4 (by simpa using g6) (by simpa using Z) B
end
end K29

set_option Elab.async false
set_option linter.all false
set_option maxRecDepth 100000
set_option maxHeartbeats 4000000
/-! Texts the same. -/
namespace K29
open PySem PySem.Spec PyProof.Rows L2 Evl
section
variable {K : PySem.W.Frag} {σ : L2.St} {H : Hp} {te ta tb : TE} {v : V}
theorem rv_neB {a b : Bool} : Evl.RV rNe (.bl a) (.bl b) H (.bl (!decide (V.bl a = V.bl b))) := rv_ne rfl
theorem ev_isiN {m : String} {cs : List String} {b : Bool} (h : Ev te σ H v) (ty : TyX K H v (.type m)) (e : PySem.W.kitAny K (.type m) (cs.map Value.type) = some b) {ta : TA} (ht : EvU (tTup ta) σ H (cs.map V.ty)) : Ev (tCB (rIsiT K) (tCons te (tCons (tTup ta) tNil))) σ H (.bl b) := fun H1 x Q q =>
  h H1 x _ fun H2 x2 => ht H2 (x.trans x2) _ fun p H3 hp x3 h3 => by
    show rIsiT K [v, .ref p] H3 Q
    have pr : ∀ cs : List String, Paired ClsV (cs.map V.ty) (cs.map Value.type) := fun cs => by
      induction cs with
      | nil => exact .nil
      | cons c cs ih => exact .cons (.ty c) ih
    exact ⟨v, p, cs.map V.ty, _, cs.map Value.type, b, rfl, h3, pr cs, tyx_ext ((x.trans x2).trans x3) ty, e, q _ (x2.trans x3)⟩
end
section
variable {P : Program} {w : World} {K : PySem.W.Frag} {mg : Str → Option Value} {base : Heap} {C : Addr}
def spSame0 : Sp := fun vs H Q _ => ∃ x, vs = [.str x, .str x] ∧ RetV (.bl true) H Q
abbrev nS : List Str := ["_law_found", "_law_due", "_law_x", "_law_y"]
theorem sc_same : FnScope nS ["_law_found", "_law_due"] (defScope s__law_same) := ⟨rfl, rfl, rfl, by decide +kernel, rfl, by decide +kernel, by decide +kernel⟩
theorem boot_dict29 : bootBuiltins "dict" = some (.type "dict") := by decide +kernel
theorem kit_str {K : PySem.W.Frag} : PySem.W.kitAny K (.type "str") (["int", "list", "tuple", "dict"].map Value.type) = some false :=
  kitAny_cons (kit_ty (b := "int") (r := false) (by decide +kernel)) (fun _ => kitAny_cons (kit_ty (b := "list") (r := false) (by decide +kernel)) (fun _ => kitAny_cons (kit_ty (b := "tuple") (r := false) (by decide +kernel)) (fun _ => kitAny_cons (kit_ty (b := "dict") (r := false) (by decide +kernel)) (fun _ => kitAny_nil) fun z => nomatch z) fun z => nomatch z) fun z => nomatch z) fun z => nomatch z
theorem ok_same0 (T : T29 P w K mg base) : Ok P w K mg base "_law_same" ["_law_found", "_law_due"] 1 spSame0 := by
  refine T.ok 31 rfl sc_same (fun vs H Q E h => ?_) (fun kV doc pm an cdv ct us hl => match us, hl with | [_, _], _ => rfl) (fun f cdv A outer s H vs Q E hr h => ?_)
  · obtain ⟨x, rfl, _⟩ := h
    rfl
  · obtain ⟨x, rfl, k⟩ := h
    refine ⟨_, pss_cons (ps_if (pt_val (pe_isiLT T.isi T.list T.tuple (pv 1))) (pss_cons ps_never (pss_one ps_never)) pss_nil)
      (pss_cons (ps_if (pt_val (pe_isiB T.isi T.dict boot_dict29 (pv 1))) (pss_one ps_never) pss_nil)
      (pss_cons (ps_if (pt_val (pe_isiB T.isi T.int PyProof.Rows.boot_int (pv 1))) (pss_one ps_never) pss_nil)
      (pss_one (ps_ret (pe_and (pe_not (pe_callB call_isiT (by rfl) T.isi PyProof.Rows.boot_isinstance (pa_cons (pv 0) (pa_cons (pe_tup (pa_cons (pe_bltn (v := .ty "int") (by rfl) T.int PyProof.Rows.boot_int rfl) (pa_cons (pe_bltn (v := .ty "list") (by rfl) T.list PyProof.Rows.boot_list rfl) (pa_cons (pe_bltn (v := .ty "tuple") (by rfl) T.tuple PyProof.Rows.boot_tuple rfl) (pa_cons (pe_bltn (v := .ty "dict") (by rfl) T.dict (by decide +kernel) rfl) pa_nil))))) pa_nil))))
        (pe_one (pe_cmpR op_eq (pv 0) (pv 1) (nomark _)))))))), ?_⟩
    have ty : ∀ H, TyX K H (.str x) (.type "str") := fun _ => .base (.str x)
    refine q_when (b := false) (et_B (ev_isi2 (m := "str") (b1 := false) (b2 := false) (ev_var rfl) (ty _) (by decide +kernel) (by decide +kernel))) (fun z => nomatch z) fun _ H1 e1 => ?_
    refine q_when (b := false) (et_B (ev_isi (ev_var rfl) (ty _) (by decide +kernel))) (fun z => nomatch z) fun _ H2 e2 => ?_
    refine q_when (b := false) (et_B (ev_isi (ev_var rfl) (ty _) (by decide +kernel))) (fun z => nomatch z) fun _ H3 e3 => ?_
    exact s_ret (ev_andV (a := true) (b := true) (ev_notV (a := false) (ev_isiN (cs := ["int", "list", "tuple", "dict"]) (ev_var rfl) (ty _) kit_str (eu_tup (ea_cons ev_c (ea_cons ev_c (ea_cons ev_c (ea_cons ev_c ea_nil)))) (by show 4 ≤ 100000; decide)))) fun _ => ev_is (ev_op (ev_var rfl) (ev_var rfl) (rv_eq rfl)) (by simp)) fun H4 e4 => k H4 (((e1.trans e2).trans e3).trans e4)
def spSame1 : Sp := fun vs H Q _ => ∃ (a b : Addr) (xs : List Str), vs = [.ref a, .ref b] ∧ H a = some (.lst (xs.map V.str)) ∧ H b = some (.lst (xs.map V.str)) ∧ xs.length ≤ 1000 ∧ RetV (.bl true) H Q
theorem ok_same (T : T29 P w K mg base) : Ok P w K mg base "_law_same" ["_law_found", "_law_due"] 2 spSame1 := by
  obtain ⟨fR, dR, GR, bR, kR, mR⟩ := (ok_same0 T).ex
  refine T.ok 31 rfl sc_same (fun vs H Q E h => ?_) (fun kV doc pm an cdv ct us hl => match us, hl with | [_, _], _ => rfl) (fun f cdv A outer s H vs Q E hr h => ?_)
  · obtain ⟨a, b, xs, rfl, _⟩ := h
    rfl
  · obtain ⟨a, b, xs, rfl, ha, hb, hl, k⟩ := h
    refine ⟨_, pss_cons (ps_if (pt_val (pe_isiLT T.isi T.list T.tuple (pv 1)))
        (pss_cons (ps_if (PW.pt (pw_or (pt_cmpR op_ne (pe_isiB T.isi T.list PyProof.Rows.boot_list (pv 0)) (pe_isiB T.isi T.list PyProof.Rows.boot_list (pv 1)) (nomark _)) (pw_or1 (pt_cmpR op_ne (pe_isiB T.isi T.tuple PyProof.Rows.boot_tuple (pv 0)) (pe_isiB T.isi T.tuple PyProof.Rows.boot_tuple (pv 1)) (nomark _))))) (pss_one ps_never) pss_nil)
        (pss_one (ps_ret (pe_and (pe_cmpR op_eq (pe_callB call_len (by rfl) T.len PySem.boot_len (pa_cons (pv 0) pa_nil)) (pe_callB call_len (by rfl) T.len PySem.boot_len (pa_cons (pv 1) pa_nil)) (nomark _))
          (pe_one (pe_callB (cr_all rfl) (by rfl) T.all (by decide +kernel) (pa_cons (pe_lc (own := [("_law_x", 2), ("_law_y", 3)]) (g := gPair K 2 3) (tt := tYes) (te := tCall spSame0 [] E0 (tCons (tVar 2) (tCons (tVar 3) tNil))) rfl sc_same.nd (pi_zip (by rfl) T.zip (pa_cons (pv 0) (pa_cons (pv 1) pa_nil))) (blkOk_by (N := nS) (sc := defScope s__law_same) (by decide +kernel))
            (fun _ _ _ _ _ => pg_tup rfl (pgs_cons (pg_name (i := 2) sc_same.nd rfl (Or.inl rfl)) (pgs_cons (pg_name (i := 3) sc_same.nd rfl (Or.inl rfl)) pgs_nil))) (fun _ _ _ _ _ => pts_nil) (fun _ _ _ _ _ => pe_call GR hr (by rfl) mR kR bR .nil pass0 (pa_cons (pv 2) (pa_cons (pv 3) pa_nil)))) pa_nil)))))))
        pss_nil)
      (pss_cons ps_never (pss_cons ps_never (pss_one ps_never))), ?_⟩
    have t1 : ∀ {G}, Ex H G → TyX K G (.ref a) (.type "list") := fun e => .base (.lst (e _ _ ha))
    have t2 : ∀ {G}, Ex H G → TyX K G (.ref b) (.type "list") := fun e => .base (.lst (e _ _ hb))
    refine q_if (b := true) (et_B (ev_isi2 (m := "list") (b1 := true) (b2 := false) (ev_var rfl) (t2 (Ex.refl _)) (by decide +kernel) (by decide +kernel))) (fun _ H1 e1 => ?_) (fun z => nomatch z)
    refine q_when (b := false) (et_or (a := false) (et_test (ev_op (ev_isi (b := true) (ev_var rfl) (t1 e1) (by decide +kernel)) (ev_isi (b := true) (ev_var rfl) (t2 e1) (by decide +kernel)) rv_neB)) fun _ => et_test (ev_op (ev_isi (b := false) (ev_var rfl) (t1 e1) (by decide +kernel)) (ev_isi (b := false) (ev_var rfl) (t2 e1) (by decide +kernel)) rv_neB)) (fun z => nomatch z) fun _ H2 e2 => ?_
    have e02 := e1.trans e2
    have ha2 := e02 _ _ ha
    have hb2 := e02 _ _ hb
    refine s_ret (ev_andV (a := true) (b := true) (ev_is (ev_op (ev_lenL (ev_var rfl) (sq_of ha2)) (ev_lenL (ev_var rfl) (sq_of hb2)) (rv_eq rfl)) (by simp)) fun _ G1 g1 Q1 q1 => ?_) fun H3 e3 => k H3 (e02.trans e3)
    refine ⟨_, rfl, _, rfl, a, b, _, _, rfl, sq_of (g1 _ _ ha2), sq_of (g1 _ _ hb2), fun Dl hD => lc_it (walk_zip (K := K) (a := a) (b := b) (xs := xs.map V.str) (ys := xs.map V.str) rfl) (fun i G => Ex G1 G ∧ G Dl = some (.lst ((List.replicate i true).map V.bl))) ⟨Ex.new hD, upd_same⟩ (fun i G _ c => ⟨sq_of (c.1 _ _ (g1 _ _ ha2)), sq_of (c.1 _ _ (g1 _ _ hb2))⟩) ?_ ?_⟩
    · rintro i x G G' hi ⟨c1, c2⟩ ⟨t, x1, x2, rfl, ht, rfl, hx1, hx2⟩
      have hxx : x1 = x2 := by
        have h1 : (xs.map V.str)[i]? = some x1 := hx1
        have h2 : (xs.map V.str)[i]? = some x2 := hx2
        rw [h1] at h2
        exact Option.some.inj h2
      subst hxx
      have hx3 : (xs.map V.str)[i]? = some x1 := hx1
      rw [List.getElem?_map] at hx3
      obtain ⟨s, hs, rfl⟩ := Option.map_eq_some_iff.mp hx3
      have eT : Ex G (upd G t (.tup [.str s, .str s])) := Ex.new ht
      refine ⟨t, _, rfl, st_of upd_same, rfl, _, _, rfl, _, _, rfl, rfl, rfl, ?_⟩
      unfold tYes
      dsimp only
      rw [if_pos rfl]
      refine ⟨_, rfl, _, rfl, s, rfl, fun G3 g3 => ⟨_, g3 _ _ (eT _ _ c2), sz_lt (by simp at hi ⊢; omega), Ex.mut ((c1.trans eT).trans g3) hD, ?_⟩⟩
      rw [upd_same, List.replicate_succ']
      simp
    · rintro G ⟨c1, c2⟩
      refine ⟨Dl, _, rfl, sq_of c2, ?_⟩
      have hall : ∀ n : Nat, (List.replicate n true).all id = true := by
        intro n
        induction n with
        | zero => rfl
        | succ n ih => rw [List.replicate_succ, List.all_cons, ih]; rfl
      rw [hall]
      exact q1 G c1
end
end K29

set_option Elab.async false
set_option linter.all false
set_option maxRecDepth 100000
set_option maxHeartbeats 4000000
/-! The order of words: it is one. -/
namespace K29
open PySem PySem.Spec PyProof.Rows L2 Evl
variable {rs : List (Str × Int)}
theorem rk_inj (hN : AllN rs) {x y : Str} (hx : x ∈ N5) (hy : y ∈ N5) (h : rk rs x = rk rs y) : x = y := by
  have h1 := (rk_at (hN x hx)).1
  have h2 := (rk_at (hN y hy)).1
  rw [h] at h1
  rw [h1] at h2
  exact Option.some.inj h2
theorem topB_iff {x y : Wd} {c : Bool} : topB rs x y c = true ↔ wt rs y < wt rs x ∨ (wt rs x = wt rs y ∧ (x.nm ≠ y.nm ∧ rk rs y.nm < rk rs x.nm ∨ x.nm = y.nm ∧ c = true)) := by
  unfold topB
  by_cases h1 : wt rs x = wt rs y
  · rw [if_neg (fun q => q h1)]
    by_cases h2 : x.nm = y.nm
    · rw [if_neg (fun q => q h2)]
      constructor
      · exact fun h => .inr ⟨h1, .inr ⟨h2, h⟩⟩
      · rintro (h | ⟨_, (⟨h, _⟩ | ⟨_, h⟩)⟩)
        · omega
        · exact absurd h2 h
        · exact h
    · rw [if_pos h2]
      constructor
      · exact fun h => .inr ⟨h1, .inl ⟨h2, of_decide_eq_true h⟩⟩
      · rintro (h | ⟨_, (⟨_, h⟩ | ⟨h, _⟩)⟩)
        · omega
        · exact decide_eq_true h
        · exact absurd h h2
  · rw [if_pos h1]
    constructor
    · exact fun h => .inl (of_decide_eq_true h)
    · rintro (h | ⟨h, _⟩)
      · exact decide_eq_true h
      · exact absurd h h1
theorem topB_trans (hN : AllN rs) {x y z : Wd} {c1 c2 c3 : Bool} (h1 : topB rs x y c1 = true) (h2 : topB rs y z c2 = true) (h : x.nm = y.nm → y.nm = z.nm → c1 = true → c2 = true → c3 = true) : topB rs x z c3 = true := by
  rw [topB_iff] at h1 h2 ⊢
  rcases h1 with h1 | ⟨w1, h1⟩
  · rcases h2 with h2 | ⟨w2, h2⟩
    · exact .inl (by omega)
    · exact .inl (by omega)
  · rcases h2 with h2 | ⟨w2, h2⟩
    · exact .inl (by omega)
    · refine .inr ⟨by omega, ?_⟩
      rcases h1 with ⟨n1, r1⟩ | ⟨n1, r1⟩
      · rcases h2 with ⟨n2, r2⟩ | ⟨n2, r2⟩
        · exact .inl ⟨fun q => by rw [q] at r1; omega, by omega⟩
        · rw [← n2]
          exact .inl ⟨n1, r1⟩
      · rcases h2 with ⟨n2, r2⟩ | ⟨n2, r2⟩
        · rw [n1]
          exact .inl ⟨n2, r2⟩
        · exact .inr ⟨n1.trans n2, h n1 n2 r1 r2⟩
theorem lexd_trans {g : Wd → Wd → Bool} : ∀ {as bs cs : List Wd}, as.length = bs.length → bs.length = cs.length → (∀ a ∈ as, ∀ b c, g a b = true → g b c = true → g a c = true) → (∀ a, g a a = false) → lexd g as bs = true → lexd g bs cs = true → lexd g as cs = true
  | [], _, _, _, _, _, _, h, _ => by simp [lexd] at h
  | a :: as, [], _, hl, _, _, _, _, _ => by simp at hl
  | a :: as, b :: bs, [], _, hl, _, _, _, _ => by simp at hl
  | a :: as, b :: bs, c :: cs, l1, l2, ht, hi, h1, h2 => by
    simp only [lexd] at h1 h2 ⊢
    by_cases e1 : a = b
    · subst e1
      rw [if_pos rfl] at h1
      by_cases e2 : a = c
      · subst e2
        rw [if_pos rfl] at h2 ⊢
        exact lexd_trans (by simpa using l1) (by simpa using l2) (fun x hx => ht x (List.mem_cons_of_mem _ hx)) hi h1 h2
      · rw [if_neg e2] at h2 ⊢
        exact h2
    · rw [if_neg e1] at h1
      by_cases e2 : b = c
      · subst e2
        rw [if_neg e1]
        exact h1
      · rw [if_neg e2] at h2
        have h3 := ht a (by simp) b c h1 h2
        have e3 : a ≠ c := by
          intro q
          subst q
          rw [hi] at h3
          cases h3
        rw [if_neg e3]
        exact h3
theorem abv_trans (hN : AllN rs) : ∀ (n : Nat) (x y z : Wd), x.dp < n → abv rs x y = true → abv rs y z = true → abv rs x z = true
  | 0, _, _, _, h, _, _ => absurd h (Nat.not_lt_zero _)
  | n + 1, x, y, z, h, h1, h2 => by
    rw [abv_eq] at h1 h2 ⊢
    refine topB_trans hN h1 h2 fun n1 n2 c1 c2 => ?_
    exact lexd_trans (nm_args n1).1 (nm_args n2).1 (fun a ha b c => abv_trans hN n a b c (by have := dp_args ha; omega)) (abv_self rs) c1 c2
theorem lexd_total {g : Wd → Wd → Bool} : ∀ {as bs : List Wd}, as.length = bs.length → as ≠ bs → (∀ a ∈ as, ∀ b, a ≠ b → g a b = true ∨ g b a = true) → lexd g as bs = true ∨ lexd g bs as = true
  | [], [], _, h, _ => absurd rfl h
  | [], _ :: _, h, _, _ => by simp at h
  | _ :: _, [], h, _, _ => by simp at h
  | a :: as, b :: bs, hl, hn, ht => by
    simp only [lexd]
    by_cases e : a = b
    · subst e
      rw [if_pos rfl, if_pos rfl]
      exact lexd_total (by simpa using hl) (fun q => hn (by rw [q])) fun x hx => ht x (List.mem_cons_of_mem _ hx)
    · rw [if_neg e, if_neg fun q => e q.symm]
      exact ht a (by simp) b e
theorem abv_total (hN : AllN rs) : ∀ (n : Nat) (x y : Wd), x.dp < n → x ≠ y → abv rs x y = true ∨ abv rs y x = true
  | 0, _, _, h, _ => absurd h (Nat.not_lt_zero _)
  | n + 1, x, y, h, hne => by
    rw [abv_eq rs x y, abv_eq rs y x, topB_iff, topB_iff]
    by_cases w1 : wt rs x < wt rs y
    · exact .inr (.inl w1)
    by_cases w2 : wt rs y < wt rs x
    · exact .inl (.inl w2)
    have we : wt rs x = wt rs y := by omega
    by_cases e : x.nm = y.nm
    · obtain ⟨l, i⟩ := nm_args e
      rcases lexd_total l (fun q => hne (i q)) (fun a ha b hab => abv_total hN n a b (by have := dp_args ha; omega) hab) with q | q
      · exact .inl (.inr ⟨we, .inr ⟨e, q⟩⟩)
      · exact .inr (.inr ⟨we.symm, .inr ⟨e.symm, q⟩⟩)
    · have hr : rk rs x.nm ≠ rk rs y.nm := fun q => e (rk_inj hN (nm5 x) (nm5 y) q)
      by_cases r1 : rk rs x.nm < rk rs y.nm
      · exact .inr (.inr ⟨we.symm, .inl ⟨fun q => e q.symm, r1⟩⟩)
      · exact .inl (.inr ⟨we, .inl ⟨e, by omega⟩⟩)
theorem abv_asym (hN : AllN rs) {x y : Wd} (h : abv rs x y = true) : abv rs y x = false := by
  cases q : abv rs y x with
  | false => rfl
  | true =>
    have h1 := abv_trans hN (x.dp + 1) x y x (Nat.lt_succ_self _) h q
    rw [abv_self] at h1
    cases h1
/-! ### sorted by putting in -/
def below (rs : List (Str × Int)) (l : List Wd) (w : Wd) : Nat := (l.filter (abv rs w)).length
def ins (rs : List (Str × Int)) (l : List Wd) (w : Wd) : List Wd := l.take (below rs l w) ++ [w] ++ l.drop (below rs l w)
def sortW (rs : List (Str × Int)) (ws : List Wd) : List Wd := ws.foldl (ins rs) []
def Asc (rs : List (Str × Int)) (l : List Wd) : Prop := l.Pairwise fun x y => abv rs y x = true
theorem ins_perm (l : List Wd) (w : Wd) : (ins rs l w).Perm (w :: l) := by
  unfold ins
  have h : (l.take (below rs l w) ++ [w] ++ l.drop (below rs l w)).Perm (w :: (l.take (below rs l w) ++ l.drop (below rs l w))) := by
    rw [List.append_assoc]
    exact List.perm_middle
  rw [List.take_append_drop] at h
  exact h
theorem ins_asc (hN : AllN rs) : ∀ {l : List Wd} {w : Wd}, Asc rs l → w ∉ l → Asc rs (ins rs l w)
  | [], w, _, _ => by
    show Asc rs [w]
    exact List.pairwise_singleton _ _
  | x :: l, w, h, hw => by
    have hx := List.pairwise_cons.mp h
    have hxw : w ≠ x := fun q => hw (by simp [q])
    have hwl : w ∉ l := fun q => hw (by simp [q])
    cases q : abv rs w x with
    | true =>
      have e : ins rs (x :: l) w = x :: ins rs l w := by
        unfold ins below
        rw [List.filter_cons, if_pos q]
        rfl
      rw [e]
      refine List.pairwise_cons.mpr ⟨fun y hy => ?_, ins_asc hN hx.2 hwl⟩
      have hy2 := (ins_perm (rs := rs) l w).mem_iff.mp hy
      rcases List.mem_cons.mp hy2 with rfl | hy3
      · exact q
      · exact hx.1 y hy3
    | false =>
      have hxw2 : abv rs x w = true := by
        rcases abv_total hN (w.dp + 1) w x (Nat.lt_succ_self _) hxw with z | z
        · rw [q] at z
          cases z
        · exact z
      have all : ∀ y ∈ x :: l, abv rs y w = true := by
        intro y hy
        rcases List.mem_cons.mp hy with rfl | hy
        · exact hxw2
        · exact abv_trans hN (y.dp + 1) y x w (Nat.lt_succ_self _) (hx.1 y hy) hxw2
      have e0 : below rs (x :: l) w = 0 := by
        unfold below
        rw [List.filter_eq_nil_iff.mpr fun y hy z => ?_]
        · rfl
        · rw [abv_asym hN (all y hy)] at z
          cases z
      unfold ins
      rw [e0]
      show Asc rs (w :: x :: l)
      exact List.pairwise_cons.mpr ⟨all, h⟩
theorem sortW_perm (ws : List Wd) : (sortW rs ws).Perm ws := by
  unfold sortW
  have key : ∀ (ws l : List Wd), (ws.foldl (ins rs) l).Perm (ws ++ l) := by
    intro ws
    induction ws with
    | nil => intro l; exact List.Perm.refl _
    | cons w ws ih =>
      intro l
      refine (ih (ins rs l w)).trans (((ins_perm l w).append_left ws).trans ?_)
      exact List.perm_middle
  have h := key ws []
  rw [List.append_nil] at h
  exact h
theorem sortW_asc (hN : AllN rs) {ws : List Wd} (nd : ws.Nodup) : Asc rs (sortW rs ws) := by
  unfold sortW
  have key : ∀ (ws l : List Wd), ws.Nodup → Asc rs l → (∀ w ∈ ws, w ∉ l) → Asc rs (ws.foldl (ins rs) l) := by
    intro ws
    induction ws with
    | nil => intro l _ h _; exact h
    | cons w ws ih =>
      intro l nd h hd
      have nd2 := List.nodup_cons.mp nd
      refine ih _ nd2.2 (ins_asc hN h (hd w (by simp))) fun y hy hm => ?_
      rcases List.mem_cons.mp ((ins_perm (rs := rs) l w).mem_iff.mp hm) with rfl | q
      · exact nd2.1 hy
      · exact hd y (by simp [hy]) q
  exact key ws [] nd List.Pairwise.nil fun _ _ => by simp
end K29

set_option Elab.async false
set_option linter.all false
set_option maxRecDepth 100000
set_option maxHeartbeats 4000000
/-! The law's sorted words; a row down. -/
namespace K29
open PySem PySem.Spec PyProof.Rows L2 Evl
/-- small words -/
def Sml (w : Wd) : Prop := w.dp < 7 ∧ w.sz ≤ 900
section
variable {K : PySem.W.Frag} {σ : L2.St} {H G : Hp} {te ta tb tl tk tx : TE} {tt : TT} {v : V} {D : Ends} {tu tz : TS}
/-- xs.insert(i, e) -/
theorem s_insert {l : Addr} {xs : List V} {i : Nat} (hl : H l = some (.lst xs)) (ha : Ev ta σ H (.ref l)) (hi : Ev tb σ H (.int i)) (h : Ev te σ H v) (hz : xs.length < 1000) (hi2 : i ≤ 1000) (k : ∀ H1, Ex H H1 → D.nx σ (upd H1 l (.lst (xs.take i ++ [v] ++ xs.drop i)))) :
    tDrop (tBM K "list" (fun x vs H Q => ∃ (l : Addr) (xs : List V) (i : Int) (y : V), x = .ref l ∧ vs = [.int i, y] ∧ H l = some (.lst xs) ∧ xs.length < sizeLine ∧ 0 ≤ i ∧ i < 2 ^ 63 ∧ Q .non (upd H l (.lst (xs.take i.toNat ++ [y] ++ xs.drop i.toNat)))) ta (tCons tb (tCons te tNil))) D σ H := ha H (Ex.refl H) _ fun H1 e1 =>
  ⟨Or.inl ⟨rfl, xs, sq_of (e1 l _ hl)⟩, hi H1 e1 _ fun H2 e2 => h H2 (e1.trans e2) _ fun H3 e3 => ⟨l, xs, i, v, rfl, rfl, ((e1.trans e2).trans e3) l _ hl, sz_lt (by omega), by omega, by omega, k H3 ((e1.trans e2).trans e3)⟩⟩
end
theorem WVs.take {H : Hp} {n : Nat} : ∀ {ws : List Wd} {vs : List V}, WVs H vs ws → WVs H (vs.take n) (ws.take n) := by
  induction n with
  | zero => intro ws vs _; exact trivial
  | succ n ih =>
    intro ws vs h
    match ws, vs, h with
    | [], [], _ => exact trivial
    | _ :: _, _ :: _, h => exact ⟨h.1, ih h.2⟩
theorem WVs.drop {H : Hp} {n : Nat} : ∀ {ws : List Wd} {vs : List V}, WVs H vs ws → WVs H (vs.drop n) (ws.drop n) := by
  induction n with
  | zero => intro ws vs h; exact h
  | succ n ih =>
    intro ws vs h
    match ws, vs, h with
    | [], [], _ => exact trivial
    | _ :: _, _ :: _, h => exact ih h.2
theorem given_len_eq (n : Nat) (f : Nat → Bool) (v : Nat → V) : (given n f v).length = ((List.range n).filter f).length := by
  unfold given
  rw [List.length_map]
def atP (p : Wd → Bool) (ws : List Wd) (i : Nat) : Bool := match ws[i]? with
  | some x => p x
  | none => false
theorem filter_range_take (p : Wd → Bool) (ws : List Wd) : ∀ n : Nat, n ≤ ws.length → ((List.range n).filter (atP p ws)).length = ((ws.take n).filter p).length
  | 0, _ => by simp
  | n + 1, h => by
    have ih := filter_range_take p ws n (by omega)
    have hn : ws[n]? = some ws[n] := by simp
    rw [List.range_succ, List.filter_append, List.length_append, ih, List.take_succ, hn, List.filter_append, List.length_append]
    congr 1
    have e : atP p ws n = p ws[n] := by
      unfold atP
      rw [hn]
    cases q : p ws[n] with
    | true => simp [e, q]
    | false => simp [e, q]
theorem filter_range_len (p : Wd → Bool) (ws : List Wd) : ((List.range ws.length).filter (atP p ws)).length = (ws.filter p).length := by
  rw [filter_range_take p ws ws.length (Nat.le_refl _), List.take_length]
section
variable {P : Program} {w : World} {K : PySem.W.Frag} {mg : Str → Option Value} {base : Heap} {C : Addr}
def spSo (K : PySem.W.Frag) : Sp := fun vs H Q _ => ∃ a c xs rs us ws, vs = [.ref a, .ref c] ∧ H a = some (.lst xs) ∧ RVs H xs rs ∧ RowsOk rs ∧ AllN rs ∧ H c = some (.lst us) ∧ WVs H us ws ∧ (∀ z ∈ ws, Sml z) ∧ ws.length ≤ 100 ∧
  ∀ p vs' G, H p = none → Ex H G → G p = some (.lst vs') → WVs G vs' (sortW rs ws) → Q (.ref p) G
abbrev nSo : List Str := ["_law_rows", "_law_words", "_law_found", "_law_word", "_law_at", "_law_one"]
theorem sc_so : FnScope nSo ["_law_rows", "_law_words"] (defScope s__law_sorted) := ⟨rfl, rfl, rfl, by decide +kernel, rfl, by decide +kernel, by decide +kernel⟩
theorem ok_sorted (T : T29 P w K mg base) : Ok P w K mg base "_law_sorted" ["_law_rows", "_law_words"] 21 (spSo K) := by
  obtain ⟨fA, dA, GA, bA, kA, mA⟩ := (ok_d_above T 8).ex
  refine T.ok 34 rfl sc_so (fun vs H Q E h => ?_) (fun kV doc pm an cdv ct us hl => match us, hl with | [_, _], _ => rfl) (fun f cdv A outer s H vs Q E hr h => ?_)
  · obtain ⟨a, c, xs, rs, us, ws, rfl, _⟩ := h
    rfl
  · obtain ⟨a, c, xs, rs, us, ws, rfl, ha, hR, R, hN, hc, hW, hS, hl, k⟩ := h
    refine ⟨_, pss_cons (ps_set (i := 2) sc_so.nd rfl (Or.inl rfl) (pe_lst pa_nil))
      (pss_cons (ps_for PassesOwn.never rfl (pi_list (pv 1)) (pg_name (i := 3) sc_so.nd rfl (Or.inr rfl))
        (pss_cons (ps_set (i := 4) sc_so.nd rfl (Or.inl rfl) (pe_callB call_len_seq (by rfl) T.len PySem.boot_len (pa_cons (pe_lc (own := [("_law_one", 5)]) (g := gName 5) (tt := tB (tCall (spDA 8) [] E0 (tCons (tVar 0) (tCons (tVar 3) (tCons (tVar 5) tNil))))) (te := tVar 5) rfl sc_so.nd (pi_list (pv 2)) (blkOk_by (N := nSo) (sc := defScope s__law_sorted) (by decide +kernel))
            (fun _ _ _ _ _ => pg_name (i := 5) sc_so.nd rfl (Or.inl rfl)) (fun _ _ _ _ _ => pts_one (pt_val (pe_call GA hr (by rfl) mA kA bA .nil pass0 (pa_cons (pv 0) (pa_cons (pv 3) (pa_cons (pv 5) pa_nil)))))) (fun _ _ _ _ _ => pv 5)) pa_nil)))
        (pss_one (ps_expr (pe_bm PySem.F.plainAttrs_list PySem.F.slot_list_insert PySem.F.type_list_insert mt_insert (pv 2) (pa_cons (pv 4) (pa_cons (pv 3) pa_nil)))))))
      (pss_one (ps_ret (pv 2)))), ?_⟩
    refine q_asgL (el_lst ea_nil (by show 0 ≤ 100000; decide)) fun p H1 hp e1 h1 => ?_
    refine q_forLn (ev_var rfl) (sq_of (e1 _ _ hc)) (fun i σ' H' => Ex H H' ∧ (∃ o1 o2 : Option V, σ' = [some (.ref a), some (.ref c), some (.ref p), o1, o2, none]) ∧ ∃ ys, H' p = some (.lst ys) ∧ WVs H' ys (sortW rs (ws.take i))) ?_ ?_ ?_ ?_
    · exact fun H2 e2 => ⟨e1.trans e2, ⟨none, none, rfl⟩, [], e2 _ _ h1, trivial⟩
    · exact fun i σ' H' _ z => sq_of (z.1 _ _ hc)
    · rintro i x σ' H' hx ⟨e, ⟨o1, o2, rfl⟩, ys, hp2, hY⟩
      obtain ⟨z, hz, hwz⟩ := (hW.ext e).get hx
      have hzm := List.mem_of_getElem? hz
      have hil : i < ws.length := (List.getElem?_eq_some_iff.mp hz).1
      have hyl := hY.length
      have hsp := sortW_perm (rs := rs) (ws.take i)
      have hsl : (sortW rs (ws.take i)).length = i := by rw [hsp.length_eq, List.length_take]; omega
      refine q_asg (v := .int (below rs (sortW rs (ws.take i)) z : Nat)) ?_ fun H2 e2 => ?_
      · have g := ev_lenN (K := K) (el_lcL (K := K) (tl := tVar 2) (te := tVar 5) (t := tB (tCall (spDA 8) [] E0 (tCons (tVar 0) (tCons (tVar 3) (tCons (tVar 5) tNil))))) (j := 5) (vs := [5]) (σ := [some (.ref a), some (.ref c), some (.ref p), some x, o2, none]) (H := H') (atP (abv rs z) (sortW rs (ws.take i))) (fun j => ys.getD j .non) (ev_var rfl) (sq_of hp2) (by omega) (fun _ => rfl) (fun j y G g hy => ?_) (fun j y G g hy _ => ?_))
        · have eq : (given ys.length (atP (abv rs z) (sortW rs (ws.take i))) fun j => ys.getD j .non).length = below rs (sortW rs (ws.take i)) z := by
            rw [given_len_eq, hyl, filter_range_len]
            rfl
          rw [eq] at g
          exact g
        · obtain ⟨z2, hz2, hwz2⟩ := (hY.ext g).get hy
          have e3 : atP (abv rs z) (sortW rs (ws.take i)) j = abv rs z z2 := by
            unfold atP
            rw [hz2]
          rw [e3]
          have hm2 : z2 ∈ ws := List.mem_of_mem_take (hsp.mem_iff.mp (List.mem_of_getElem? hz2))
          refine et_B (ev_call (ea_cons (ev_var rfl) (ea_cons (ev_var rfl) (ea_cons (ev_var rfl) ea_nil))) fun G2 g2 Q2 q2 E2 => ⟨a, xs, rs, x, y, z, z2, rfl, ((e.trans g).trans g2) _ _ ha, hR.ext ((e.trans g).trans g2), R, hN, hwz.ext (g.trans g2), hwz2.ext g2, by have := (hS z hzm).1; omega, by have := (hS z hzm).1; omega, by have := (hS z2 hm2).1; omega, by have := (hS z hzm).2; omega, by have := (hS z2 hm2).2; omega, q2⟩)
        · have e3 : ys.getD j .non = y := by rw [List.getD, hy]; rfl
          rw [e3]
          exact ev_var rfl
      · have hb : below rs (sortW rs (ws.take i)) z ≤ i := by
          unfold below
          have := List.length_filter_le (abv rs z) (sortW rs (ws.take i))
          omega
        refine s_insert (e2 _ _ hp2) (ev_var rfl) (ev_var rfl) (ev_var rfl) (by omega) (by omega) fun H3 e3 => ?_
        have t4 : Tx H' (upd H3 p (.lst (ys.take (below rs (sortW rs (ws.take i)) z) ++ [x] ++ ys.drop (below rs (sortW rs (ws.take i)) z)))) := (Tx.of (e2.trans e3)).trans (Tx.lst (e3 _ _ (e2 _ _ hp2)))
        refine ⟨Ex.mut ((e.trans e2).trans e3) (fresh_back (Ex.refl _) hp), ⟨_, _, rfl⟩, _, upd_same, ?_⟩
        have e5 : sortW rs (ws.take (i + 1)) = ins rs (sortW rs (ws.take i)) z := by
          rw [List.take_succ, hz]
          unfold sortW
          rw [List.foldl_append]
          rfl
        rw [e5]
        unfold ins
        exact ((hY.take.tx t4).append (WVs.one (hwz.tx t4))).append (hY.drop.tx t4)
    · rintro σ' H' ⟨e, ⟨o1, o2, rfl⟩, ys, hp2, hY⟩
      have hul := hW.length
      rw [hul, List.take_length] at hY
      exact s_ret (ev_var rfl) fun H2 e2 => k p ys H2 (fresh_back (Ex.refl _) hp) (e.trans e2) (e2 _ _ hp2) (hY.ext e2)
end
end K29

set_option Elab.async false
set_option linter.all false
set_option maxRecDepth 100000
set_option maxHeartbeats 4000000
/-! A row down. -/
namespace K29
open PySem PySem.Spec PyProof.Rows L2 Evl
theorem filter_lt {α : Type} {p q : α → Bool} : ∀ {l : List α}, (∀ x ∈ l, p x = true → q x = true) → (∃ y ∈ l, q y = true ∧ p y = false) → (l.filter p).length < (l.filter q).length
  | [], _, ⟨y, hy, _⟩ => by simp at hy
  | x :: l, h, ⟨y, hy, hq, hp⟩ => by
    have hle : ∀ l : List α, (∀ x ∈ l, p x = true → q x = true) → (l.filter p).length ≤ (l.filter q).length := by
      intro l
      induction l with
      | nil => intro _; exact Nat.le_refl _
      | cons x l ih =>
        intro h
        have i := ih fun z hz => h z (List.mem_cons_of_mem _ hz)
        have hx := h x (by simp)
        cases e : p x with
        | true => simp [e, hx e, i]
        | false =>
          cases e2 : q x with
          | true => simp [e, e2]; omega
          | false => simp [e, e2, i]
    have hl := hle l fun z hz => h z (List.mem_cons_of_mem _ hz)
    rcases List.mem_cons.mp hy with rfl | hy2
    · simp [hp, hq]
      omega
    · have i := filter_lt (fun z hz => h z (List.mem_cons_of_mem _ hz)) ⟨y, hy2, hq, hp⟩
      have hx := h x (by simp)
      cases e : p x with
      | true => simp [e, hx e, i]
      | false =>
        cases e2 : q x with
        | true => simp [e, e2]; omega
        | false => simp [e, e2, i]
variable {rs : List (Str × Int)}
def cnt (rs : List (Str × Int)) (ws : List Wd) (z : Wd) : Nat := (ws.filter (abv rs z)).length
theorem cnt_lt (hN : AllN rs) {ws : List Wd} {y z : Wd} (h : abv rs z y = true) (hy : y ∈ ws) : cnt rs ws y < cnt rs ws z :=
  filter_lt (fun x _ hx => abv_trans hN (z.dp + 1) z y x (Nat.lt_succ_self _) h hx) ⟨y, hy, h, abv_self rs y⟩
theorem cnt_top (hN : AllN rs) {ws : List Wd} {z : Wd} (hz : z ∈ ws) : cnt rs ws z + 1 ≤ ws.length := by
  have h := filter_lt (p := abv rs z) (q := fun _ => true) (l := ws) (fun _ _ _ => rfl) ⟨z, hz, rfl, abv_self rs z⟩
  have e : ws.filter (fun _ => true) = ws := List.filter_eq_self.mpr fun _ _ => rfl
  rw [e] at h
  exact h
theorem cmp_above {x y : Wd} : decide (V.str (cmpS rs x y) = V.str "above") = abv rs x y := by
  have n1 : ¬ (("same" : Str) = "above") := by decide +kernel
  have n2 : ¬ (("below" : Str) = "above") := by decide +kernel
  have n3 : ¬ (("none" : Str) = "above") := by decide +kernel
  unfold cmpS
  by_cases e : x = y
  · subst e
    rw [if_pos rfl, abv_self]
    exact decide_eq_false fun q => n1 (V.str.inj q)
  · rw [if_neg e]
    cases h : abv rs x y with
    | true =>
      rw [if_pos rfl]
      exact decide_eq_true rfl
    | false =>
      rw [if_neg (by decide)]
      cases h2 : abv rs y x with
      | true =>
        rw [if_pos rfl]
        exact decide_eq_false fun q => n2 (V.str.inj q)
      | false =>
        rw [if_neg (by decide)]
        exact decide_eq_false fun q => n3 (V.str.inj q)
theorem dpall_w {K : PySem.W.Frag} {H : Hp} : ∀ {ws : List Wd} {vs : List V}, WVs H vs ws → DpAll K H vs (ws.map Wd.dat)
  | [], [], _ => .nil
  | _ :: _, _ :: _, h => .cons (WV.dp h.1) (dpall_w h.2)
theorem shaped_ws {ws : List Wd} (h : ∀ w ∈ ws, Sml w) : SeqAt.shaped (.list (ws.map Wd.dat)) = true := by
  show (PyData.canLay0 (.list (ws.map Wd.dat)) && decide (PyData.depth (.list (ws.map Wd.dat)) ≤ 64)) = true
  have h1 : PyData.canLayAll0 (ws.map Wd.dat) = true := by
    clear h
    induction ws with
    | nil => simp [PyData.canLayAll0]
    | cons x xs ih => simp [PyData.canLayAll0, dat_lay, ih]
  have h2 : PyData.depthAll (ws.map Wd.dat) ≤ 20 := by
    clear h1
    induction ws with
    | nil => simp [PyData.depthAll]
    | cons x xs ih =>
      have := ih fun w hw => h w (by simp [hw])
      have h3 := (h x (by simp)).1
      simp only [List.map_cons, PyData.depthAll, dat_depth]
      omega
  rw [Bool.and_eq_true]
  refine ⟨by simp only [PyData.canLay0]; exact h1, decide_eq_true ?_⟩
  simp only [PyData.depth]
  omega
theorem WV.but {H G : Hp} {p q : Addr} {n : Int} (S : Spr H p q n) (B : But p q H G) : Tx H G := fun a xs h => by
  obtain ⟨ys, zs, h1, h2⟩ := S.lst
  exact B a _ (ne_of h h1 (by intro z; cases z)) (ne_of h h2 (by intro z; cases z)) h
theorem OrdAt.but {C : Addr} {H G : Hp} {p q o : Addr} {n : Int} (S : Spr H p q n) (B : But p q H G) (h : OrdAt C H o rs) : OrdAt C G o rs := by
  obtain ⟨ys, zs, g1, g2⟩ := S.lst
  obtain ⟨dx, dw, dk, fs, h1, h2, h3, h4, h5⟩ := h.ex
  exact ⟨dx, dw, dk, fs, B _ _ (ne_of h1 g1 (by intro z; cases z)) (ne_of h1 g2 (by intro z; cases z)) h1, h2, h3, B _ _ (ne_of h4 g1 (by intro z; cases z)) (ne_of h4 g2 (by intro z; cases z)) h4, B _ _ (ne_of h5 g1 (by intro z; cases z)) (ne_of h5 g2 (by intro z; cases z)) h5⟩
section
variable {P : Program} {w : World} {K : PySem.W.Frag} {mg : Str → Option Value} {base : Heap} {C : Addr}
def spDown (C : Addr) : Sp := fun vs H Q _ => ∃ p q o c n rs us ws, vs = [.ref p, .ref o, .ref c] ∧ Spr H p q n ∧ n < 90000 ∧ OrdAt C H o rs ∧ AllN rs ∧ H c = some (.lst us) ∧ c ≠ p ∧ c ≠ q ∧ WVs H us ws ∧ (∀ z ∈ ws, Sml z) ∧ ws ≠ [] ∧ ws.length ≤ 100 ∧
  ∀ (r : Int) (G : Hp) (n' : Int), r ≤ ws.length → Spr G p q n' → n' ≤ n + 200 → But p q H G → Q (.int r) G
abbrev nDn : List Str := ["_law_stream", "_law_order", "_law_words", "_law_many", "_law_here", "_law_k", "_law_lower", "_law_word"]
theorem sc_dn : FnScope nDn ["_law_stream", "_law_order", "_law_words"] (defScope s__law_down) := ⟨rfl, rfl, rfl, by decide +kernel, rfl, by decide +kernel, by decide +kernel⟩
theorem ok_down (T : TO P w K mg base C) : Ok P w K mg base "_law_down" ["_law_stream", "_law_order", "_law_words"] 21 (spDown C) := by
  obtain ⟨fC, dC, GC, bC, kC, mC⟩ := (ok_compare T).ex
  obtain ⟨fP, dP, GP, bP, kP, mP⟩ := (ok_pick T.toT29).ex
  refine T.ok 35 rfl sc_dn (fun vs H Q E h => ?_) (fun kV doc pm an cdv ct us hl => match us, hl with | [_, _, _], _ => rfl) (fun f cdv A outer s H vs Q E hr h => ?_)
  · obtain ⟨p, q, o, c, n, rs, us, ws, rfl, _⟩ := h
    rfl
  · obtain ⟨p, q, o, c, n, rs, us, ws, rfl, S, hn, ho, hN, hc, cp, cq, hW, hS, hne, hl, k⟩ := h
    have hr2 : Room 2 _ := hr.mono (by decide)
    refine ⟨_, pss_cons (ps_asg (pe_tup (pa_cons pe_int (pa_cons (pe_call GP hr2 (by rfl) mP kP bP .nil pass0 (pa_cons (pv 0) (pa_cons (pv 2) pa_nil))) pa_nil))) (pg_tup (by rfl) (pgs_cons (pg_name (i := 3) sc_dn.nd rfl (Or.inl rfl)) (pgs_cons (pg_name (i := 4) sc_dn.nd rfl (Or.inr rfl)) pgs_nil))))
      (pss_cons (ps_for PassesOwn.never rfl (pi_range1 (by rfl) T.range (pa_cons (pe_callB call_len (by rfl) T.len PySem.boot_len (pa_cons (pv 2) pa_nil)) pa_nil)) (pg_name (i := 5) sc_dn.nd rfl (Or.inl rfl))
        (pss_cons (ps_setLc (i := 6) (own := [("_law_word", 7)]) (g := gName 7) (tt := tTest (tOp rEq (tCall (spCmp C) [] E0 (tCons (tVar 1) (tCons (tVar 4) (tCons (tVar 7) tNil)))) (tC (.str "above")))) (te := tVar 7) (by rfl) sc_dn.nd rfl rfl (sw_true rfl rfl rfl (by decide +kernel)) (pi_list (pv 2)) (blkOk_by (N := nDn) (sc := defScope s__law_down) (by decide +kernel))
            (fun _ _ _ _ _ => pg_name (i := 7) sc_dn.nd rfl (Or.inl rfl)) (fun _ _ _ _ _ => pts_one (pt_cmpR op_eq (pe_call GC hr (by rfl) mC kC bC .nil pass0 (pa_cons (pv 1) (pa_cons (pv 4) (pa_cons (pv 7) pa_nil)))) pe_str (nomark _))) (fun _ _ _ _ _ => pv 7))
        (pss_cons (ps_set (i := 3) sc_dn.nd rfl (Or.inl rfl) (pe_op op_add (pv 3) pe_int))
        (pss_cons (ps_if (pt_cmpR (op_eqD hr.units) (pv 6) (pe_lst pa_nil) (nomark _)) (pss_one (ps_ret (pv 3))) pss_nil)
        (pss_one (ps_set (i := 4) sc_dn.nd rfl (Or.inr rfl) (pe_call GP hr2 (by rfl) mP kP bP .nil pass0 (pa_cons (pv 0) (pa_cons (pv 6) pa_nil)))))))))
      (pss_one (ps_ret (pe_op op_add (pe_callB call_len (by rfl) T.len PySem.boot_len (pa_cons (pv 2) pa_nil)) pe_int)))), ?_⟩
    have hul := hW.length
    have husne : us ≠ [] := fun z => hne (by rw [z] at hul; exact List.length_eq_zero_iff.mp hul.symm)
    refine ⟨_, rfl, _, rfl, p, q, c, n, us, rfl, S, by omega, hc, cp, cq, husne, by omega, fun y0 H1 hy0 S1 B1 => ⟨by show 2 ≤ sizeLine; decide, fun t ht => ?_⟩⟩
    have eT : Ex H1 (upd H1 t (.tup [.int 0, y0])) := Ex.new ht
    refine ⟨t, _, rfl, st_of upd_same, rfl, _, _, rfl, _, _, rfl, rfl, ?_⟩
    obtain ⟨j0, hj0⟩ := List.getElem?_of_mem hy0
    obtain ⟨z0, hz0, hwz0⟩ := hW.get hj0
    have hz0m := List.mem_of_getElem? hz0
    have B2 : But p q H (upd H1 t (.tup [.int 0, y0])) := B1.trans (But.of eT)
    refine q_forR1 (n := (us.length : Nat)) (ea_cons (ev_lenL (ev_var rfl) (sq_of (B2 _ _ cp cq hc))) ea_nil) (by omega) (fun i σ' G => But p q H G ∧ (∃ n', Spr G p q n' ∧ n ≤ n' ∧ n' ≤ n + 1 + i) ∧ ∃ (here : V) (z : Wd) (o5 o6 : Option V), σ' = [some (.ref p), some (.ref o), some (.ref c), some (.int i), some here, o5, o6, none] ∧ WV G here z ∧ z ∈ ws ∧ cnt rs ws z + i + 1 ≤ ws.length) ?_ ?_ ?_
    · intro H3 e3
      exact ⟨B2.trans (But.of e3), ⟨n + 1, S1.ext (eT.trans e3), by omega, by omega⟩, y0, z0, none, none, rfl, hwz0.tx ((WV.but S B2).trans (Tx.of e3)), hz0m, by have := cnt_top hN hz0m; omega⟩
    · rintro i σ' G hi ⟨B, ⟨n', Sn, h1, h2⟩, here, z, o5, o6, rfl, hz, hzm, hcnt⟩
      have hcG : G c = some (.lst us) := B _ _ cp cq hc
      have hoG : OrdAt C G o rs := ho.but S B
      have hWG : WVs G us ws := hW.tx (WV.but S B)
      refine q_asgL (xs := given us.length (atP (abv rs z) ws) fun j => us.getD j .non) (el_lcL (atP (abv rs z) ws) (fun j => us.getD j .non) (ev_var rfl) (sq_of hcG) (by omega) (fun _ => rfl) (fun j y G1 g hy => ?_) (fun j y G1 g hy _ => ?_)) fun lo H4 hlo e4 h4 => ?_
      · obtain ⟨z2, hz2, hwz2⟩ := (hWG.ext g).get hy
        have e3 : atP (abv rs z) ws j = abv rs z z2 := by
          unfold atP
          rw [hz2]
        rw [e3]
        have hm2 := List.mem_of_getElem? hz2
        refine et_is (et_test (ev_op (ev_call (ea_cons (ev_var rfl) (ea_cons (ev_var rfl) (ea_cons (ev_var rfl) ea_nil))) fun G2 g2 Q2 q2 E2 => ⟨o, rs, here, y, z, z2, rfl, hoG.ext (g.trans g2), hz.ext (g.trans g2), hwz2.ext g2, by have := (hS z hzm).1; omega, by have := (hS z2 hm2).1; omega, by have := (hS z hzm).2; omega, by have := (hS z2 hm2).2; omega, hN, q2⟩) ev_c (rv_eq rfl))) cmp_above
      · have e3 : us.getD j .non = y := by rw [List.getD, hy]; rfl
        rw [e3]
        exact ev_var rfl
      refine q_asg (ev_op (ev_var rfl) ev_c rv_I0) fun H5 e5 => ?_
      have e45 := e4.trans e5
      -- the words that are lower
      have hlow : ∀ y ∈ given us.length (atP (abv rs z) ws) fun j => us.getD j .non, ∃ z2, z2 ∈ ws ∧ abv rs z z2 = true ∧ WV G y z2 := by
        intro y hy
        unfold given at hy
        obtain ⟨j, hj, rfl⟩ := List.mem_map.mp hy
        obtain ⟨hjr, hjp⟩ := List.mem_filter.mp hj
        have hjl : j < us.length := List.mem_range.mp hjr
        have hju : us[j]? = some us[j] := by simp
        obtain ⟨z2, hz2, hwz2⟩ := hWG.get hju
        unfold atP at hjp
        rw [hz2] at hjp
        refine ⟨z2, List.mem_of_getElem? hz2, hjp, ?_⟩
        rw [List.getD, hju]
        exact hwz2
      have hlws : ∃ ls, WVs G (given us.length (atP (abv rs z) ws) fun j => us.getD j .non) ls ∧ (∀ z2 ∈ ls, z2 ∈ ws) := by
        generalize (given us.length (atP (abv rs z) ws) fun j => us.getD j .non) = l at hlow
        clear h4
        induction l with
        | nil => exact ⟨[], trivial, fun _ h => by simp at h⟩
        | cons y l ih =>
          obtain ⟨ls, i1, i2⟩ := ih fun y' hy' => hlow y' (by simp [hy'])
          obtain ⟨z2, a1, a2, a3⟩ := hlow y (by simp)
          exact ⟨z2 :: ls, ⟨a3, i1⟩, fun z3 h3 => by
            rcases List.mem_cons.mp h3 with rfl | h3
            · exact a1
            · exact i2 _ h3⟩
      obtain ⟨ls, hls, hlsm⟩ := hlws
      refine q_when (b := (given us.length (atP (abv rs z) ws) fun j => us.getD j .non).isEmpty) (et_test (ev_opL (xs := []) (ev_var rfl) (el_lst ea_nil (by show 0 ≤ 100000; decide)) fun pe G3 h3 g3 => fun G4 g4 Q4 q4 => ?_)) (fun hb H6 e6 => ?_) fun hb H6 e6 => ?_
      · refine ⟨.list (ls.map Wd.dat), .list [], .lst (sq_of (g4 _ _ (g3 _ _ (e5 _ _ h4)))) (dpall_w (hls.ext ((e45.trans g3).trans g4))), .lst (sq_of (g4 _ _ h3)) .nil, shaped_ws fun w hw => hS w (hlsm w hw), by decide +kernel, ?_⟩
        have hll := hls.length
        have e7 : PyData.eqv (.list (ls.map Wd.dat)) (.list []) = (given us.length (atP (abv rs z) ws) fun j => us.getD j .non).isEmpty := by
          revert hll
          generalize (given us.length (atP (abv rs z) ws) fun j => us.getD j .non) = l
          intro hll
          cases l with
          | nil =>
            have : ls = [] := List.length_eq_zero_iff.mp hll.symm
            subst this
            simp [PyData.eqv, PyData.eqvAll]
          | cons x l =>
            cases ls with
            | nil => simp at hll
            | cons y ls => simp [PyData.eqv, PyData.eqvAll]
        rw [e7]
        exact q4 G4 (Ex.refl _)
      · refine s_ret (ev_var rfl) fun H7 e7 => k _ H7 n' (by have := cnt_top hN hzm; omega) (Sn.ext ((e45.trans e6).trans e7)) (by omega) (B.trans (But.of ((e45.trans e6).trans e7)))
      · have e06 := e45.trans e6
        have hlo6 := e6 _ _ (e5 _ _ h4)
        obtain ⟨sx, sy, gp, gq⟩ := Sn.lst
        have lp : lo ≠ p := (ne_of_none gp hlo).symm
        have lq : lo ≠ q := (ne_of_none gq hlo).symm
        refine ⟨_, rfl, _, rfl, p, q, lo, n', _, rfl, Sn.ext e06, by omega, hlo6, lp, lq, fun z => ?_, ?_, fun y G7 hy S7 B7 => ?_⟩
        · rw [z] at hb
          cases hb
        · have := given_len us.length (atP (abv rs z) ws) fun j => us.getD j .non
          omega
        · obtain ⟨z2, a1, a2, a3⟩ := hlow y hy
          have := cnt_lt hN (ws := ws) a2 a1
          refine ⟨(B.trans (But.of e06)).trans B7, ⟨n' + 1, S7, by omega, by omega⟩, y, z2, _, _, rfl, (a3.ext e06).tx (WV.but (Sn.ext e06) B7), a1, by omega⟩
    · rintro σ' G ⟨B, _, here, z, o5, o6, rfl, hz, hzm, hcnt⟩
      have e : ((us.length : Nat) : Int).toNat = us.length := rfl
      rw [e] at hcnt
      omega
end
end K29

set_option Elab.async false
set_option linter.all false
set_option maxRecDepth 100000
set_option maxHeartbeats 4000000
/-! All words of a weight. -/
namespace K29
open PySem PySem.Spec PyProof.Rows L2 Evl
def nmJ : Nat → Str
  | 0 => "a" | 1 => "b" | 2 => "f" | _ => "g"
def arJ : Nat → Nat
  | 0 => 0 | 1 => 0 | 2 => 1 | _ => 2
def mkJ : Nat → List Wd → Wd
  | 0, _ => .a
  | 1, _ => .b
  | 2, [x] => .f x
  | 3, [x, y] => .g x y
  | _, _ => .a
def row2 (prev : Nat → List Wd) (left : Nat) : Nat → List (List Wd)
  | 0 => []
  | k + 1 => row2 prev left k ++ (prev (k + 1)).flatMap fun w => (prev (left - (k + 1))).map fun v => [w, v]
def rowsM (prev : Nat → List Wd) (m : Nat) (left : Int) : List (List Wd) := match m with
  | 0 => if left = 0 then [[]] else []
  | 1 => (prev left.toNat).map fun w => [w]
  | _ => row2 prev left.toNat (left.toNat - 1)
def wordsJ (wJ : Nat → Nat) (prev : Nat → List Wd) (n : Nat) (j : Nat) : List Wd := (rowsM prev (arJ j) ((n : Int) - (wJ j : Int))).map (mkJ j)
def wordsOf (wJ : Nat → Nat) (prev : Nat → List Wd) (n : Nat) : List Wd := wordsJ wJ prev n 0 ++ wordsJ wJ prev n 1 ++ wordsJ wJ prev n 2 ++ wordsJ wJ prev n 3
def ofF (wJ : Nat → Nat) : Nat → Nat → List Wd
  | 0, _ => []
  | k + 1, n => if n = 0 then [] else wordsOf wJ (ofF wJ k) n
def w4 (A B F G : Nat) : Nat → Nat
  | 0 => A | 1 => B | 2 => F | _ => G
def allW (wJ : Nat → Nat) : List Wd := ofF wJ 5 1 ++ ofF wJ 5 2 ++ ofF wJ 5 3 ++ ofF wJ 5 4
def okW (wJ : Nat → Nat) : Bool := decide (ofF wJ 5 0 = []) && ([1, 2, 3, 4] : List Nat).all (fun n => decide (ofF wJ 5 n = wordsOf wJ (ofF wJ 5) n)) && decide ((allW wJ).Nodup) && (allW wJ).all (fun w => decide (w.dp < 7 ∧ w.sz ≤ 900)) && decide ((allW wJ).length ≤ 60) && decide (allW wJ ≠ [])
theorem okW_all : ([1, 2] : List Nat).all (fun A => ([1, 2] : List Nat).all fun B => ([1, 2] : List Nat).all fun F => ([1, 2] : List Nat).all fun G => okW (w4 A B F G)) = true := by decide +kernel
structure OkW (wJ : Nat → Nat) : Prop where
  z : ofF wJ 5 0 = []
  eq : ∀ n, 1 ≤ n → n ≤ 4 → ofF wJ 5 n = wordsOf wJ (ofF wJ 5) n
  nd : (allW wJ).Nodup
  sml : ∀ w ∈ allW wJ, Sml w
  len : (allW wJ).length ≤ 60
  ne : allW wJ ≠ []
theorem okW_of {wJ : Nat → Nat} (h : okW wJ = true) : OkW wJ := by
  unfold okW at h
  simp only [Bool.and_eq_true, List.all_eq_true, decide_eq_true_eq] at h
  obtain ⟨⟨⟨⟨⟨h1, h2⟩, h3⟩, h4⟩, h5⟩, h6⟩ := h
  refine ⟨h1, fun n a b => h2 n ?_, h3, fun w hw => h4 w hw, h5, h6⟩
  have : n = 1 ∨ n = 2 ∨ n = 3 ∨ n = 4 := by omega
  rcases this with rfl | rfl | rfl | rfl <;> simp
theorem okW_four {A B F G : Nat} (a : A = 1 ∨ A = 2) (b : B = 1 ∨ B = 2) (f : F = 1 ∨ F = 2) (g : G = 1 ∨ G = 2) : OkW (w4 A B F G) := by
  refine okW_of ?_
  have h := okW_all
  simp only [List.all_eq_true] at h
  exact h A (by simpa using a) B (by simpa using b) F (by simpa using f) G (by simpa using g)
end K29

set_option Elab.async false
set_option linter.all false
set_option maxRecDepth 100000
set_option maxHeartbeats 4000000
/-! of_weight and rows_of. -/
namespace K29
open PySem PySem.Spec PyProof.Rows L2 Evl
/-- all but the dict at d stays -/
def Bd (d : Addr) (H G : Hp) : Prop := ∀ b o, b ≠ d → H b = some o → G b = some o
theorem Bd.of {d : Addr} {H G : Hp} (e : Ex H G) : Bd d H G := fun b o _ h => e b o h
theorem Bd.trans {d : Addr} {H G J : Hp} (a : Bd d H G) (b : Bd d G J) : Bd d H J := fun c o n h => b c o n (a c o n h)
/-- what is known of the weights so far -/
structure Kno (o : Nat → List Wd) (H : Hp) (d : Addr) : Prop where
  ex : ∃ kvs : List (Key × V), H d = some (.dK kvs) ∧ (kvs.map (·.1)).Nodup ∧ ∀ kv ∈ kvs, ∃ (n : Nat) (l : Addr) (xs : List V), kv = (Sum.inl (n : Int), .ref l) ∧ 1 ≤ n ∧ n ≤ 4 ∧ H l = some (.lst xs) ∧ WVs H xs (o n)
theorem Kno.ext {o : Nat → List Wd} {H G : Hp} {d : Addr} (e : Ex H G) (h : Kno o H d) : Kno o G d := by
  obtain ⟨kvs, h1, h2, h3⟩ := h.ex
  refine ⟨kvs, e _ _ h1, h2, fun kv hk => ?_⟩
  obtain ⟨n, l, xs, a, b, c, f, g⟩ := h3 kv hk
  exact ⟨n, l, xs, a, b, c, e _ _ f, g.ext e⟩
theorem Kno.tx {o : Nat → List Wd} {H G : Hp} {d : Addr} (h : Kno o H d) (B : Bd d H G) : Tx H G := by
  obtain ⟨kvs, h1, _⟩ := h.ex
  exact fun a xs q => B a _ (ne_of q h1 (by intro z; cases z)) q
theorem nodup_len {α : Type} [DecidableEq α] : ∀ {l m : List α}, l.Nodup → (∀ x ∈ l, x ∈ m) → l.length ≤ m.length
  | [], _, _, _ => Nat.zero_le _
  | x :: l, m, nd, h => by
    have hx := h x (by simp)
    have n2 := List.nodup_cons.mp nd
    have i := nodup_len (l := l) (m := m.erase x) n2.2 fun y hy => (List.mem_erase_of_ne (fun q => n2.1 (by rw [← q]; exact hy))).mpr (h y (by simp [hy]))
    rw [List.length_erase_of_mem hx] at i
    have hm : 0 < m.length := List.length_pos_of_mem hx
    simp only [List.length_cons]
    omega
theorem Kno.len {o : Nat → List Wd} {H : Hp} {d : Addr} {kvs : List (Key × V)} (hd : (kvs.map (·.1)).Nodup) (h : ∀ kv ∈ kvs, ∃ (n : Nat) (l : Addr) (xs : List V), kv = (Sum.inl (n : Int), .ref l) ∧ 1 ≤ n ∧ n ≤ 4 ∧ H l = some (.lst xs) ∧ WVs H xs (o n)) : kvs.length ≤ 4 := by
  have i := nodup_len (l := kvs.map (·.1)) (m := ([1, 2, 3, 4] : List Int).map Sum.inl) hd fun k hk => by
    obtain ⟨kv, hkv, rfl⟩ := List.mem_map.mp hk
    obtain ⟨n, l, xs, rfl, a, b, _⟩ := h kv hkv
    have : n = 1 ∨ n = 2 ∨ n = 3 ∨ n = 4 := by omega
    rcases this with rfl | rfl | rfl | rfl <;> simp
  simpa using i
/-- names and how many words behind them -/
def ArV (H : Hp) (a : Addr) : Prop := ∃ t0 t1 t2 t3, H a = some (.lst [.ref t0, .ref t1, .ref t2, .ref t3]) ∧ H t0 = some (.tup [.str "a", .int 0]) ∧ H t1 = some (.tup [.str "b", .int 0]) ∧ H t2 = some (.tup [.str "f", .int 1]) ∧ H t3 = some (.tup [.str "g", .int 2])
theorem ArV.bd {H G : Hp} {a d : Addr} {kvs : List (Key × V)} (h : ArV H a) (B : Bd d H G) (hd : H d = some (.dK kvs)) : ArV G a := by
  obtain ⟨t0, t1, t2, t3, h1, h2, h3, h4, h5⟩ := h
  have n : ∀ {b : Addr} {o : HO}, H b = some o → o ≠ .dK kvs → b ≠ d := fun h1 h2 => ne_of h1 hd h2
  exact ⟨t0, t1, t2, t3, B _ _ (n h1 (by intro z; cases z)) h1, B _ _ (n h2 (by intro z; cases z)) h2, B _ _ (n h3 (by intro z; cases z)) h3, B _ _ (n h4 (by intro z; cases z)) h4, B _ _ (n h5 (by intro z; cases z)) h5⟩
def RwV (H : Hp) (x : V) (r : List Wd) : Prop := ∃ t us, x = .ref t ∧ H t = some (.tup us) ∧ WVs H us r
theorem RwV.tx {H G : Hp} {x : V} {r : List Wd} (t : Tx H G) (h : RwV H x r) : RwV G x r := let ⟨a, us, h1, h2, h3⟩ := h; ⟨a, us, h1, t _ _ h2, h3.tx t⟩
/-- f is no list of those known -/
def NotK (H : Hp) (d f : Addr) : Prop := ∀ kvs, H d = some (.dK kvs) → ∀ kv ∈ kvs, kv.2 ≠ .ref f
/-- lists that were there and not known are not known later -/
def Nk (d : Addr) (H G : Hp) : Prop := ∀ f, H f ≠ none → NotK H d f → NotK G d f
structure Post (o : Nat → List Wd) (d : Addr) (H G : Hp) : Prop where
  kno : Kno o G d
  bd : Bd d H G
  nk : Nk d H G
theorem Post.ext {o : Nat → List Wd} {d : Addr} {H G : Hp} (k : Kno o H d) (e : Ex H G) : Post o d H G := ⟨k.ext e, Bd.of e, fun f _ n kvs h => n kvs (by
  obtain ⟨kvs', h', _⟩ := k.ex
  have h2 := e _ _ h'
  rw [h2] at h
  rw [h', h])⟩
theorem Post.trans {o : Nat → List Wd} {d : Addr} {H G J : Hp} (k : Kno o H d) (a : Post o d H G) (b : Post o d G J) : Post o d H J := ⟨b.kno, a.bd.trans b.bd, fun f n h => b.nk f (fun z => by
  by_cases q : f = d
  · subst q
    obtain ⟨kvs, h', _⟩ := a.kno.ex
    rw [h'] at z
    cases z
  · cases e : H f with
    | none => exact n e
    | some o =>
      rw [a.bd f o q e] at z
      cases z) (a.nk f n h)⟩
/-- a list that is not known changes -/
theorem Post.lst {o : Nat → List Wd} {d f : Addr} {H G : Hp} {xs ys : List V} (p : Post o d H G) (hf : H f = none) (hg : G f = some (.lst xs)) (n : NotK G d f) : Post o d H (upd G f (.lst ys)) := by
  obtain ⟨kvs, h1, h2, h3⟩ := p.kno.ex
  have df : d ≠ f := ne_of h1 hg (by intro z; cases z)
  refine ⟨⟨kvs, by rw [upd_ne df]; exact h1, h2, fun kv hk => ?_⟩, fun b o n1 h => ?_, fun f' n1 n2 kvs' h kv hk => ?_⟩
  · obtain ⟨m, l, us, a, b, c, e, g⟩ := h3 kv hk
    have lf : l ≠ f := fun z => n kvs h1 kv hk (by rw [a, z])
    exact ⟨m, l, us, a, b, c, by rw [upd_ne lf]; exact e, g.tx (Tx.lst hg)⟩
  · rw [upd_ne (ne_of_none h hf)]
    exact p.bd b o n1 h
  · rw [upd_ne df] at h
    exact p.nk f' n1 n2 kvs' h kv hk
theorem NotK.lst {d f g : Addr} {G : Hp} {xs ys : List V} {kvs : List (Key × V)} (hg : G f = some (.lst xs)) (hd : G d = some (.dK kvs)) (n : NotK G d g) : NotK (upd G f (.lst ys)) d g := fun kvs' h => n kvs' (by
  rw [upd_ne (ne_of hd hg (by intro z; cases z))] at h
  exact h)
theorem NotK.new {o : Nat → List Wd} {d f : Addr} {H : Hp} (k : Kno o H d) (hf : H f = none) {G : Hp} (hd : ∀ kvs, H d = some (.dK kvs) → G d = some (.dK kvs)) : NotK G d f := fun kvs' h kv hk z => by
  obtain ⟨kvs, h1, h2, h3⟩ := k.ex
  rw [hd _ h1] at h
  cases h
  obtain ⟨n, l, us, rfl, b, c, e, g⟩ := h3 kv hk
  have q := V.ref.inj z
  rw [q] at e
  rw [hf] at e
  cases e
/-- what all these calls are given -/
structure Giv (rs : List (Str × Int)) (wJ : Nat → Nat) (H : Hp) (ar aa d : Addr) : Prop where
  rows : ∃ xs, H ar = some (.lst xs) ∧ RVs H xs rs
  ars : ArV H aa
  kno : Kno (ofF wJ 5) H d
  R : RowsOk rs
  hN : AllN rs
  wj : ∀ j, j < 4 → wOf rs (nmJ j) = (wJ j : Int)
  w1 : ∀ j, j < 4 → 1 ≤ wJ j
  w2 : ∀ j, j < 4 → wJ j ≤ 2
  ok : OkW wJ
theorem Giv.go {rs : List (Str × Int)} {wJ : Nat → Nat} {H G : Hp} {ar aa d : Addr} (h : Giv rs wJ H ar aa d) (B : Bd d H G) (k : Kno (ofF wJ 5) G d) : Giv rs wJ G ar aa d := by
  obtain ⟨kvs, h1, _⟩ := h.kno.ex
  obtain ⟨xs, h2, h3⟩ := h.rows
  exact ⟨⟨xs, B _ _ (ne_of h2 h1 (by intro z; cases z)) h2, h3.tx (h.kno.tx B)⟩, h.ars.bd B h1, k, h.R, h.hN, h.wj, h.w1, h.w2, h.ok⟩
theorem Giv.ext {rs : List (Str × Int)} {wJ : Nat → Nat} {H G : Hp} {ar aa d : Addr} (h : Giv rs wJ H ar aa d) (e : Ex H G) : Giv rs wJ G ar aa d := h.go (Bd.of e) (h.kno.ext e)
section
variable {K : PySem.W.Frag} {σ : L2.St} {H G : Hp} {te ta tb tl tk tx tr : TE} {tt : TT} {v : V} {D : Ends} {tu tz : TS}
/-- (x,) + t -/
theorem evp_cat {x : V} {t : Addr} {us : List V} {P : V → Hp → Prop} (hl : EvU tl σ H [x]) (hr : Ev tr σ H (.ref t)) (ht : SqT K H t us) (hs : us.length ≤ 1000) (p : ∀ a G, Ex H G → G a = some (.tup (x :: us)) → P (.ref a) G) : EvP (tOp (rCatA K) tl tr) σ H P := fun H1 e Q q =>
  hl H1 e _ fun a H2 _ e2 ha => hr H2 (e.trans e2) _ fun H3 e3 => ⟨a, t, [x], us, rfl, rfl, st_of (e3 _ _ ha), ex_t ((e.trans e2).trans e3) ht, sz_of (by simp; omega), fun z => absurd z (List.cons_ne_nil _ _), fun _ hus => by
    subst hus
    exact q _ H3 (e2.trans e3) (p a H3 ((e.trans e2).trans e3) (e3 _ _ ha)), fun _ _ b hb => q _ _ ((e2.trans e3).trans (Ex.new hb)) (p b _ (((e.trans e2).trans e3).trans (Ex.new hb)) upd_same)⟩
end
section
variable {P : Program} {w : World} {K : PySem.W.Frag} {mg : Str → Option Value} {base : Heap} {C : Addr}
def spOW (L : Nat) : Sp := fun vs H Q _ => ∃ ar aa d rs wJ n, vs = [.ref ar, .ref aa, .int (n : Nat), .ref d] ∧ Giv rs wJ H ar aa d ∧ 1 ≤ n ∧ n ≤ L ∧ n ≤ 4 ∧
  ∀ l xs G, G l = some (.lst xs) → WVs G xs (ofF wJ 5 n) → Post (ofF wJ 5) d H G → (∀ f, NotK G d f → f ≠ l) → Q (.ref l) G
def spRO (L m : Nat) : Sp := fun vs H Q _ => ∃ ar aa d rs wJ w, vs = [.ref ar, .ref aa, .int (m : Nat), .int w, .ref d] ∧ Giv rs wJ H ar aa d ∧ w ≤ L ∧ w ≤ 4 ∧ -10 ≤ w ∧
  ∀ l xs G, H l = none → G l = some (.lst xs) → A2 (RwV G) xs (rowsM (ofF wJ 5) m w) → Post (ofF wJ 5) d H G → NotK G d l → Q (.ref l) G
abbrev nRO : List Str := ["_law_rows", "_law_arities", "_law_many", "_law_weight", "_law_known", "_law_found", "_law_first", "_law_word", "_law_row"]
theorem sc_ro : FnScope nRO ["_law_rows", "_law_arities", "_law_many", "_law_weight", "_law_known"] (defScope s__law_rows_of) := ⟨rfl, rfl, rfl, by decide +kernel, rfl, by decide +kernel, by decide +kernel⟩
theorem ofF_len {wJ : Nat → Nat} (ok : OkW wJ) {n : Nat} (h : n ≤ 4) : (ofF wJ 5 n).length ≤ 60 := by
  have h1 := ok.len
  unfold allW at h1
  simp only [List.length_append] at h1
  have : n = 0 ∨ n = 1 ∨ n = 2 ∨ n = 3 ∨ n = 4 := by omega
  rcases this with rfl | rfl | rfl | rfl | rfl
  · rw [ok.z]; exact Nat.zero_le _
  · omega
  · omega
  · omega
  · omega
/-- a def's body keeps a promise -/
def Bdy (P : Program) (w : World) (K : PySem.W.Frag) (mg : Str → Option Value) (base : Heap) (k : Nat) (N : List Str) (x : Str) (st : Stmt) (sp : Sp) : Prop :=
  ∀ (f : Addr) (cdv : Value) (A : Around) (outer : List Env) (s : Shared) (H : Hp) (vs : List V) (Q : VK) (E : XK), Room k (A.deeper (envOfC x (defScope st) s.heap.objs.size f cdv)) → sp vs H Q E →
    ∃ t, PSs (cxOf CX0 P w K mg base N x (defScope st) f cdv A outer s H E).nox (defBody st) t ∧ t { nx := fun _ H' => Q .non H', rt := Q } (L2.start N vs) H
theorem bd_ro0 (T : T29 P w K mg base) {L : Nat} : Bdy P w K mg base (4 * L + 2) nRO "_law_rows_of" s__law_rows_of (spRO L 0) := by
  intro f cdv A outer s H vs Q E hr h
  obtain ⟨ar, aa, d, rs, wJ, n, rfl, Gv, hL, h4, hlo, k⟩ := h
  refine ⟨_, pss_cons (ps_if (pt_cmpR op_eq (pv 2) pe_int (nomark _)) (pss_one (ps_ret (pe_ifExp (pt_cmpR op_eq (pv 3) pe_int (nomark _)) (pe_lst (pa_cons (pe_tup pa_nil) pa_nil)) (pe_lst pa_nil)))) pss_nil)
    (pss_cons ps_never (pss_cons ps_never (pss_cons ps_never (pss_one ps_never)))), ?_⟩
  refine q_when (b := true) (et_is (et_test (ev_op (ev_var rfl) ev_c (rv_eq rfl))) (by simp)) (fun _ H1 e1 => ?_) (fun z => nomatch z)
  by_cases hn : n = 0
  · subst hn
    refine ⟨_, rfl, rfl, true, by simp, ?_⟩
    refine iteT ⟨Nat.zero_le _, fun t ht => ⟨by show 1 ≤ sizeLine; decide, fun l hl => ?_⟩⟩
    have e2 : Ex H1 (upd (upd H1 t (.tup [])) l (.lst [.ref t])) := (Ex.new ht).trans (Ex.new hl)
    have tl : t ≠ l := fun z => by rw [← z, upd_same] at hl; cases hl
    refine k l _ _ (fresh_back (e1.trans (Ex.new ht)) hl) upd_same ⟨⟨t, [], rfl, by rw [upd_ne tl, upd_same], trivial⟩, trivial⟩ (Post.ext Gv.kno (e1.trans e2)) (NotK.new Gv.kno (fresh_back (e1.trans (Ex.new ht)) hl) fun kvs q => (e1.trans e2) _ _ q)
  · refine ⟨_, rfl, rfl, false, congrArg V.bl (decide_eq_false fun z => hn (V.int.inj z)), ?_⟩
    refine iteF ⟨Nat.zero_le _, fun l hl => ?_⟩
    refine k l _ _ (fresh_back e1 hl) upd_same ?_ (Post.ext Gv.kno (e1.trans (Ex.new hl))) (NotK.new Gv.kno (fresh_back e1 hl) fun kvs q => (e1.trans (Ex.new hl)) _ _ q)
    show A2 _ [] (if n = 0 then [[]] else [])
    rw [if_neg hn]
    trivial
theorem ok_ro0 (T : T29 P w K mg base) {L : Nat} : Ok P w K mg base "_law_rows_of" ["_law_rows", "_law_arities", "_law_many", "_law_weight", "_law_known"] (4 * L + 3) (spRO L 0) :=
  T.ok 33 rfl sc_ro (fun vs H Q E h => by
    obtain ⟨ar, aa, d, rs, wJ, w, rfl, _⟩ := h
    rfl) (fun kV doc pm an cdv ct us hl => match us, hl with | [_, _, _, _, _], _ => rfl) (bd_ro0 T)
/-- the rows of the loop, turn by turn -/
def outR (o : Nat → List Wd) (m : Nat) (n : Int) : Nat → List (List Wd)
  | 0 => []
  | i + 1 => outR o m n i ++ (o (i + 1)).flatMap fun w => (rowsM o m (n - ((i + 1 : Nat) : Int))).map (w :: ·)
theorem outR0 (o : Nat → List Wd) (n : Int) : ∀ i : Nat, (i : Int) < n → outR o 0 n i = []
  | 0, _ => rfl
  | i + 1, h => by
    show outR o 0 n i ++ _ = _
    rw [outR0 o n i (by omega)]
    have e : rowsM o 0 (n - ((i + 1 : Nat) : Int)) = [] := by
      show (if n - ((i + 1 : Nat) : Int) = 0 then ([[]] : List (List Wd)) else []) = []
      exact if_neg (by omega)
    rw [e]
    simp
theorem outR1 (o : Nat → List Wd) (n : Int) : ∀ i : Nat, (i : Int) < n ∨ i = 0 → outR o 1 n i = row2 o n.toNat i
  | 0, _ => rfl
  | i + 1, h => by
    show outR o 1 n i ++ _ = row2 o n.toNat i ++ _
    rw [outR1 o n i (by omega)]
    have e : (n - ((i + 1 : Nat) : Int)).toNat = n.toNat - (i + 1) := by omega
    congr 1
    refine congrArg (fun f => (o (i + 1)).flatMap f) (funext fun w => ?_)
    show ((o (n - ((i + 1 : Nat) : Int)).toNat).map fun w => [w]).map (w :: ·) = _
    rw [e, List.map_map]
    rfl
theorem rows_len {wJ : Nat → Nat} (ok : OkW wJ) {m : Nat} (hm : m < 2) {n : Int} (h : n ≤ 4) : (rowsM (ofF wJ 5) m n).length ≤ 60 := by
  match m, hm with
  | 0, _ =>
    show (if n = 0 then ([[]] : List (List Wd)) else []).length ≤ 60
    by_cases q : n = 0
    · rw [if_pos q]; simp
    · rw [if_neg q]; simp
  | 1, _ =>
    show ((ofF wJ 5 n.toNat).map _).length ≤ 60
    rw [List.length_map]
    exact ofF_len ok (by omega)
theorem flat_len {α β : Type} {f : α → List β} {k : Nat} : ∀ l : List α, (∀ x ∈ l, (f x).length ≤ k) → (l.flatMap f).length ≤ l.length * k
  | [], _ => by simp
  | x :: l, h => by
    rw [List.flatMap_cons, List.length_append, List.length_cons, Nat.succ_mul]
    have := h x (by simp)
    have := flat_len l fun y hy => h y (by simp [hy])
    omega
theorem outR_len {wJ : Nat → Nat} (ok : OkW wJ) {m : Nat} (hm : m < 2) {n : Int} (h : n ≤ 4) : ∀ i, i ≤ 4 → (outR (ofF wJ 5) m n i).length ≤ i * 3600
  | 0, _ => Nat.zero_le _
  | i + 1, hi => by
    show (outR (ofF wJ 5) m n i ++ _).length ≤ _
    rw [List.length_append]
    have a := outR_len ok hm h i (by omega)
    have b := flat_len (f := fun w => (rowsM (ofF wJ 5) m (n - ((i + 1 : Nat) : Int))).map (w :: ·)) (k := 60) (ofF wJ 5 (i + 1)) fun x _ => by
      rw [List.length_map]
      exact rows_len ok hm (by omega)
    have c := ofF_len ok (n := i + 1) (by omega)
    have : (ofF wJ 5 (i + 1)).length * 60 ≤ 60 * 60 := Nat.mul_le_mul_right 60 c
    omega
theorem rows_short {o : Nat → List Wd} {m : Nat} (hm : m < 2) {n : Int} {r : List Wd} (h : r ∈ rowsM o m n) : r.length ≤ 1 := by
  match m, hm with
  | 0, _ =>
    have h' : r ∈ (if n = 0 then ([[]] : List (List Wd)) else []) := h
    by_cases q : n = 0
    · rw [if_pos q] at h'
      obtain rfl : r = [] := by simpa using h'
      simp
    · rw [if_neg q] at h'
      simp at h'
  | 1, _ =>
    obtain ⟨w, _, rfl⟩ := List.mem_map.mp (show r ∈ (o n.toNat).map fun w => [w] from h)
    simp
theorem A2.of_get {α β : Type} {R : α → β → Prop} : ∀ {as : List α} {bs : List β}, as.length = bs.length → (∀ (k : Nat) a b, as[k]? = some a → bs[k]? = some b → R a b) → A2 R as bs
  | [], [], _, _ => trivial
  | a :: as, b :: bs, h, k => ⟨k 0 a b rfl rfl, A2.of_get (by simpa using h) fun i x y hx hy => k (i + 1) x y (by simpa using hx) (by simpa using hy)⟩
  | [], _ :: _, h, _ => by simp at h
  | _ :: _, [], h, _ => by simp at h
theorem A2.of_range {G J : Hp} {z : Wd} {rows : List (List Wd)} {acc : List V} {n : Nat} (hn : n = rows.length) (h : A2 (fun k v => ∃ r, rows[k]? = some r ∧ RwV G v (z :: r)) (List.range n) acc) (t : ∀ v r, RwV G v r → RwV J v r) : A2 (RwV J) acc (rows.map (z :: ·)) := by
  have hl := h.length
  rw [List.length_range] at hl
  refine A2.of_get (by rw [List.length_map]; omega) fun k v r hv hr => ?_
  obtain ⟨i, hi, r', hr', q⟩ := h.getb hv
  have hk : k < n := by
    have := (List.getElem?_eq_some_iff.mp hv).1
    omega
  rw [List.getElem?_range hk] at hi
  cases hi
  rw [List.getElem?_map, hr'] at hr
  cases hr
  exact t _ _ q
theorem RwVs.tx {H G : Hp} {xs : List V} {rows : List (List Wd)} (t : Tx H G) (h : A2 (RwV H) xs rows) : A2 (RwV G) xs rows := A2.mono (fun _ _ q => q.tx t) h
end
end K29

set_option Elab.async false
set_option linter.all false
set_option maxRecDepth 100000
set_option maxHeartbeats 4000000
/-! rows_of, one more name. -/
namespace K29
open PySem PySem.Spec PyProof.Rows L2 Evl
section
variable {P : Program} {w : World} {K : PySem.W.Frag} {mg : Str → Option Value} {base : Heap} {C : Addr}
/-- found.extend([(word,) + row for row in rows_of(rows, arities, many - 1, weight - first, known)]), the dict of known ones changes -/
theorem bd_ro1 (T : T29 P w K mg base) {L : Nat} (hO : Ok P w K mg base "_law_of_weight" ["_law_rows", "_law_arities", "_law_weight", "_law_known"] (4 * L + 2) (spOW L)) {m : Nat} (hm : m < 2) (hR : Ok P w K mg base "_law_rows_of" ["_law_rows", "_law_arities", "_law_many", "_law_weight", "_law_known"] (4 * L + 3 + m) (spRO L m)) : Bdy P w K mg base (4 * L + 3 + m) nRO "_law_rows_of" s__law_rows_of (spRO L (m + 1)) := by
  obtain ⟨fO, dO, GO, bO, kO, mO⟩ := hO.ex
  obtain ⟨fR, dR, GR, bR, kR, mR⟩ := hR.ex
  intro f cdv A outer s H vs Q E hr h
  obtain ⟨ar, aa, d, rs, wJ, n, rfl, Gv, hL, h4, hlo, k⟩ := h
  have hrO : Room (4 * L + 2) _ := hr.mono (by omega)
  refine ⟨_, pss_cons (ps_if (pt_cmpR op_eq (pv 2) pe_int (nomark _)) (pss_one ps_never) pss_nil)
    (pss_cons (ps_set (i := 5) sc_ro.nd rfl (Or.inl rfl) (pe_lst pa_nil))
    (pss_cons (ps_for PassesOwn.never rfl (pi_range2 (by rfl) T.range (pa_cons pe_int (pa_cons (pv 3) pa_nil))) (pg_name (i := 6) sc_ro.nd rfl (Or.inl rfl))
      (pss_one (ps_for PassesOwn.never rfl (pi_list (pe_call GO hrO (by rfl) mO kO bO .nil pass0 (pa_cons (pv 0) (pa_cons (pv 1) (pa_cons (pv 6) (pa_cons (pv 4) pa_nil)))))) (pg_name (i := 7) sc_ro.nd rfl (Or.inr rfl))
        (pss_one (ps_expr (pe_bm PySem.F.plainAttrs_list PySem.F.slot_list_extend PySem.F.type_list_extend mt_extend (pv 5) (pa_cons
          (pe_lc (own := [("_law_row", 8)]) (g := gName 8) (tt := tYes) (te := tOp (rCatA K) (tTup (tCons (tVar 7) tNil)) (tVar 8)) rfl sc_ro.nd (pi_list (pe_call GR hr (by rfl) mR kR bR .nil pass0 (pa_cons (pv 0) (pa_cons (pv 1) (pa_cons (pe_op op_sub (pv 2) pe_int) (pa_cons (pe_op op_sub (pv 3) (pv 6)) (pa_cons (pv 4) pa_nil))))))) (blkOk_by (N := nRO) (sc := defScope s__law_rows_of) (by decide +kernel))
            (fun _ _ _ _ _ => pg_name (i := 8) sc_ro.nd rfl (Or.inl rfl)) (fun _ _ _ _ _ => pts_nil) (fun _ _ _ _ _ => pe_op op_catA (pe_tup (pa_cons (pv 7) pa_nil)) (pv 8))) pa_nil)))))))
    (pss_cons (ps_if (PW.pt (pw_and (pt_cmpR op_eq (pv 2) pe_int (nomark _)) (pw_and1 (pt_cmpR op_gt (pv 3) pe_int (nomark _)))))
      (pss_one (ps_expr (pe_bm PySem.F.plainAttrs_list PySem.F.slot_list_extend PySem.F.type_list_extend mt_extend (pv 5) (pa_cons
          (pe_lc (own := [("_law_word", 7)]) (g := gName 7) (tt := tYes) (te := tTup (tCons (tVar 7) tNil)) rfl sc_ro.nd (pi_list (pe_call GO hrO (by rfl) mO kO bO .nil pass0 (pa_cons (pv 0) (pa_cons (pv 1) (pa_cons (pv 3) (pa_cons (pv 4) pa_nil)))))) (blkOk_by (N := nRO) (sc := defScope s__law_rows_of) (by decide +kernel))
            (fun _ _ _ _ _ => pg_name (i := 7) sc_ro.nd rfl (Or.inl rfl)) (fun _ _ _ _ _ => pts_nil) (fun _ _ _ _ _ => pe_tup (pa_cons (pv 7) pa_nil))) pa_nil)))) pss_nil)
    (pss_one (ps_ret (pv 5)))))), ?_⟩
  refine q_when (b := false) (et_is (et_test (ev_op (ev_var rfl) ev_c (rv_eq rfl))) (decide_eq_false fun z => by have := V.int.inj z; omega)) (fun z => nomatch z) fun _ H1 e1 => ?_
  refine q_asgL (el_lst ea_nil (by show 0 ≤ 100000; decide)) fun f0 H2 hf0 e2 h2 => ?_
  have e02 := e1.trans e2
  have hf : H f0 = none := fresh_back e1 hf0
  have P2 : Post (ofF wJ 5) d H H2 := Post.ext Gv.kno e02
  have N2 : NotK H2 d f0 := NotK.new Gv.kno hf fun kvs q => e02 _ _ q
  obtain ⟨kv0, hd0, _⟩ := Gv.kno.ex
  have mcast : ((m + 1 : Nat) : Int) - 1 = (m : Int) := by omega
  refine q_forR2 (lo := 1) (n := n) (ea_cons ev_c (ea_cons (ev_var rfl) ea_nil)) ⟨by omega, by omega, by omega, by omega⟩ (fun i σ' G => Post (ofF wJ 5) d H G ∧ NotK G d f0 ∧ (∃ o6 o7 : Option V, σ' = [some (.ref ar), some (.ref aa), some (.int ((m + 1 : Nat) : Int)), some (.int n), some (.ref d), some (.ref f0), o6, o7, none]) ∧ ∃ xs, G f0 = some (.lst xs) ∧ A2 (RwV G) xs (outR (ofF wJ 5) m n i)) ?_ ?_ ?_
  · intro H3 e3
    exact ⟨Post.ext Gv.kno (e02.trans e3), NotK.new Gv.kno hf fun kvs q => (e02.trans e3) _ _ q, ⟨none, none, rfl⟩, [], e3 _ _ h2, trivial⟩
  · rintro i σ' G hi ⟨PG, NG, ⟨o6, o7, rfl⟩, xs, hxs, hA⟩
    have cast1 : (1 : Int) + (i : Int) = ((i + 1 : Nat) : Int) := by omega
    rw [cast1] at hi ⊢
    have GvG := Gv.go PG.bd PG.kno
    refine ⟨_, rfl, _, rfl, _, rfl, _, rfl, ar, aa, d, rs, wJ, i + 1, rfl, GvG, by omega, by omega, by omega, fun l us G1 hl hus P1 hnl => ?_⟩
    have lf : f0 ≠ l := hnl f0 (P1.nk f0 (by rw [hxs]; exact Option.some_ne_none _) NG)
    obtain ⟨kvG, hdG, _⟩ := PG.kno.ex
    have fd : f0 ≠ d := ne_of hxs hdG (by intro z; cases z)
    have hfG1 : G1 f0 = some (.lst xs) := P1.bd _ _ fd hxs
    have tG1 : Tx G G1 := PG.kno.tx P1.bd
    refine ⟨l, rfl, ⟨us, sq_of hl⟩, for_list (xs := us) (fun j σ'' G2 => Post (ofF wJ 5) d H G2 ∧ NotK G2 d f0 ∧ G2 l = some (.lst us) ∧ WVs G2 us (ofF wJ 5 (i + 1)) ∧ (∃ o7 : Option V, σ'' = [some (.ref ar), some (.ref aa), some (.int ((m + 1 : Nat) : Int)), some (.int n), some (.ref d), some (.ref f0), some (.int ((i + 1 : Nat) : Int)), o7, none]) ∧ ∃ ys, G2 f0 = some (.lst ys) ∧ A2 (RwV G2) ys (outR (ofF wJ 5) m n i ++ ((ofF wJ 5 (i + 1)).take j).flatMap fun w => (rowsM (ofF wJ 5) m (n - ((i + 1 : Nat) : Int))).map (w :: ·))) ?_ ?_ ?_ ?_⟩
    · exact ⟨PG.trans Gv.kno P1, P1.nk f0 (by rw [hxs]; exact Option.some_ne_none _) NG, hl, hus, ⟨o7, rfl⟩, xs, hfG1, by simpa using RwVs.tx tG1 hA⟩
    · exact fun j σ'' G2 _ z => sq_of z.2.2.1
    · rintro j x σ'' G2 hx ⟨PH, NH, hl2, hus2, ⟨o8, rfl⟩, ys, hys, hB⟩
      obtain ⟨z, hz, hwz⟩ := hus2.get hx
      have Gv2 := Gv.go PH.bd PH.kno
      obtain ⟨kv2, hd2, _⟩ := PH.kno.ex
      have fd2 : f0 ≠ d := ne_of hys hd2 (by intro z; cases z)
      have ld2 : l ≠ d := ne_of hl2 hd2 (by intro z; cases z)
      refine ⟨_, rfl, .inl ⟨rfl, _, sq_of hys⟩, ?_⟩
      refine ⟨_, rfl, _, rfl, _, rfl, _, _, rfl, rfl, _, rfl, _, rfl, _, _, rfl, rfl, _, rfl, ar, aa, d, rs, wJ, n - ((i + 1 : Nat) : Int), by show [V.ref ar, V.ref aa, V.int (((m + 1 : Nat) : Int) - 1), V.int (n - ((i + 1 : Nat) : Int)), V.ref d] = _; rw [mcast], Gv2, by omega, by omega, by omega, fun lr rx G3 hlr0 hlr hrx P3 N3 => ?_⟩
      have tG3 : Tx G2 G3 := PH.kno.tx P3.bd
      refine ⟨lr, rfl, ⟨rx, sq_of hlr⟩, fun Dl hD => lc_it walk_list (Cwp G3 (fun _ => true) (fun k v G => ∃ r, (rowsM (ofF wJ 5) m (n - ((i + 1 : Nat) : Int)))[k]? = some r ∧ RwV G v (z :: r)) Dl) (cwp0 hD) (fun k G c => fun c => sq_of (c.2.1 _ _ hlr)) ?_ ?_⟩
      · rintro k v G4 G5 hk c ⟨rfl, hv⟩
        obtain ⟨r, hr5, t, ts, rfl, ht, hts⟩ := hrx.get hv
        have hrl : r.length ≤ 1 := rows_short hm (List.mem_of_getElem? hr5)
        refine ⟨rfl, cwp_turn (fun k v => ?_) c (Ex.refl _) (by have := hrx.length; have := rows_len Gv.ok hm (n := n - ((i + 1 : Nat) : Int)) (by omega); omega) et_yes fun _ G6 e6 => ?_⟩
        · intro J1 J2 xs1 a0 a1 a2 a3 ⟨r', hr', hp⟩
          exact ⟨r', hr', hp.tx fun a ys q => a3 a _ (ne_of q a0 (by intro z; cases z)) q⟩
        · have e36 := c.2.1.trans e6
          refine evp_cat (eu_tup (ea_cons (ev_var rfl) ea_nil) (by show 1 ≤ 100000; decide)) (ev_var rfl) (st_of (e36 _ _ ht)) (by have := hts.length; omega) fun a G7 e7 ha => ⟨r, hr5, a, x :: ts, rfl, ha, (hwz.tx tG3).ext (e36.trans e7), hts.ext (e36.trans e7)⟩
      · rintro G4 c
        obtain ⟨acc, hacc, hal, ha2⟩ := c.2.2
        have e34 := c.2.1
        have hys4 : G4 f0 = some (.lst ys) := e34 _ _ (P3.bd _ _ fd2 hys)
        have hyl := hB.length
        have N4 : NotK G4 d f0 := fun kvs q => P3.nk f0 (by rw [hys]; exact Option.some_ne_none _) NH kvs (by
          obtain ⟨kv3, hd3, _⟩ := P3.kno.ex
          rw [e34 _ _ hd3] at q
          rw [hd3, q])
        have P4 : Post (ofF wJ 5) d H G4 := PH.trans Gv.kno (P3.trans PH.kno (Post.ext P3.kno e34))
        refine ⟨f0, Dl, ys, acc, rfl, rfl, hys4, hacc, sz_of ?_, ?_⟩
        · have h1 := outR_len Gv.ok hm h4 i (by omega)
          have h2 := flat_len (f := fun w => (rowsM (ofF wJ 5) m (n - ((i + 1 : Nat) : Int))).map (w :: ·)) (k := 60) ((ofF wJ 5 (i + 1)).take j) fun x _ => by
            rw [List.length_map]
            exact rows_len Gv.ok hm (by omega)
          have h3 : ((ofF wJ 5 (i + 1)).take j).length ≤ 60 := by
            have := ofF_len Gv.ok (n := i + 1) (by omega)
            rw [List.length_take]
            omega
          have h5 : ((ofF wJ 5 (i + 1)).take j).length * 60 ≤ 60 * 60 := Nat.mul_le_mul_right 60 h3
          have h6 := rows_len Gv.ok hm (n := n - ((i + 1 : Nat) : Int)) (by omega)
          have h7 := hrx.length
          rw [List.length_append] at hyl
          omega
        obtain ⟨kv4, hd4, _⟩ := P4.kno.ex
        have lf2 : l ≠ f0 := fun q => lf q.symm
        have t5 : Tx G2 (upd G4 f0 (.lst (ys ++ acc))) := (tG3.trans (Tx.of e34)).trans (Tx.lst hys4)
        refine ⟨P4.lst hf hys4 N4, N4.lst hys4 hd4, ?_, hus2.tx t5, ⟨_, rfl⟩, ys ++ acc, upd_same, ?_⟩
        · rw [upd_ne lf2]
          exact e34 _ _ (P3.bd _ _ ld2 hl2)
        · rw [List.take_succ, hz, List.flatMap_append, ← List.append_assoc]
          refine A2.append (RwVs.tx t5 hB) ?_
          have e9 : (([z] : List Wd).flatMap fun w => (rowsM (ofF wJ 5) m (n - ((i + 1 : Nat) : Int))).map (w :: ·)) = (rowsM (ofF wJ 5) m (n - ((i + 1 : Nat) : Int))).map (z :: ·) := by simp
          show A2 _ acc (([z] : List Wd).flatMap _)
          rw [e9]
          refine A2.of_range (by rw [← hrx.length]) (by rw [filter_true] at ha2; exact ha2) fun v r q => q.tx (Tx.lst hys4)
    · rintro σ'' G2 ⟨PH, NH, hl2, hus2, ⟨o8, rfl⟩, ys, hys, hB⟩
      refine ⟨PH, NH, ⟨_, _, rfl⟩, ys, hys, ?_⟩
      have e := hus2.length
      rw [e, List.take_length] at hB
      exact hB
  · rintro σ' G ⟨PG, NG, ⟨o6, o7, rfl⟩, xs, hxs, hA⟩
    have en : (n - 1).toNat = n.toNat - 1 := by omega
    rw [en] at hA
    obtain ⟨kvG, hdG, _⟩ := PG.kno.ex
    have fd : f0 ≠ d := ne_of hxs hdG (by intro z; cases z)
    refine q_when (b := decide (m = 0 ∧ 0 < n)) (et_is (et_and (et_test (ev_op (ev_var rfl) ev_c (rv_eq rfl))) fun _ => et_test (ev_op (ev_var rfl) ev_c rv_I0)) ?_) (fun hb H3 e3 => ?_) fun hb H3 e3 => ?_
    · have q1 : decide (V.int ((m + 1 : Nat) : Int) = V.int 1) = decide (m = 0) := decide_eq_decide.mpr ⟨fun z => by have := V.int.inj z; omega, fun z => by subst z; rfl⟩
      rw [q1]
      simp
    · obtain ⟨rfl, hn0⟩ := of_decide_eq_true hb
      have P3 := PG.trans Gv.kno (Post.ext PG.kno e3)
      have N3 : NotK H3 d f0 := fun kvs q => NG kvs (by rw [e3 _ _ hdG] at q; rw [hdG, q])
      have Gv3 := Gv.go P3.bd P3.kno
      have hx3 := e3 _ _ hxs
      have ncast : n = ((n.toNat : Nat) : Int) := by omega
      refine ⟨_, rfl, .inl ⟨rfl, _, sq_of hx3⟩, ?_⟩
      refine ⟨_, rfl, _, rfl, _, rfl, _, rfl, ar, aa, d, rs, wJ, n.toNat, by rw [← ncast]; rfl, Gv3, by omega, by omega, by omega, fun l us G4 hl hus P4 hnl => ?_⟩
      have x4 : G4 f0 = some (.lst xs) := P4.bd _ _ fd hx3
      refine ⟨l, rfl, ⟨us, sq_of hl⟩, fun Dl hD => lc_it walk_list (Cwp G4 (fun _ => true) (fun k v G => ∃ r, ((ofF wJ 5 n.toNat).map fun w => [w])[k]? = some r ∧ RwV G v r) Dl) (cwp0 hD) (fun k G c => fun c => sq_of (c.2.1 _ _ hl)) ?_ ?_⟩
      · rintro k v G5 G6 hk c ⟨rfl, hv⟩
        obtain ⟨z, hz, hwz⟩ := hus.get hv
        refine ⟨rfl, cwp_turn (fun k v => ?_) c (Ex.refl _) (by have := hus.length; have := ofF_len Gv.ok (n := n.toNat) (by omega); omega) et_yes fun _ G6 e6 => ?_⟩
        · intro J1 J2 xs1 a0 a1 a2 a3 ⟨r', hr', hp⟩
          exact ⟨r', hr', hp.tx fun a ys q => a3 a _ (ne_of q a0 (by intro z; cases z)) q⟩
        · exact EvP.tup (eu_tup (ea_cons (ev_var rfl) ea_nil) (by show 1 ≤ 100000; decide)) fun a G7 e7 ha => ⟨[z], by rw [List.getElem?_map, hz] <;> rfl, a, [v], rfl, ha, (hwz.ext ((c.2.1.trans e6).trans e7)), trivial⟩
      · rintro G5 c
        obtain ⟨acc, hacc, hal, ha2⟩ := c.2.2
        have e45 := c.2.1
        have x5 := e45 _ _ x4
        have P5 : Post (ofF wJ 5) d H G5 := P3.trans Gv.kno (P4.trans P3.kno (Post.ext P4.kno e45))
        have N5' : NotK G5 d f0 := fun kvs q => P4.nk f0 (by rw [hx3]; exact Option.some_ne_none _) N3 kvs (by
          obtain ⟨kv4, hd4, _⟩ := P4.kno.ex
          rw [e45 _ _ hd4] at q
          rw [hd4, q])
        obtain ⟨kv5, hd5, _⟩ := P5.kno.ex
        have hxl := hA.length
        rw [outR0 _ _ _ (by omega)] at hA hxl
        have hxs0 : xs = [] := List.length_eq_zero_iff.mp hxl
        subst hxs0
        have t5 : Tx G5 (upd G5 f0 (.lst ([] ++ acc))) := Tx.lst x5
        have hul := hus.length
        have hofl := ofF_len Gv.ok (n := n.toNat) (by omega)
        refine ⟨f0, Dl, [], acc, rfl, rfl, x5, hacc, sz_of (by simp only [List.length_nil]; omega), ?_⟩
        refine s_ret (ev_var rfl) fun G6 e6 => k f0 _ G6 hf (e6 _ _ upd_same) ?_ ((P5.lst hf x5 N5').trans Gv.kno (Post.ext (P5.lst hf x5 N5').kno e6)) fun kvs q => (N5'.lst x5 hd5) kvs (by
          have q2 := (P5.lst (ys := [] ++ acc) hf x5 N5').kno.ex
          obtain ⟨kv6, hd6, _⟩ := q2
          rw [e6 _ _ hd6] at q
          rw [hd6, q])
        show A2 (RwV G6) ([] ++ acc) ((ofF wJ 5 n.toNat).map fun w => [w])
        rw [List.nil_append]
        rw [filter_true] at ha2
        have hl2 := ha2.length
        rw [List.length_range] at hl2
        refine A2.of_get (by rw [List.length_map]; omega) fun k' v r hv hr => ?_
        obtain ⟨i', hi', r', hr', q⟩ := ha2.getb hv
        have hk' : k' < us.length := by
          have := (List.getElem?_eq_some_iff.mp hv).1
          omega
        rw [List.getElem?_range hk'] at hi'
        cases hi'
        rw [hr'] at hr
        cases hr
        exact q.tx (t5.trans (Tx.of e6))
    · have hno := of_decide_eq_false hb
      refine s_ret (ev_var rfl) fun G4 e4 => k f0 xs G4 hf ((e3.trans e4) _ _ hxs) ?_ (PG.trans Gv.kno (Post.ext PG.kno (e3.trans e4))) fun kvs q => NG kvs (by
        rw [(e3.trans e4) _ _ hdG] at q
        rw [hdG, q])
      have hA4 := RwVs.tx (Tx.of (e3.trans e4)) hA
      rcases (by omega : m = 0 ∨ m = 1) with rfl | rfl
      · have hn0 : n ≤ 0 := by
          by_cases q : 0 < n
          · exact absurd ⟨rfl, q⟩ hno
          · omega
        have e0 : n.toNat = 0 := by omega
        have e5 : rowsM (ofF wJ 5) 1 n = [] := by
          show (ofF wJ 5 n.toNat).map _ = []
          rw [e0, Gv.ok.z] <;> rfl
        rw [e5]
        rw [e0] at hA4
        exact hA4
      · have e5 : rowsM (ofF wJ 5) 2 n = outR (ofF wJ 5) 1 n (n.toNat - 1) := by
          rw [outR1 _ _ _ (by omega)]
          rfl
        rw [e5]
        exact hA4
theorem ok_ro1 (T : T29 P w K mg base) {L : Nat} (hO : Ok P w K mg base "_law_of_weight" ["_law_rows", "_law_arities", "_law_weight", "_law_known"] (4 * L + 2) (spOW L)) {m : Nat} (hm : m < 2) (hR : Ok P w K mg base "_law_rows_of" ["_law_rows", "_law_arities", "_law_many", "_law_weight", "_law_known"] (4 * L + 3 + m) (spRO L m)) : Ok P w K mg base "_law_rows_of" ["_law_rows", "_law_arities", "_law_many", "_law_weight", "_law_known"] (4 * L + 3 + m + 1) (spRO L (m + 1)) :=
  T.ok 33 rfl sc_ro (fun vs H Q E h => by
    obtain ⟨ar, aa, d, rs, wJ, w, rfl, _⟩ := h
    rfl) (fun kV doc pm an cdv ct us hl => match us, hl with | [_, _, _, _, _], _ => rfl) (bd_ro1 T hO hm hR)
/-- with up to two parts -/
def spROU (L : Nat) : Sp := fun vs H Q E => ∃ m, m ≤ 2 ∧ spRO L m vs H Q E
theorem ok_rou (T : T29 P w K mg base) {L : Nat} (hO : Ok P w K mg base "_law_of_weight" ["_law_rows", "_law_arities", "_law_weight", "_law_known"] (4 * L + 2) (spOW L)) : Ok P w K mg base "_law_rows_of" ["_law_rows", "_law_arities", "_law_many", "_law_weight", "_law_known"] (4 * L + 5) (spROU L) :=
  T.ok 33 rfl sc_ro (fun vs H Q E h => by
    obtain ⟨m, hm, ar, aa, d, rs, wJ, w, rfl, _⟩ := h
    rfl) (fun kV doc pm an cdv ct us hl => match us, hl with | [_, _, _, _, _], _ => rfl) fun f cdv A outer s H vs Q E hr h => by
      obtain ⟨m, hm, h⟩ := h
      rcases (by omega : m = 0 ∨ m = 1 ∨ m = 2) with rfl | rfl | rfl
      · exact bd_ro0 T f cdv A outer s H vs Q E (hr.mono (by omega)) h
      · exact bd_ro1 T hO (m := 0) (by omega) (ok_ro0 T) f cdv A outer s H vs Q E (hr.mono (by omega)) h
      · exact bd_ro1 T hO (m := 1) (by omega) (ok_ro1 T hO (m := 0) (by omega) (ok_ro0 T)) f cdv A outer s H vs Q E (hr.mono (by omega)) h
end
end K29

set_option Elab.async false
set_option linter.all false
set_option maxRecDepth 100000
set_option maxHeartbeats 4000000
/-! of_weight, one more. -/
namespace K29
open PySem PySem.Spec PyProof.Rows L2 Evl
section
variable {κ : Type} [DecidableEq κ]
theorem mem_putK {kvs : List (κ × V)} {k : κ} {v : V} {kv : κ × V} (h : kv ∈ putK kvs k v) : kv ∈ kvs ∨ kv = (k, v) := by
  unfold putK at h
  split at h
  · obtain ⟨p, hp, e⟩ := List.mem_map.mp h
    by_cases q : p.1 = k
    · rw [if_pos q] at e
      right
      rw [← e, q]
    · rw [if_neg q] at e
      left
      rw [← e]
      exact hp
  · rcases List.mem_append.mp h with q | q
    · exact .inl q
    · exact .inr (by simpa using q)
theorem val_mem {kvs : List (κ × V)} {k : κ} {v : V} (h : valV kvs k = some v) : (k, v) ∈ kvs := by
  unfold valV at h
  obtain ⟨p, hp, rfl⟩ := Option.map_eq_some_iff.mp h
  have e := List.find?_some hp
  have e2 : p.1 = k := of_decide_eq_true e
  rw [← e2]
  exact List.mem_of_find?_eq_some hp
theorem put_mem (kvs : List (κ × V)) (k : κ) (v : V) : (k, v) ∈ putK kvs k v := val_mem (by rw [valV_put, if_pos rfl])
theorem nd_put2 {kvs : List (κ × V)} {k : κ} (v : V) (hn : (kvs.map (·.1)).Nodup) : ((putK kvs k v).map (·.1)).Nodup := by
  cases q : valV kvs k with
  | none => exact nd_putK v hn q
  | some u =>
    have e : (kvs.any fun kv => decide (kv.1 = k)) = true := by rw [valV_any, q]; rfl
    unfold putK
    rw [if_pos e, List.map_map]
    have f : ((fun kv : κ × V => kv.1) ∘ fun kv : κ × V => if kv.1 = k then (kv.1, v) else kv) = fun kv => kv.1 := by
      funext kv
      show (if kv.1 = k then (kv.1, v) else kv).1 = kv.1
      by_cases z : kv.1 = k
      · rw [if_pos z]
      · rw [if_neg z]
    rw [f]
    exact hn
end
theorem A2.of_rangeG {β γ : Type} {R S : V → γ → Prop} {rows : List β} {g : β → γ} {acc : List V} {n : Nat} (hn : n = rows.length) (h : A2 (fun k v => ∃ r, rows[k]? = some r ∧ R v (g r)) (List.range n) acc) (t : ∀ v c, R v c → S v c) : A2 S acc (rows.map g) := by
  have hl := h.length
  rw [List.length_range] at hl
  refine A2.of_get (by rw [List.length_map]; omega) fun k v r hv hr => ?_
  obtain ⟨i, hi, r', hr', q⟩ := h.getb hv
  have hk : k < n := by
    have := (List.getElem?_eq_some_iff.mp hv).1
    omega
  rw [List.getElem?_range hk] at hi
  cases hi
  rw [List.getElem?_map, hr'] at hr
  cases hr
  exact t _ _ q
theorem row2_len {o : Nat → List Wd} {left : Nat} : ∀ (k : Nat) {r : List Wd}, r ∈ row2 o left k → r.length = 2
  | 0, r, h => by simp [row2] at h
  | k + 1, r, h => by
    rcases List.mem_append.mp (show r ∈ row2 o left k ++ (o (k + 1)).flatMap fun w => (o (left - (k + 1))).map fun v => [w, v] from h) with q | q
    · exact row2_len k q
    · obtain ⟨w, _, q⟩ := List.mem_flatMap.mp q
      obtain ⟨v, _, rfl⟩ := List.mem_map.mp q
      rfl
theorem rowsM_len {o : Nat → List Wd} {m : Nat} (hm : m ≤ 2) {n : Int} {r : List Wd} (h : r ∈ rowsM o m n) : r.length = m := by
  rcases (by omega : m = 0 ∨ m = 1 ∨ m = 2) with rfl | rfl | rfl
  · have h' : r ∈ (if n = 0 then ([[]] : List (List Wd)) else []) := h
    by_cases q : n = 0
    · rw [if_pos q] at h'
      obtain rfl : r = [] := by simpa using h'
      rfl
    · rw [if_neg q] at h'
      simp at h'
  · obtain ⟨w, _, rfl⟩ := List.mem_map.mp (show r ∈ (o n.toNat).map fun w => [w] from h)
    rfl
  · exact row2_len _ (show r ∈ row2 o n.toNat (n.toNat - 1) from h)
theorem arJ_le (j : Nat) : arJ j ≤ 2 := by
  match j with
  | 0 => decide
  | 1 => decide
  | 2 => decide
  | _ + 3 => show 2 ≤ 2; decide
theorem mkJ_nm {j : Nat} (hj : j < 4) {r : List Wd} (h : r.length = arJ j) : (mkJ j r).nm = nmJ j ∧ (mkJ j r).args = r := by
  rcases (by omega : j = 0 ∨ j = 1 ∨ j = 2 ∨ j = 3) with rfl | rfl | rfl | rfl
  · have e := List.length_eq_zero_iff.mp h
    subst e
    exact ⟨rfl, rfl⟩
  · have e := List.length_eq_zero_iff.mp h
    subst e
    exact ⟨rfl, rfl⟩
  · match r, h with
    | [x], _ => exact ⟨rfl, rfl⟩
  · match r, h with
    | [x, y], _ => exact ⟨rfl, rfl⟩
/-- the words of a weight, the first j names' -/
def uptoJ (wJ : Nat → Nat) (o : Nat → List Wd) (n : Nat) : Nat → List Wd
  | 0 => []
  | j + 1 => uptoJ wJ o n j ++ wordsJ wJ o n j
theorem upto_four (wJ : Nat → Nat) (o : Nat → List Wd) (n : Nat) : uptoJ wJ o n 4 = wordsOf wJ o n := rfl
theorem upto_len (wJ : Nat → Nat) (o : Nat → List Wd) (n : Nat) : ∀ {i j : Nat}, i ≤ j → (uptoJ wJ o n i).length ≤ (uptoJ wJ o n j).length
  | i, 0, h => by
    obtain rfl : i = 0 := by omega
    exact Nat.le_refl _
  | i, j + 1, h => by
    by_cases q : i = j + 1
    · subst q
      exact Nat.le_refl _
    · have := upto_len wJ o n (i := i) (j := j) (by omega)
      show _ ≤ (uptoJ wJ o n j ++ wordsJ wJ o n j).length
      rw [List.length_append]
      omega
section
variable {P : Program} {w : World} {K : PySem.W.Frag} {mg : Str → Option Value} {base : Heap} {C : Addr} {σ : L2.St} {H : Hp} {ta tb te : TE} {v : V}
theorem ev_dgetP {kvs : List (Key × V)} {k : Key} (h : EvP ta σ H (fun x G => ∃ d, x = .ref d ∧ G d = some (.dK kvs))) (hk : Ev tb σ H (kV k)) (l : valV kvs k = some v) : Ev (tDGet ta tb) σ H v := fun H1 e Q q =>
  h H1 e _ fun x H2 e2 ⟨d, hx, hd⟩ => hk H2 (e.trans e2) _ fun H3 e3 => ⟨d, v, hx, l ▸ DGet.k (e3 _ _ hd), q H3 (e2.trans e3)⟩
theorem ev_leftW {a : Addr} {xs : List V} {rs : List (Str × Int)} {n : Int} {nm : Str} {i0 i2 i5 : Nat} (h0 : σ[i0]? = some (some (.ref a))) (h2 : σ[i2]? = some (some (.int n))) (h5 : σ[i5]? = some (some (.str nm))) (ha : SqL K H a xs) (hR : RVs H xs rs) (nd : (rs.map (·.1)).Nodup) (hm : nm ∈ rs.map (·.1)) :
    Ev (tOp (rI0 fun i j => .int (i - j)) (tVar i2) (tDGet (tDict K (tVar i0)) (tVar i5))) σ H (.int (n - wOf rs nm)) :=
  ev_op (ev_var h2) (ev_dgetP (kvs := wkv rs) (k := Sum.inr nm) (ev_dictR (P := fun v G => ∃ d, v = .ref d ∧ G d = some (.dK (wkv rs))) (ev_var h0) ha hR nd (fun d G _ h => ⟨d, rfl, h⟩)) (ev_var h5) (val_w hm)) rv_I0
theorem nmJ5 {j : Nat} (h : j < 4) : nmJ j ∈ (["a", "b", "f", "g", "p"] : List Str) := by
  rcases (by omega : j = 0 ∨ j = 1 ∨ j = 2 ∨ j = 3) with rfl | rfl | rfl | rfl <;> simp [nmJ]
theorem NotK.ext {o : Nat → List Wd} {H G : Hp} {d f : Addr} (k : Kno o H d) (e : Ex H G) (n : NotK H d f) : NotK G d f := fun kvs q => n kvs (by
  obtain ⟨kv3, hd3, _⟩ := k.ex
  rw [e _ _ hd3] at q
  rw [hd3, q])
theorem wj_len {wJ : Nat → Nat} (ok : OkW wJ) {n j : Nat} (h1 : 1 ≤ n) (h4 : n ≤ 4) (hj : j < 4) : (rowsM (ofF wJ 5) (arJ j) ((n : Int) - (wJ j : Int))).length ≤ 60 ∧ (uptoJ wJ (ofF wJ 5) n j).length ≤ 60 := by
  have a := upto_len wJ (ofF wJ 5) n (i := j + 1) (j := 4) (by omega)
  have b := ofF_len ok h4
  rw [ok.eq n h1 h4, ← upto_four] at b
  have c : (uptoJ wJ (ofF wJ 5) n (j + 1)).length = (uptoJ wJ (ofF wJ 5) n j).length + (rowsM (ofF wJ 5) (arJ j) ((n : Int) - (wJ j : Int))).length := by
    show (uptoJ wJ (ofF wJ 5) n j ++ (rowsM (ofF wJ 5) (arJ j) ((n : Int) - (wJ j : Int))).map (mkJ j)).length = _
    rw [List.length_append, List.length_map]
  omega
theorem Post.put {wJ : Nat → Nat} {n : Nat} {d f0 : Addr} {H G : Hp} {ys : List V} {kvG : List (Key × V)} (PG : Post (ofF wJ 5) d H G) (hf : H f0 = none) (hdG : G d = some (.dK kvG)) (hys : G f0 = some (.lst ys)) (hB : WVs G ys (ofF wJ 5 n)) (h1 : 1 ≤ n) (h4 : n ≤ 4) :
    Post (ofF wJ 5) d H (upd G d (.dK (putK kvG (Sum.inl (n : Int) : Key) (.ref f0)))) := by
  have fd : f0 ≠ d := ne_of hys hdG (by intro z; cases z)
  have tx : Tx G (upd G d (.dK (putK kvG (Sum.inl (n : Int) : Key) (.ref f0)))) := Tx.dct hdG
  obtain ⟨kv', hd', hn', hk'⟩ := PG.kno.ex
  obtain rfl : kv' = kvG := by
    rw [hdG] at hd'
    cases hd'
    rfl
  refine ⟨⟨_, upd_same, nd_put2 _ hn', fun kv h => ?_⟩, fun b o hb h => ?_, fun f hfn hnk kvs' h kv hk => ?_⟩
  · rcases mem_putK h with q | q
    · obtain ⟨m, l, xs, a, b, c, e, g⟩ := hk' kv q
      exact ⟨m, l, xs, a, b, c, by rw [upd_ne (ne_of e hdG (by intro z; cases z))]; exact e, g.tx tx⟩
    · exact ⟨n, f0, ys, q, h1, h4, by rw [upd_ne fd]; exact hys, hB.tx tx⟩
  · rw [upd_ne hb]
    exact PG.bd b o hb h
  · rw [upd_same] at h
    cases h
    rcases mem_putK hk with q | q
    · exact PG.nk f hfn hnk _ hdG kv q
    · rw [q]
      intro z
      have e := V.ref.inj z
      subst e
      exact hfn hf
abbrev nOW : List Str := ["_law_rows", "_law_arities", "_law_weight", "_law_known", "_law_found", "_law_name", "_law_many", "_law_left", "_law_row"]
theorem sc_ow : FnScope nOW ["_law_rows", "_law_arities", "_law_weight", "_law_known"] (defScope s__law_of_weight) := ⟨rfl, rfl, rfl, by decide +kernel, rfl, by decide +kernel, by decide +kernel⟩
theorem ArV.at_ {a : Addr} {xs : List V} (h : ArV H a) (hx : H a = some (.lst xs)) : xs.length = 4 ∧ ∀ (j : Nat) x, xs[j]? = some x → j < 4 ∧ ∃ t, x = .ref t ∧ H t = some (.tup [.str (nmJ j), .int (arJ j : Nat)]) := by
  obtain ⟨t0, t1, t2, t3, h1, h2, h3, h4, h5⟩ := h
  rw [hx] at h1
  obtain rfl : xs = [.ref t0, .ref t1, .ref t2, .ref t3] := by
    have := Option.some.inj h1
    cases this
    rfl
  refine ⟨rfl, fun j x hj => ?_⟩
  match j, hj with
  | 0, e => exact ⟨by decide, t0, (Option.some.inj e).symm, h2⟩
  | 1, e => exact ⟨by decide, t1, (Option.some.inj e).symm, h3⟩
  | 2, e => exact ⟨by decide, t2, (Option.some.inj e).symm, h4⟩
  | 3, e => exact ⟨by decide, t3, (Option.some.inj e).symm, h5⟩
  | _ + 4, e => simp at e
theorem ok_ow (T : T29 P w K mg base) {L : Nat} (hR : Ok P w K mg base "_law_rows_of" ["_law_rows", "_law_arities", "_law_many", "_law_weight", "_law_known"] (4 * L + 5) (spROU L)) : Ok P w K mg base "_law_of_weight" ["_law_rows", "_law_arities", "_law_weight", "_law_known"] (4 * L + 5 + 1) (spOW (L + 1)) := by
  obtain ⟨fR, dR, GR, bR, kR, mR⟩ := hR.ex
  refine T.ok 32 rfl sc_ow (fun vs H Q E h => ?_) (fun kV doc pm an cdv ct us hl => match us, hl with | [_, _, _, _], _ => rfl) (fun f cdv A outer s H vs Q E hr h => ?_)
  · obtain ⟨ar, aa, d, rs, wJ, n, rfl, _⟩ := h
    rfl
  obtain ⟨ar, aa, d, rs, wJ, n, rfl, Gv, h1, hL, h4, k⟩ := h
  refine ⟨_, pss_cons (ps_if (pt_cmp (pc_dnotin (hu_of hr) (pv 2) (pv 3)))
      (pss_cons (ps_set (i := 4) sc_ow.nd rfl (Or.inl rfl) (pe_lst pa_nil))
      (pss_cons (ps_for PassesOwn.never rfl (pi_list (pv 1)) (pg_tup rfl (pgs_cons (pg_name (i := 5) sc_ow.nd rfl (Or.inr rfl)) (pgs_cons (pg_name (i := 6) sc_ow.nd rfl (Or.inl rfl)) pgs_nil)))
        (pss_cons (ps_set (i := 7) sc_ow.nd rfl (Or.inl rfl) (pe_op op_sub (pv 2) (pe_dget (hu_of hr) (pe_callTy (call_dictP rfl) (by rfl) T.dict (by decide +kernel) (pa_cons (pv 0) pa_nil)) (pv 5) (fun _ _ => rfl))))
        (pss_one (ps_expr (pe_bm PySem.F.plainAttrs_list PySem.F.slot_list_extend PySem.F.type_list_extend mt_extend (pv 4) (pa_cons
          (pe_lc (own := [("_law_row", 8)]) (g := gName 8) (tt := tYes) (te := tOp (rCatA K) (tTup (tCons (tVar 5) tNil)) (tVar 8)) rfl sc_ow.nd (pi_list (pe_call GR hr (by rfl) mR kR bR .nil pass0 (pa_cons (pv 0) (pa_cons (pv 1) (pa_cons (pv 6) (pa_cons (pv 7) (pa_cons (pv 3) pa_nil))))))) (blkOk_by (N := nOW) (sc := defScope s__law_of_weight) (by decide +kernel))
            (fun _ _ _ _ _ => pg_name (i := 8) sc_ow.nd rfl (Or.inl rfl)) (fun _ _ _ _ _ => pts_nil) (fun _ _ _ _ _ => pe_op op_catA (pe_tup (pa_cons (pv 5) pa_nil)) (pv 8))) pa_nil))))))
      (pss_one (ps_dput (hu_of hr) (pv 3) (pv 2) (pv 4) rfl)))) pss_nil)
    (pss_one (ps_ret (pe_dget (hu_of hr) (pv 3) (pv 2) (fun _ _ => rfl)))), ?_⟩
  obtain ⟨kvs, hd, hnd, hk⟩ := Gv.kno.ex
  refine q_when (b := !(valV kvs (Sum.inl (n : Int) : Key)).isSome) (et_B (ev_dnin (k := Sum.inl (n : Int)) (ev_var rfl) (ev_var rfl) hd rfl)) (fun hb H1 e1 => ?_) fun hb H1 e1 => ?_
  case refine_2 =>
    cases q : valV kvs (Sum.inl (n : Int) : Key) with
    | none =>
      rw [q] at hb
      cases hb
    | some x =>
      have hm := val_mem q
      obtain ⟨m, l, xs, e, a, b, hl, hxs⟩ := hk _ hm
      have g2 := congrArg Prod.fst e
      have g3 : x = .ref l := congrArg Prod.snd e
      have g4 : (n : Int) = (m : Int) := Sum.inl.inj g2
      have g5 : n = m := by omega
      clear g2 e
      subst g5 g3
      refine s_ret (ev_dget (k := Sum.inl (n : Int)) (ev_var rfl) (ev_var rfl) (e1 _ _ hd) q) fun H2 e2 => k l xs H2 ((e1.trans e2) _ _ hl) (hxs.ext (e1.trans e2)) (Post.ext Gv.kno (e1.trans e2)) fun f hf z => ?_
      subst z
      exact hf kvs ((e1.trans e2) _ _ hd) _ hm rfl
  refine q_asgL (el_lst ea_nil (by show 0 ≤ 100000; decide)) fun f0 H2 hf0 e2 h2 => ?_
  have e02 := e1.trans e2
  have hf : H f0 = none := fresh_back e1 hf0
  have P2 : Post (ofF wJ 5) d H H2 := Post.ext Gv.kno e02
  have N2 : NotK H2 d f0 := NotK.new Gv.kno hf fun kvs q => e02 _ _ q
  obtain ⟨as, has⟩ : ∃ as, H aa = some (.lst as) := by
    obtain ⟨t0, t1, t2, t3, q, _⟩ := Gv.ars
    exact ⟨_, q⟩
  have aln := (Gv.ars.at_ has).1
  have haa : ∀ {G}, Post (ofF wJ 5) d H G → G aa = some (.lst as) := fun p => p.bd _ _ (ne_of has hd (by intro z; cases z)) has
  refine ⟨_, rfl, aa, rfl, ⟨as, sq_of (haa P2)⟩, for_list (xs := as) (fun j σ' G => Post (ofF wJ 5) d H G ∧ NotK G d f0 ∧ (∃ o5 o6 o7 : Option V, σ' = [some (.ref ar), some (.ref aa), some (.int (n : Nat)), some (.ref d), some (.ref f0), o5, o6, o7, none]) ∧ ∃ xs, G f0 = some (.lst xs) ∧ A2 (WV G) xs (uptoJ wJ (ofF wJ 5) n j)) ?_ ?_ ?_ ?_⟩
  · exact ⟨P2, N2, ⟨none, none, none, rfl⟩, [], h2, trivial⟩
  · exact fun j σ' G _ z => sq_of (haa z.1)
  · rintro j x σ' G hx ⟨PG, NG, ⟨o5, o6, o7, rfl⟩, ys, hys, hB⟩
    have GvG := Gv.go PG.bd PG.kno
    obtain ⟨hj, t, rfl, ht⟩ := (GvG.ars.at_ (haa PG)).2 j x hx
    obtain ⟨kvG, hdG, _⟩ := PG.kno.ex
    obtain ⟨rxs, hrx, hrv⟩ := GvG.rows
    refine ⟨t, _, rfl, st_of ht, rfl, _, _, rfl, _, _, rfl, rfl, ?_⟩
    refine q_asg (v := .int ((n : Int) - (wJ j : Int))) (ev_is (ev_leftW (nm := nmJ j) rfl rfl rfl (sq_of hrx) hrv GvG.R.nd (GvG.hN _ (nmJ5 hj))) (by rw [GvG.wj j hj])) fun H3 e3 => ?_
    have Gv3 := GvG.ext e3
    have hy3 := e3 _ _ hys
    refine ⟨_, rfl, .inl ⟨rfl, _, sq_of hy3⟩, ?_⟩
    have w1 := Gv.w1 j hj
    have hLj : ((n : Int) - (wJ j : Int)) ≤ (L : Int) := by omega
    refine ⟨_, rfl, _, rfl, _, rfl, _, rfl, _, rfl, arJ j, arJ_le j, ar, aa, d, rs, wJ, (n : Int) - (wJ j : Int), rfl, Gv3, by omega, by omega, by have := Gv.w2 j hj; omega, fun lr rx G4 hlr0 hlr hrx4 P4 N4 => ?_⟩
    have tG4 : Tx H3 G4 := Gv3.kno.tx P4.bd
    have fd : f0 ≠ d := ne_of hys hdG (by intro z; cases z)
    obtain ⟨l60, u60⟩ := wj_len Gv.ok h1 h4 hj
    have hrxl := hrx4.length
    refine ⟨lr, rfl, ⟨rx, sq_of hlr⟩, fun Dl hD => lc_it walk_list (Cwp G4 (fun _ => true) (fun k v G => ∃ r, (rowsM (ofF wJ 5) (arJ j) ((n : Int) - (wJ j : Int)))[k]? = some r ∧ WV G v (mkJ j r)) Dl) (cwp0 hD) (fun k G _ c => sq_of (c.2.1 _ _ hlr)) ?_ ?_⟩
    · rintro k' v G5 G6 hk' c ⟨rfl, hv⟩
      obtain ⟨r, hr5, t2, ts, rfl, ht2, hts⟩ := hrx4.get hv
      have hrl := rowsM_len (arJ_le j) (List.mem_of_getElem? hr5)
      refine ⟨rfl, cwp_turn (fun k v => ?_) c (Ex.refl _) (by omega) et_yes fun _ G6 e6 => ?_⟩
      · intro J1 J2 xs1 a0 a1 a2 a3 ⟨r', hr', hp⟩
        exact ⟨r', hr', hp.tx fun a ys q => a3 a _ (ne_of q a0 (by intro z; cases z)) q⟩
      · have e46 := c.2.1.trans e6
        have hal := arJ_le j
        refine evp_cat (x := .str (nmJ j)) (eu_tup (ea_cons (ev_var rfl) ea_nil) (by show 1 ≤ 100000; decide)) (ev_var rfl) (st_of (e46 _ _ ht2)) (by have := hts.length; omega) fun a G7 e7 ha => ⟨r, hr5, WV.of (by rw [(mkJ_nm hj hrl).1]; exact ha) (by rw [(mkJ_nm hj hrl).2]; exact hts.ext (e46.trans e7))⟩
    · rintro G5 c
      obtain ⟨acc, hacc, hal, ha2⟩ := c.2.2
      have e45 := c.2.1
      have hy5 : G5 f0 = some (.lst ys) := e45 _ _ (P4.bd _ _ fd hy3)
      have P5 : Post (ofF wJ 5) d H G5 := PG.trans Gv.kno ((Post.ext PG.kno e3).trans PG.kno (P4.trans Gv3.kno (Post.ext P4.kno e45)))
      have N5 : NotK G5 d f0 := (P4.nk f0 (by rw [hy3]; exact Option.some_ne_none _) (NG.ext PG.kno e3)).ext P4.kno e45
      obtain ⟨kv5, hd5, _⟩ := P5.kno.ex
      have hyl := hB.length
      refine ⟨f0, Dl, ys, acc, rfl, rfl, hy5, hacc, sz_of (by omega), ?_⟩
      have t5 : Tx G (upd G5 f0 (.lst (ys ++ acc))) := ((Tx.of e3).trans (tG4.trans (Tx.of e45))).trans (Tx.lst hy5)
      refine ⟨P5.lst hf hy5 N5, N5.lst hy5 hd5, ⟨_, _, _, rfl⟩, ys ++ acc, upd_same, ?_⟩
      show A2 _ (ys ++ acc) (uptoJ wJ (ofF wJ 5) n j ++ (rowsM (ofF wJ 5) (arJ j) ((n : Int) - (wJ j : Int))).map (mkJ j))
      exact A2.append (A2.mono (fun _ _ q => q.tx t5) hB) (A2.of_rangeG (R := WV G5) hrxl (by rw [filter_true] at ha2; exact ha2) fun v c q => q.tx (Tx.lst hy5))
  · rintro σ' G ⟨PG, NG, ⟨o5, o6, o7, rfl⟩, ys, hys, hB⟩
    rw [aln, upto_four, ← Gv.ok.eq n h1 h4] at hB
    have hB2 := wvs_a2 hB
    obtain ⟨kvG, hdG, hnG, hkG⟩ := PG.kno.ex
    have fd : f0 ≠ d := ne_of hys hdG (by intro z; cases z)
    have hl4 : kvG.length ≤ 4 := Kno.len (d := d) hnG hkG
    have PP := PG.put hf hdG hys hB2 h1 h4
    refine ⟨_, rfl, _, rfl, _, rfl, d, _, rfl, DPut.k (k := Sum.inl (n : Int)) hdG (sz_lt (by omega)), ?_⟩
    refine s_ret (ev_dget (k := Sum.inl (n : Int)) (ev_var rfl) (ev_var rfl) upd_same (by rw [valV_put, if_pos rfl])) fun H3 e3 => k f0 ys H3 (e3 _ _ (by rw [upd_ne fd]; exact hys)) ((hB2.tx (Tx.dct hdG)).ext e3) (PP.trans Gv.kno (Post.ext PP.kno e3)) fun f hf' z => ?_
    subst z
    exact hf' _ (e3 _ _ upd_same) _ (put_mem _ _ _) rfl
/-- there is no word of weight 0 -/
theorem ok_ow0 (T : T29 P w K mg base) : Ok P w K mg base "_law_of_weight" ["_law_rows", "_law_arities", "_law_weight", "_law_known"] 2 (spOW 0) :=
  T.ok 32 rfl sc_ow (fun vs H Q E h => by
    obtain ⟨ar, aa, d, rs, wJ, n, rfl, _⟩ := h
    rfl) (fun kV doc pm an cdv ct us hl => match us, hl with | [_, _, _, _], _ => rfl) fun f cdv A outer s H vs Q E hr h => by
      obtain ⟨ar, aa, d, rs, wJ, n, _, _, h1, h0, _⟩ := h
      omega
theorem ok_of_weight (T : T29 P w K mg base) : ∀ L, Ok P w K mg base "_law_of_weight" ["_law_rows", "_law_arities", "_law_weight", "_law_known"] (4 * L + 2) (spOW L)
  | 0 => ok_ow0 T
  | L + 1 => ok_ow T (ok_rou T (ok_of_weight T L))
end
end K29

set_option Elab.async false
set_option linter.all false
set_option maxRecDepth 100000
set_option maxHeartbeats 4000000
/-! Every other one of three: t[::2]. -/
namespace K29
open PySem PySem.Spec PyProof.Rows L2 Evl
theorem pick_two (a b c : Value) : slicePick ([a, b, c] : List Value).toArray none none (some 2) = ([a, c] : List Value).toArray := by
  have e1 : sliceBounds none none (some 2) 3 = (0, 3, 2) := by decide
  have e2 : sliceRange 0 3 2 = [0, 2] := by decide
  show ((sliceRange (sliceBounds none none (some 2) 3).1 (sliceBounds none none (some 2) 3).2.1 (sliceBounds none none (some 2) 3).2.2).filterMap fun i => (#[a, b, c] : Array Value)[i]?).toArray = _
  rw [e1]
  show ((sliceRange 0 3 2).filterMap fun i => (#[a, b, c] : Array Value)[i]?).toArray = _
  rw [e2]
  rfl
def tOther (K : PySem.W.Frag) (te : TE) : TE := fun σ H Q => te σ H fun x H1 => ∃ a u v z, x = .ref a ∧ SqL K H1 a [u, v, z] ∧ ∀ p, H1 p = none → Q (.ref p) (upd H1 p (.lst [u, z]))
theorem pe_other {X : Cx} {e : Expr} {te : TE} {j : Nat} {r1 r2 r3 : Pos} (he : PE X e te) : PE X (.Subscript e (.Slice none none (some (.Constant (.int 2) j r1)) r2) r3) (tOther X.K te) := by
  refine ⟨fun pns sA σA HA QA IA hA => ?_⟩
  refine Subscript_ (thn (he.run pns sA σA HA _ IA hA) fun vA sB hB => ?_)
  obtain ⟨x, HB, IB, rB, a, u, v, z, ex, hx, q⟩ := hB
  subst ex
  cases rB
  have hst : PO X (some (.Constant (.int 2) j r1)) (tPart (tC (.int 2))) := po_some pe_int
  refine wpAny_Slice (thn (po_none.run pns sB σA HB (fun o G => o = none ∧ G = HB) IB ⟨rfl, rfl⟩) fun v1 sC hC => ?_)
  obtain ⟨l1, HC, IC, pl, el, eC⟩ := hC
  subst el eC
  refine thn (po_none.run pns sC σA HC (fun o G => o = none ∧ G = HC) IC ⟨rfl, rfl⟩) fun v2 sD hD => ?_
  obtain ⟨l2, HD, ID, pu, eu, eD⟩ := hD
  subst eu eD
  refine thn (hst.run pns sD σA HD (fun o G => o = some 2 ∧ G = HD) ID ⟨2, rfl, rfl, rfl⟩) fun v3 sE hE => ?_
  obtain ⟨l3, HE, IE, ps, eo, eE⟩ := hE
  subst eo eE
  have IF : Inv X pns σA HE { sE with heap := sE.heap.push { cls := .type "slice", data := .fields #[v1, v2, v3] } } := IE.kept (t' := sE.toks) fun _ _ k => Heap.get?_push_of_some _ k
  obtain ⟨its, r, ht, hz⟩ := IF.list hx
  obtain ⟨w1, w2, w3, rfl, g1, g2, g3⟩ : ∃ w1 w2 w3, its = [w1, w2, w3] ∧ RelV u w1 ∧ RelV v w2 ∧ RelV z w3 := by
    cases r with
    | cons p q =>
      cases q with
      | cons p' q' =>
        cases q' with
        | cons p'' q'' =>
          cases q''
          exact ⟨_, _, _, rfl, p, p', p''⟩
  show wpAny (model X.prog X.w) X.A (subscriptTail e (.Slice none none (some (.Constant (.int 2) j r1)) r2) (.ref a) (.ref sE.heap.objs.size)) (EP X pns σA QA) X.xe { sE with heap := sE.heap.push { cls := .type "slice", data := .fields #[v1, v2, v3] } }
  refine tail_any (ops := [.ref a, .ref sE.heap.objs.size]) ht.isList.typeIs PySem.slot_list_getitem.lookup ?_ (by with_unfolding_all rfl)
  refine wpAny_getItem_list_slice ht.isList (Heap.IsSliceOf.new _ v1 v2 v3) pl pu ps (by decide) ?_ (by show 3 ≤ sizeLine; decide)
  rw [pick_two]
  refine ⟨.ref _, _, IF.laid (t' := sE.toks) (o := .lst [u, z]) (fun _ _ k => Heap.get?_push_of_some _ k) (Nat.le_refl _) ?_, rfl, q _ (IF.hok.fresh (Nat.le_refl _))⟩
  exact ⟨by show 2 ≤ sizeLine; decide, _, 0, .cons g1 (.cons g3 .nil), Heap.get?_push_size _ rfl⟩
end K29

set_option Elab.async false
set_option linter.all false
set_option maxRecDepth 100000
set_option maxHeartbeats 4000000
/-! Rows, names. -/
namespace K29
open PySem PySem.Spec PyProof.Rows L2 Evl
def unV : V → Str
  | .str s => s
  | _ => "a"
theorem perm_strs {ys : List V} {ns : List Str} (h : ys.Perm (ns.map V.str)) : ∃ ms : List Str, ys = ms.map V.str ∧ ms.Perm ns := by
  refine ⟨ys.map unV, ?_, ?_⟩
  · rw [List.map_map]
    refine (List.map_id ys).symm.trans (List.map_congr_left fun y hy => ?_)
    obtain ⟨s, _, rfl⟩ := List.mem_map.mp (h.mem_iff.mp hy)
    rfl
  · have e := h.map unV
    rw [List.map_map] at e
    have f : (unV ∘ V.str) = id := rfl
    rw [f, List.map_id] at e
    exact e
theorem rvs_a2 {H : Hp} : ∀ {xs : List V} {rs : List (Str × Int)}, A2 (RV H) xs rs → RVs H xs rs := fun h => ⟨h.length, fun i v hv => h.get hv⟩
/-- what the law's rows are: five names, weights one or two -/
structure RwO (rs : List (Str × Int)) : Prop where
  ok : RowsOk rs
  all : AllN rs
  two : ∀ r ∈ rs, r.2 ≤ 2
theorem rwo_of {rs : List (Str × Int)} (h : (rs.map (·.1)).Perm N5) (h2 : ∀ r ∈ rs, 1 ≤ r.2 ∧ r.2 ≤ 2) : RwO rs := by
  have hl : rs.length = 5 := by
    have := h.length_eq
    rw [List.length_map] at this
    exact this
  refine ⟨⟨fun r hr => h.mem_iff.mp (List.mem_map.mpr ⟨r, hr, rfl⟩), h.nodup_iff.mpr (by decide), fun r hr => ⟨(h2 r hr).1, by have := (h2 r hr).2; omega⟩, by omega⟩, fun x hx => h.mem_iff.mpr hx, fun r hr => (h2 r hr).2⟩
theorem wOf_mem {x : Str} : ∀ {rs : List (Str × Int)}, x ∈ rs.map (·.1) → ∃ r ∈ rs, wOf rs x = r.2
  | [], h => by simp at h
  | r :: rs, h => by
    by_cases q : r.1 = x
    · exact ⟨r, by simp, if_pos q⟩
    · obtain ⟨s, hs, e⟩ := wOf_mem (x := x) (rs := rs) (by
        rw [List.map_cons] at h
        rcases List.mem_cons.mp h with z | z
        · exact absurd z.symm q
        · exact z)
      exact ⟨s, by simp [hs], (if_neg q).trans e⟩
/-- the weights of the law's names -/
def wJof (rs : List (Str × Int)) : Nat → Nat := w4 (wOf rs "a").toNat (wOf rs "b").toNat (wOf rs "f").toNat (wOf rs "g").toNat
theorem wJ_facts {rs : List (Str × Int)} (R : RwO rs) : (∀ j, j < 4 → wOf rs (nmJ j) = (wJof rs j : Int)) ∧ (∀ j, j < 4 → 1 ≤ wJof rs j) ∧ (∀ j, j < 4 → wJof rs j ≤ 2) ∧ OkW (wJof rs) := by
  have f : ∀ x ∈ N5, 1 ≤ wOf rs x ∧ wOf rs x ≤ 2 := fun x hx => by
    obtain ⟨r, hr, e⟩ := wOf_mem (R.all x hx)
    rw [e]
    exact ⟨(R.ok.one r hr).1, R.two r hr⟩
  have fa := f "a" (by simp [N5])
  have fb := f "b" (by simp [N5])
  have ff := f "f" (by simp [N5])
  have fg := f "g" (by simp [N5])
  refine ⟨fun j hj => ?_, fun j hj => ?_, fun j hj => ?_, okW_four (by omega) (by omega) (by omega) (by omega)⟩
  · rcases (by omega : j = 0 ∨ j = 1 ∨ j = 2 ∨ j = 3) with rfl | rfl | rfl | rfl
    · show wOf rs "a" = ((wOf rs "a").toNat : Int); omega
    · show wOf rs "b" = ((wOf rs "b").toNat : Int); omega
    · show wOf rs "f" = ((wOf rs "f").toNat : Int); omega
    · show wOf rs "g" = ((wOf rs "g").toNat : Int); omega
  · rcases (by omega : j = 0 ∨ j = 1 ∨ j = 2 ∨ j = 3) with rfl | rfl | rfl | rfl
    · show 1 ≤ (wOf rs "a").toNat; omega
    · show 1 ≤ (wOf rs "b").toNat; omega
    · show 1 ≤ (wOf rs "f").toNat; omega
    · show 1 ≤ (wOf rs "g").toNat; omega
  · rcases (by omega : j = 0 ∨ j = 1 ∨ j = 2 ∨ j = 3) with rfl | rfl | rfl | rfl
    · show (wOf rs "a").toNat ≤ 2; omega
    · show (wOf rs "b").toNat ≤ 2; omega
    · show (wOf rs "f").toNat ≤ 2; omega
    · show (wOf rs "g").toNat ≤ 2; omega
section
variable {K : PySem.W.Frag} {σ : L2.St} {D : Ends} {tz : TS} {p q : Addr} {n : Int} {H : Hp}
/-- the rows, drawn -/
theorem q_rows (h1 : σ[1]? = some (some (.ref p))) (hw0 : ∀ x : V, ((wipe σ [16]).set 16 (some x))[1]? = some (some (.ref p))) (hw16 : ∀ x : V, ((wipe σ [16]).set 16 (some x))[16]? = some (some x)) (hw : ∀ x, wipe ((wipe σ [16]).set 16 (some x)) [16] = wipe σ [16]) (S : Spr H p q n) (hn : n < 80000)
    (k : ∀ ar xs rs G, H ar = none → G ar = some (.lst xs) → RVs G xs rs → RwO rs → Spr G p q (n + 10) → But p q H G → tz D (σ.set 3 (some (.ref ar))) G) :
    tSeq (tAsg (tLc (iList K (tCall (spMix K) [] E0 (tCons (tVar 1) (tCons (tLst (tCons (tC (.str "a")) (tCons (tC (.str "b")) (tCons (tC (.str "f")) (tCons (tC (.str "g")) (tCons (tC (.str "p")) tNil)))))) tNil)))) (gName 16) tYes
      (tTup (tCons (tVar 16) (tCons (tOp (rI0 fun i j => .int (i + j)) (tC (.int 1)) (tCall spDr [] E0 (tCons (tVar 1) (tCons (tC (.int 2)) tNil)))) tNil))) [16]) (gName 3)) tz D σ H := by
  refine ⟨_, h1, by show 5 ≤ sizeLine; decide, fun l hl => ?_⟩
  have e1 : Ex H (upd H l (.lst (N5.map V.str))) := Ex.new hl
  refine ⟨p, q, l, n, N5.map V.str, rfl, S.ext e1, by show n + 5 < 90000; omega, by decide, sq_of upd_same, fun r G2 ys hr hG2 hperm S2 B2 => ?_⟩
  obtain ⟨names, rfl, hnm⟩ := perm_strs hperm
  have hnl : names.length = 5 := hnm.length_eq
  obtain ⟨sx, sy, Sp, Sq⟩ := S2.lst
  obtain ⟨hx, hy, Hp', Hq'⟩ := (S.ext e1).lst
  have rp : r ≠ p := (ne_of_none Hp' hr).symm
  have rq : r ≠ q := (ne_of_none Hq' hr).symm
  refine ⟨r, rfl, ⟨names.map V.str, sq_of hG2⟩, fun Dl hD => lc_it walk_list (fun i G => But p q G2 G ∧ Spr G p q (n + 5 + (i : Int)) ∧ ∃ acc rs, G Dl = some (.lst acc) ∧ acc.length = i ∧ A2 (RV G) acc rs ∧ rs.map (·.1) = names.take i ∧ ∀ r ∈ rs, 1 ≤ r.2 ∧ r.2 ≤ 2) ?_ (fun i G _ c => sq_of (c.1 _ _ rp rq hG2)) ?_ ?_⟩
  · exact ⟨But.of (Ex.new hD), by simpa [N5] using S2.ext (Ex.new hD), [], [], upd_same, rfl, trivial, rfl, fun r h => nomatch h⟩
  · rintro i x G0 G hi ⟨B, Sg, acc, rs, hacc, hal, hA, hnn, h12⟩ ⟨rfl, hx⟩
    obtain ⟨nm, hnm', rfl⟩ : ∃ nm, names[i]? = some nm ∧ x = V.str nm := by
      rw [List.getElem?_map] at hx
      obtain ⟨nm, a, b⟩ := Option.map_eq_some_iff.mp hx
      exact ⟨nm, a, b.symm⟩
    have hi5 : i < 5 := by
      have := (List.getElem?_eq_some_iff.mp hnm').1
      omega
    have Dlp : Dl ≠ p := (ne_of_none Sp hD).symm
    have Dlq : Dl ≠ q := (ne_of_none Sq hD).symm
    refine ⟨hw _, ?_⟩
    unfold tYes
    dsimp only
    rw [if_pos rfl]
    refine ⟨_, hw16 _, _, hw0 _, p, q, _, 2, rfl, Sg, by omega, by decide, by decide, fun z G3 z0 z1 S3 B3 => ⟨1, z, rfl, rfl, by show 2 ≤ sizeLine; decide, fun t ht => ?_⟩⟩
    have e4 : Ex G3 (upd G3 t (.tup [.str nm, .int (1 + z)])) := Ex.new ht
    have hacc4 := e4 _ _ (B3 _ _ Dlp Dlq hacc)
    obtain ⟨s1, s2, Sp3, Sq3⟩ := S3.lst
    refine ⟨acc, hacc4, sz_lt (by omega), ?_⟩
    have tx3 : Tx G (upd (upd G3 t (.tup [.str nm, .int (1 + z)])) Dl (.lst (acc ++ [.ref t]))) := fun a ys h => by
      obtain ⟨u1, u2, U1, U2⟩ := Sg.lst
      rw [upd_ne (ne_of h hacc (by intro z; cases z))]
      exact e4 _ _ (B3 _ _ (ne_of h U1 (by intro z; cases z)) (ne_of h U2 (by intro z; cases z)) h)
    have tD : t ≠ Dl := (ne_of_none (B3 _ _ Dlp Dlq hacc) ht).symm
    refine ⟨?_, ?_, acc ++ [.ref t], rs ++ [(nm, 1 + z)], upd_same, by simp [hal], A2.append (A2.mono (fun _ _ g => g.tx tx3) hA) ⟨⟨t, rfl, by rw [upd_ne tD]; exact upd_same⟩, trivial⟩, ?_, ?_⟩
    · intro b o n1 n2 hb
      rw [upd_ne (ne_of_none hb hD)]
      exact e4 _ _ (B3 _ _ n1 n2 (B _ _ n1 n2 hb))
    · have e : n + 5 + ((i + 1 : Nat) : Int) = n + 5 + (i : Int) + 1 := by omega
      rw [e]
      exact (S3.ext e4).keep (fun o h => by rw [upd_ne Dlp.symm]; exact h) fun o h => by rw [upd_ne Dlq.symm]; exact h
    · rw [List.map_append, hnn, List.take_succ, hnm'] <;> rfl
    · intro r' hr'
      rcases List.mem_append.mp hr' with g | g
      · exact h12 r' g
      · obtain rfl := List.mem_singleton.mp g
        exact ⟨by show 1 ≤ 1 + z; omega, by show 1 + z ≤ 2; omega⟩
  · rintro G ⟨B, Sg, acc, rs, hacc, hal, hA, hnn, h12⟩
    rw [List.length_map, List.take_length] at hnn
    rw [List.length_map, hnl] at Sg
    have e : n + 5 + ((5 : Nat) : Int) = n + 10 := by omega
    rw [e] at Sg
    have hDl : H Dl = none := by
      cases z : H Dl with
      | none => rfl
      | some o =>
        have z2 := e1 _ _ z
        rw [B2 _ _ (ne_of_none Sp hD).symm (ne_of_none Sq hD).symm z2] at hD
        cases hD
    exact k Dl acc rs G hDl hacc (rvs_a2 hA) (rwo_of (by rw [hnn]; exact hnm) h12) Sg ((But.of e1).trans (B2.trans B))
end
end K29

set_option Elab.async false
set_option linter.all false
set_option maxRecDepth 100000
set_option maxHeartbeats 4000000
/-! The law's words. -/
namespace K29
open PySem PySem.Spec PyProof.Rows L2 Evl
abbrev SG (x0 x1 x2 x3 x4 x5 x6 x7 x8 x9 x10 x11 x12 x13 x14 x15 : Option V) : L2.St := [x0, x1, x2, x3, x4, x5, x6, x7, x8, x9, x10, x11, x12, x13, x14, x15, none, none, none]
theorem wvs_perm {G : Hp} {ys us : List V} (h : ys.Perm us) : ∀ {ws : List Wd}, WVs G us ws → ∃ ws' : List Wd, WVs G ys ws' ∧ ws'.Perm ws := by
  induction h with
  | nil => exact fun {ws} h => ⟨ws, h, List.Perm.refl _⟩
  | cons x _ ih =>
    intro ws h
    match ws, h with
    | w :: ws, h =>
      obtain ⟨zs, a, b⟩ := ih h.2
      exact ⟨w :: zs, ⟨h.1, a⟩, b.cons w⟩
  | swap x y l =>
    intro ws h
    match ws, h with
    | w :: z :: ws, h => exact ⟨z :: w :: ws, ⟨h.2.1, h.1, h.2.2⟩, List.Perm.swap _ _ _⟩
    | [_], h => exact h.2.elim
  | trans _ _ ih1 ih2 =>
    intro ws h
    obtain ⟨zs, a, b⟩ := ih2 h
    obtain ⟨ts, c, d⟩ := ih1 a
    exact ⟨ts, c, d.trans b⟩
theorem cut_first (xs : List V) (n : Nat) : cutV xs none (some (n : Int)) = xs.take n := by
  unfold cutV
  have e : HT.sIx xs.length 0 none = 0 := rfl
  rw [e, List.drop_zero]
  have f : HT.sIx xs.length xs.length (some (n : Int)) = min n xs.length := by
    simp only [HT.sIx]
    split <;> omega
  rw [f, Nat.sub_zero]
  exact (List.take_eq_take_min).symm
/-- the words of the weights to i -/
def uptoW (wJ : Nat → Nat) : Nat → List Wd
  | 0 => []
  | i + 1 => uptoW wJ i ++ ofF wJ 5 (i + 1)
theorem uptoW4 (wJ : Nat → Nat) : uptoW wJ 4 = allW wJ := by
  show ((([] ++ ofF wJ 5 1) ++ ofF wJ 5 2) ++ ofF wJ 5 3) ++ ofF wJ 5 4 = allW wJ
  rfl
theorem uptoW_len {wJ : Nat → Nat} (ok : OkW wJ) : ∀ i, i ≤ 4 → (uptoW wJ i).length ≤ 60 * i
  | 0, _ => Nat.zero_le _
  | i + 1, h => by
    have a := uptoW_len ok i (by omega)
    have b := ofF_len ok (n := i + 1) (by omega)
    show (uptoW wJ i ++ ofF wJ 5 (i + 1)).length ≤ _
    rw [List.length_append]
    omega
section
variable {K : PySem.W.Frag} {D : Ends} {tz : TS} {H : Hp} {x0 x1 x2 x3 x4 x5 x6 x7 x8 x9 x10 x11 x12 x13 x14 x15 : Option V}
theorem q_start {σ : L2.St} (k : ∀ aa d wl Hd G, Ex H Hd → ArV Hd aa → Hd d = some (.dK []) → Hd wl = none → Ex Hd G → G wl = some (.lst []) → H d = none → tz D (((σ.set 4 (some (.ref aa))).set 5 (some (.ref d))).set 6 (some (.ref wl))) G) :
    tSeq (tPar3 4 5 6 (tCons (tLst (tCons (tTup (tCons (tC (.str "a")) (tCons (tC (.int 0)) tNil))) (tCons (tTup (tCons (tC (.str "b")) (tCons (tC (.int 0)) tNil))) (tCons (tTup (tCons (tC (.str "f")) (tCons (tC (.int 1)) tNil))) (tCons (tTup (tCons (tC (.str "g")) (tCons (tC (.int 2)) tNil))) tNil))))) (tCons tDNewK (tCons (tLst tNil) tNil)))) tz D σ H := by
  refine ⟨by show 2 ≤ sizeLine; decide, fun t0 h0 => ⟨by show 2 ≤ sizeLine; decide, fun t1 h1 => ⟨by show 2 ≤ sizeLine; decide, fun t2 h2 => ⟨by show 2 ≤ sizeLine; decide, fun t3 h3 => ⟨by show 4 ≤ sizeLine; decide, fun aa ha d hd => ⟨Nat.zero_le _, fun wl hwl => ⟨_, _, _, rfl, ?_⟩⟩⟩⟩⟩⟩⟩
  have e0 := Ex.new (o := .tup [.str "a", .int 0]) h0
  have e1 := Ex.new (o := .tup [.str "b", .int 0]) h1
  have e2 := Ex.new (o := .tup [.str "f", .int 1]) h2
  have e3 := Ex.new (o := .tup [.str "g", .int 2]) h3
  have e4 := Ex.new (o := .lst [.ref t0, .ref t1, .ref t2, .ref t3]) ha
  have e5 := Ex.new (o := .dK []) hd
  have e6 := Ex.new (o := .lst []) hwl
  have e05 := ((((e0.trans e1).trans e2).trans e3).trans e4).trans e5
  refine k aa d wl _ _ e05 ⟨t0, t1, t2, t3, e5 _ _ upd_same, ((((e1.trans e2).trans e3).trans e4).trans e5) _ _ upd_same, (((e2.trans e3).trans e4).trans e5) _ _ upd_same, ((e3.trans e4).trans e5) _ _ upd_same, (e4.trans e5) _ _ upd_same⟩ upd_same hwl e6 upd_same (fresh_back ((((e0.trans e1).trans e2).trans e3).trans e4) hd)
/-- all words -/
theorem q_words {Hd : Hp} {ar aa d wl : Addr} {rs : List (Str × Int)} {wJ : Nat → Nat} (Gv : Giv rs wJ Hd ar aa d) (hwl : Hd wl = none) (e : Ex Hd H) (hw : H wl = some (.lst []))
    (k : ∀ us G o7, Post (ofF wJ 5) d Hd G → G wl = some (.lst us) → WVs G us (allW wJ) → tz D (SG x0 x1 x2 (some (.ref ar)) (some (.ref aa)) (some (.ref d)) (some (.ref wl)) o7 x8 x9 x10 x11 x12 x13 x14 x15) G) :
    tSeq (tFor (iRng2 (tCons (tC (.int 1)) (tCons (tC (.int 5)) tNil))) (gName 7) (tDrop (tBM K "list" rExtend (tVar 6) (tCons (tCall (spOW 4) [] E0 (tCons (tVar 3) (tCons (tVar 4) (tCons (tVar 7) (tCons (tVar 5) tNil))))) tNil)))) tz D
      (SG x0 x1 x2 (some (.ref ar)) (some (.ref aa)) (some (.ref d)) (some (.ref wl)) x7 x8 x9 x10 x11 x12 x13 x14 x15) H := by
  refine q_forR2 (lo := 1) (n := 5) (ea_cons ev_c (ea_cons ev_c ea_nil)) ⟨by omega, by omega, by omega, by omega⟩ (fun i σ' G => Post (ofF wJ 5) d Hd G ∧ NotK G d wl ∧ (∃ o7, σ' = SG x0 x1 x2 (some (.ref ar)) (some (.ref aa)) (some (.ref d)) (some (.ref wl)) o7 x8 x9 x10 x11 x12 x13 x14 x15) ∧ ∃ us, G wl = some (.lst us) ∧ WVs G us (uptoW wJ i)) ?_ ?_ ?_
  · intro H1 e1
    exact ⟨Post.ext Gv.kno (e.trans e1), NotK.new Gv.kno hwl fun kvs q => (e.trans e1) _ _ q, ⟨x7, rfl⟩, [], e1 _ _ hw, trivial⟩
  · rintro i σ' G hi ⟨PG, NG, ⟨o7, rfl⟩, us, hus, hB⟩
    have cast1 : (1 : Int) + (i : Int) = ((i + 1 : Nat) : Int) := by omega
    rw [cast1] at hi ⊢
    have GvG := Gv.go PG.bd PG.kno
    refine ⟨_, rfl, .inl ⟨rfl, _, sq_of hus⟩, ?_⟩
    refine ⟨_, rfl, _, rfl, _, rfl, _, rfl, ar, aa, d, rs, wJ, i + 1, rfl, GvG, by omega, by omega, by omega, fun l xs G2 hl hxs P2 hnl => ?_⟩
    have wlx : wl ≠ l := hnl wl (P2.nk wl (by rw [hus]; exact Option.some_ne_none _) NG)
    obtain ⟨kvG, hdG, _⟩ := PG.kno.ex
    have wd : wl ≠ d := ne_of hus hdG (by intro z; cases z)
    have hus2 : G2 wl = some (.lst us) := P2.bd _ _ wd hus
    have N2 : NotK G2 d wl := P2.nk wl (by rw [hus]; exact Option.some_ne_none _) NG
    obtain ⟨kv2, hd2, _⟩ := P2.kno.ex
    have PP := PG.trans Gv.kno P2
    have hl1 := hB.length
    have hl2 := hxs.length
    have b1 := uptoW_len Gv.ok i (by omega)
    have b2 := ofF_len Gv.ok (n := i + 1) (by omega)
    refine ⟨wl, l, us, xs, rfl, rfl, hus2, hl, sz_of (by omega), ?_⟩
    exact ⟨PP.lst hwl hus2 N2, N2.lst hus2 hd2, ⟨_, rfl⟩, us ++ xs, upd_same, WVs.append (hB.tx ((PG.kno.tx P2.bd).trans (Tx.lst hus2))) (hxs.tx (Tx.lst hus2))⟩
  · rintro σ' G ⟨PG, NG, ⟨o7, rfl⟩, us, hus, hB⟩
    exact k us G o7 PG hus (by rw [← uptoW4]; exact hB)
end
end K29

set_option Elab.async false
set_option linter.all false
set_option maxRecDepth 100000
set_option maxHeartbeats 4000000
set_option autoImplicit false
/-! The law's order. -/
namespace K29
open PySem PySem.Spec PyProof.Rows L2 Evl
section
variable {K : PySem.W.Frag} {C : Addr} {D : Ends} {tz : TS} {H : Hp} {x0 x1 x2 x3 x4 x5 x6 x7 x8 x9 x10 x11 x12 x13 x14 x15 : Option V}
theorem q_first24 {p q wl : Addr} {n : Int} {us : List V} {ws : List Wd} (S : Spr H p q n) (hn : n < 80000) (hwl : H wl = some (.lst us)) (hW : WVs H us ws) (hl : us.length ≤ 300)
    (k : ∀ (w6 : Addr) (ys : List V) (ws' : List Wd) (G : Hp), G w6 = some (.lst ys) → H w6 = none → WVs G ys (ws'.take 24) → ws'.Perm ws → Spr G p q (n + us.length) → But p q H G → tz D (SG x0 (some (.ref p)) x2 x3 x4 x5 (some (.ref w6)) x7 x8 x9 x10 x11 x12 x13 x14 x15) G) :
    tSeq (tAsg (tSl (rSlL K) (tCall (spMix K) [] E0 (tCons (tVar 1) (tCons (tVar 6) tNil))) tNoPart (tPart (tC (.int 24)))) (gName 6)) tz D (SG x0 (some (.ref p)) x2 x3 x4 x5 (some (.ref wl)) x7 x8 x9 x10 x11 x12 x13 x14 x15) H := by
  refine ⟨_, rfl, _, rfl, p, q, wl, n, us, rfl, S, by omega, by omega, sq_of hwl, fun r G ys hr hG hperm S2 B2 => ?_⟩
  have tx : Tx H G := fun a xs h => by
    obtain ⟨u1, u2, U1, U2⟩ := S.lst
    exact B2 _ _ (ne_of h U1 (by intro z; cases z)) (ne_of h U2 (by intro z; cases z)) h
  obtain ⟨ws', hW', hp'⟩ := wvs_perm hperm (hW.tx tx)
  refine ⟨24, rfl, r, ys, rfl, sq_of hG, fun w6 hw6 => ?_⟩
  have e6 : Ex G (upd G w6 (.lst (cutV ys none (some 24)))) := Ex.new hw6
  have ec : cutV ys none (some 24) = ys.take 24 := cut_first ys 24
  obtain ⟨sx, sy, Sp, Sq⟩ := S2.lst
  refine k w6 _ ws' _ upd_same ?_ (by rw [ec]; rw [ec] at e6; exact (WVs.take (n := 24) hW').ext e6) hp' (S2.ext e6) (B2.trans (But.of e6))
  cases z : H w6 with
  | none => rfl
  | some o =>
    rw [B2 _ _ (ne_of_none Sp hw6).symm (ne_of_none Sq hw6).symm z] at hw6
    cases hw6
theorem make_ex {C x dx : Addr} {H G : Hp} (hx : H x = none) (hdx : H dx = none) (h : ∀ b o, (upd (upd H dx (.own x)) x (.ins C dx [])) b = some o → b ≠ x → G b = some o) : Ex H G := fun b o hb => by
  have n1 : b ≠ x := ne_of_none hb hx
  have n2 : b ≠ dx := ne_of_none hb hdx
  exact h b o (by rw [upd_ne n1, upd_ne n2]; exact hb) n1
theorem q_order {ar w6 : Addr} {xs us : List V} {rs : List (Str × Int)} {ws : List Wd} (har : H ar = some (.lst xs)) (hR : RVs H xs rs) (R : RwO rs) (h6 : H w6 = some (.lst us)) (hW : WVs H us ws) (hS : ∀ z ∈ ws, Sml z) (hl : ws.length ≤ 24)
    (k : ∀ (o due : Addr) (ds : List V) (G : Hp), Ex H G → H due = none → OrdAt C G o rs → G due = some (.lst ds) → WVs G ds (sortW rs ws) → tz D (SG x0 x1 x2 (some (.ref ar)) x4 x5 (some (.ref w6)) x7 (some (.ref o)) (some (.ref due)) x10 x11 x12 x13 x14 x15) G) :
    tSeq (tAsg (tTup (tCons (tMake C (spInit C) [] E0 (tCons (tVar 3) tNil)) (tCons (tCall (spSo K) [] E0 (tCons (tVar 3) (tCons (tVar 6) tNil))) tNil))) (gTup K 2 (gCons (gName 8) (gCons (gName 9) gNil)))) tz D
      (SG x0 x1 x2 (some (.ref ar)) x4 x5 (some (.ref w6)) x7 x8 x9 x10 x11 x12 x13 x14 x15) H := by
  refine ⟨_, rfl, fun x dx hx hdx hne => ⟨x, dx, ar, xs, rs, rfl, upd_same, ?_, ?_, R.ok, fun H' hO hoth => ⟨rfl, ?_⟩⟩⟩
  · rw [upd_ne (ne_of_none har hx), upd_ne (ne_of_none har hdx)]
    exact har
  · have e : Ex H (upd (upd H dx (.own x)) x (.ins C dx [])) := (Ex.new hdx).trans (Ex.new (by rw [upd_ne hne.symm]; exact hx))
    exact hR.ext e
  have e1 : Ex H H' := make_ex hx hdx hoth
  refine ⟨_, rfl, _, rfl, ar, w6, xs, rs, us, ws, rfl, e1 _ _ har, hR.ext e1, R.ok, R.all, e1 _ _ h6, hW.ext e1, hS, by omega, fun p vs' G hp e2 hG hWs => ⟨by show 2 ≤ sizeLine; decide, fun t ht => ?_⟩⟩
  have e3 : Ex G (upd G t (.tup [.ref x, .ref p])) := Ex.new ht
  refine ⟨t, _, rfl, st_of upd_same, rfl, _, _, rfl, _, _, rfl, rfl, ?_⟩
  exact k x p vs' _ ((e1.trans e2).trans e3) (fresh_back e1 hp) (hO.ext (e2.trans e3)) (e3 _ _ hG) (hWs.ext e3)
end
end K29

set_option Elab.async false
set_option linter.all false
set_option maxRecDepth 100000
set_option maxHeartbeats 4000000
set_option autoImplicit false
/-! The law's look at each two of the words. -/
namespace K29
open PySem PySem.Spec PyProof.Rows L2 Evl
section
variable {K : PySem.W.Frag} {σ : L2.St} {H : Hp} {ta tb : TE}
theorem el_rep1 {s : Str} {i : Int} (h : Ev tb σ H (.int i)) (h2 : -1000 ≤ i ∧ i ≤ 1000) : EvL (tOp rRep (tLst (tCons (tC (.str s)) tNil)) tb) σ H ((List.replicate i.toNat s).map V.str) := fun H1 e Q q =>
  (el_lst (vs := [V.str s]) (ea_cons ev_c ea_nil) (by show 1 ≤ 100000; decide)) H1 e _ fun p H2 hp e2 h2' => h H2 (e.trans e2) _ fun H3 e3 => ⟨p, i, [V.str s], rfl, rfl, e3 _ _ h2', by omega, by omega, sz_of (by simp only [List.length_cons, List.length_nil]; omega), fun r hr => by
    have f : (List.replicate i.toNat [V.str s]).flatten = (List.replicate i.toNat s).map V.str := by
      rw [List.map_replicate]
      generalize i.toNat = m
      induction m with
      | zero => rfl
      | succ m ih => rw [List.replicate_succ, List.flatten_cons, ih, List.replicate_succ] <;> rfl
    rw [f]
    exact q r _ (fresh_back (e2.trans e3) hr) ((e2.trans e3).trans (Ex.new hr)) upd_same⟩
theorem el_cat2 {xs ys : List V} (h1 : EvL ta σ H xs) (h2 : EvL tb σ H ys) (hz : xs.length + ys.length ≤ 100000) : EvL (tOp rCat ta tb) σ H (xs ++ ys) := fun H1 e Q q =>
  h1 H1 e _ fun p H2 hp e2 g2 => h2 H2 (e.trans e2) _ fun r H3 hr e3 g3 => ⟨p, r, xs, ys, rfl, rfl, e3 _ _ g2, g3, sz_of hz, fun z hz' => q z _ (fresh_back (e2.trans e3) hz') ((e2.trans e3).trans (Ex.new hz')) upd_same⟩
end
theorem lay_strs : ∀ {ss : List Str}, (∀ s ∈ ss, PyData.strOk s = true) → PyData.canLayAll0 (ss.map PyData.str) = true
  | [], _ => by simp [PyData.canLayAll0]
  | s :: ss, h => by simp [PyData.canLayAll0, PyData.canLay0, h s (by simp), lay_strs (ss := ss) fun t ht => h t (by simp [ht])]
theorem depth_strs : ∀ ss : List Str, PyData.depthAll (ss.map PyData.str) = 0
  | [] => by simp [PyData.depthAll]
  | s :: ss => by simp [PyData.depthAll, PyData.depth, depth_strs ss]
theorem shaped_list {ds : List PyData} (h : PyData.canLayAll0 ds = true) (h2 : PyData.depthAll ds ≤ 60) : SeqAt.shaped (.list ds) = true := by
  show (PyData.canLay0 (.list ds) && decide (PyData.depth (.list ds) ≤ 64)) = true
  rw [Bool.and_eq_true]
  exact ⟨by simp [PyData.canLay0, h], decide_eq_true (by simp only [PyData.depth]; omega)⟩
theorem so_above : PyData.strOk (Str.ofString "above") = true := by decide +kernel
/-! ### what compare tells along a list that ascends -/
section
variable {rs : List (Str × Int)}
theorem cmp_up {y z : Wd} (h : abv rs y z = true) : cmpS rs y z = "above" := by
  unfold cmpS
  rw [if_neg (fun e => by rw [e, abv_self] at h; cases h), if_pos h]
theorem cmp_below (hN : AllN rs) {y z : Wd} (h : abv rs z y = true) : cmpS rs y z = "below" := by
  unfold cmpS
  rw [if_neg (fun e => by rw [e, abv_self] at h; cases h), if_neg (by rw [abv_asym hN h]; decide), if_pos h]
theorem cmp_same (y : Wd) : cmpS rs y y = "same" := if_pos rfl
theorem asc_at {l : List Wd} (h : Asc rs l) {i j : Nat} {x y : Wd} (hi : l[i]? = some x) (hj : l[j]? = some y) (lt : i < j) : abv rs y x = true := by
  obtain ⟨a, b⟩ := List.getElem?_eq_some_iff.mp hi
  obtain ⟨c, d⟩ := List.getElem?_eq_some_iff.mp hj
  have := List.pairwise_iff_getElem.mp h i j a c lt
  rw [b, d] at this
  exact this
theorem abv_p {y z : Wd} (h : abv rs y z = true) : abv rs (.p y) (.p z) = true := by
  have hne : y ≠ z := fun e => by rw [e, abv_self] at h; cases h
  show topB rs (.p y) (.p z) (if y = z then false else abv rs y z) = true
  rw [if_neg hne, h]
  have hw : wt rs z ≤ wt rs y := by
    rw [abv_eq] at h
    unfold topB at h
    by_cases q : wt rs y ≠ wt rs z
    · rw [if_pos q] at h
      have := of_decide_eq_true h
      omega
    · omega
  unfold topB
  by_cases q : wt rs (.p y) ≠ wt rs (.p z)
  · rw [if_pos q]
    refine decide_eq_true ?_
    have q' : wOf rs "p" + wt rs y ≠ wOf rs "p" + wt rs z := q
    show wOf rs "p" + wt rs z < wOf rs "p" + wt rs y
    omega
  · rw [if_neg q, if_neg (by show ¬ ((Str.ofString "p") ≠ (Str.ofString "p")); exact fun z => z rfl)]
def dueRow (n i : Nat) : List Str := (List.replicate i (Str.ofString "above") ++ [Str.ofString "same"]) ++ List.replicate (n - i - 1) (Str.ofString "below")
theorem cmp_row (hN : AllN rs) {l : List Wd} (h : Asc rs l) {i : Nat} {y : Wd} (hi : l[i]? = some y) : ((List.range l.length).map fun j => V.str (cmpS rs y (l.getD j .a))) = (dueRow l.length i).map V.str := by
  have hil := (List.getElem?_eq_some_iff.mp hi).1
  have e : ((List.range l.length).map fun j => cmpS rs y (l.getD j .a)) = dueRow l.length i := by
    refine List.ext_getElem? fun j => ?_
    unfold dueRow
    rw [List.getElem?_map]
    by_cases hj : j < l.length
    · have hz : l[j]? = some l[j] := by simp [hj]
      have hd : l.getD j .a = l[j] := by rw [List.getD, hz] <;> rfl
      rw [List.getElem?_range hj]
      show some (cmpS rs y (l.getD j .a)) = _
      rw [hd]
      rcases Nat.lt_trichotomy j i with q | q | q
      · rw [cmp_up (asc_at h hz hi q), List.getElem?_append_left (by simp; omega), List.getElem?_append_left (by simp; omega)]
        simp [q]
      · subst q
        rw [hz] at hi
        have e2 := Option.some.inj hi
        rw [e2, cmp_same, List.getElem?_append_left (by simp), List.getElem?_append_right (by simp)]
        simp
      · rw [cmp_below hN (asc_at h hi hz q), List.getElem?_append_right (by simp; omega)]
        simp only [List.length_append, List.length_replicate, List.length_cons, List.length_nil]
        rw [List.getElem?_replicate, if_pos (by omega)]
    · rw [List.getElem?_eq_none (by simp; omega), List.getElem?_eq_none (by simp; omega)]
      rfl
  rw [← e, List.map_map] <;> rfl
theorem cmp_atoms {l : List Wd} (h : Asc rs l) {i : Nat} {y : Wd} (hi : l[i]? = some y) : ((List.range i).map fun j => V.str (cmpS rs (.p y) (.p (l.getD j .a)))) = (List.replicate i (Str.ofString "above")).map V.str := by
  have hil := (List.getElem?_eq_some_iff.mp hi).1
  refine List.ext_getElem? fun j => ?_
  rw [List.getElem?_map, List.getElem?_map]
  by_cases hj : j < i
  · have hz : l[j]? = some l[j] := by simp [show j < l.length by omega]
    have hd : l.getD j .a = l[j] := by rw [List.getD, hz] <;> rfl
    rw [List.getElem?_range hj]
    show some (V.str (cmpS rs (.p y) (.p (l.getD j .a)))) = _
    rw [hd, cmp_up (abv_p (asc_at h hz hi hj))]
    simp [hj]
  · rw [List.getElem?_eq_none (by simp; omega), List.getElem?_eq_none (by simp; omega)]
    rfl
end
end K29

set_option Elab.async false
set_option linter.all false
set_option maxRecDepth 100000
set_option maxHeartbeats 4000000
set_option autoImplicit false
/-! The law's loop over what is due. -/
namespace K29
open PySem PySem.Spec PyProof.Rows L2 Evl
section
variable {K : PySem.W.Frag} {C : Addr} {D : Ends} {tz : TS} {H : Hp} {x0 x1 x2 x3 x4 x5 x6 x7 x8 x9 x10 x11 x12 x13 x14 x15 : Option V}
theorem ne_strs {σ : L2.St} {a : Addr} {j : Nat} {tb : TE} {ss : List Str} (h0 : σ[j]? = some (some (.ref a))) (ha : H a = some (.lst (ss.map V.str))) (hb : EvL tb σ H (ss.map V.str)) (hs : ∀ s ∈ ss, PyData.strOk s = true) : EvT (tTest (tOp (rNeD K) (tVar j) tb)) σ H false := fun H1 e Q q =>
  ⟨_, h0, hb H1 e _ fun p H2 hp e2 h2 => ⟨.list (ss.map PyData.str), .list (ss.map PyData.str), .lst (sq_of ((e.trans e2) _ _ ha)) (dp_strs K H2 ss), .lst (sq_of h2) (dp_strs K H2 ss), shaped_list (lay_strs hs) (by rw [depth_strs]; omega), shaped_list (lay_strs hs) (by rw [depth_strs]; omega), false, by
    rw [PySem.SeqAt.eqv_refl (.list (ss.map PyData.str)) (by simp only [PyData.canLay0]; exact lay_strs hs)]
    rfl, q H2 e2⟩⟩
theorem same_strs {σ : L2.St} {a : Addr} {j : Nat} {tb : TE} {ss : List Str} (h0 : σ[j]? = some (some (.ref a))) (ha : H a = some (.lst (ss.map V.str))) (hb : EvL tb σ H (ss.map V.str)) (hl : ss.length ≤ 1000) : EvT (tNot (tB (tCall spSame1 [] E0 (tCons (tVar j) (tCons tb tNil))))) σ H false := fun H1 e Q q =>
  ⟨_, h0, hb H1 e _ fun p H2 hp e2 h2 => ⟨a, p, ss, rfl, (e.trans e2) _ _ ha, h2, hl, fun H3 e3 => ⟨true, rfl, q H3 (e2.trans e3)⟩⟩⟩
theorem due_el {σ : L2.St} {n i : Nat} {due : Addr} {ds : List V} {j9 j10 : Nat} (h9 : σ[j9]? = some (some (.ref due))) (h10 : σ[j10]? = some (some (.int i))) (hd : H due = some (.lst ds)) (hn : ds.length = n) (hi : i < n) (hl : n ≤ 100) :
    EvL (tOp rCat (tOp rCat (tOp rRep (tLst (tCons (tC (.str "above")) tNil)) (tVar j10)) (tLst (tCons (tC (.str "same")) tNil))) (tOp rRep (tLst (tCons (tC (.str "below")) tNil)) (tOp (rI0 fun i j => .int (i - j)) (tOp (rI0 fun i j => .int (i - j)) (tLen K (tVar j9)) (tVar j10)) (tC (.int 1))))) σ H ((dueRow n i).map V.str) := by
  have e1 : EvL (tOp rRep (tLst (tCons (tC (.str "above")) tNil)) (tVar j10)) σ H ((List.replicate i (Str.ofString "above")).map V.str) := el_rep1 (i := (i : Nat)) (ev_var h10) (by omega)
  have e2 : EvL (tLst (tCons (tC (.str "same")) tNil)) σ H ([Str.ofString "same"].map V.str) := el_lst (ea_cons ev_c ea_nil) (by show 1 ≤ 100000; decide)
  have e3 : EvL (tOp rRep (tLst (tCons (tC (.str "below")) tNil)) (tOp (rI0 fun i j => .int (i - j)) (tOp (rI0 fun i j => .int (i - j)) (tLen K (tVar j9)) (tVar j10)) (tC (.int 1)))) σ H ((List.replicate (n - i - 1) (Str.ofString "below")).map V.str) := by
    have g : EvL (tOp rRep (tLst (tCons (tC (.str "below")) tNil)) (tOp (rI0 fun i j => .int (i - j)) (tOp (rI0 fun i j => .int (i - j)) (tLen K (tVar j9)) (tVar j10)) (tC (.int 1)))) σ H ((List.replicate ((ds.length : Int) - (i : Int) - 1).toNat (Str.ofString "below")).map V.str) := el_rep1 (i := (ds.length : Int) - (i : Int) - 1) (ev_is (ev_op (ev_op (ev_lenL (ev_var h9) (sq_of hd)) (ev_var h10) (rv_I0 (g := fun i j => V.int (i - j)))) ev_c (rv_I0 (g := fun i j => V.int (i - j)))) rfl) (by omega)
    have f : ((ds.length : Int) - (i : Int) - 1).toNat = n - i - 1 := by omega
    rw [f] at g
    exact g
  have g := el_cat2 (el_cat2 e1 e2 (by simp; omega)) e3 (by simp; omega)
  unfold dueRow
  rw [List.map_append, List.map_append]
  exact g
end
end K29

set_option Elab.async false
set_option linter.all false
set_option maxRecDepth 100000
set_option maxHeartbeats 4000000
set_option autoImplicit false
/-! The law's loop over what is due. -/
namespace K29
open PySem PySem.Spec PyProof.Rows L2 Evl
section
variable {K : PySem.W.Frag} {C : Addr} {D : Ends} {tz tn1 tn2 : TS} {H : Hp} {x0 x1 x2 x3 x4 x5 x6 x7 x8 x9 x10 x11 x12 x13 x14 x15 : Option V}
theorem getD_at {l : List Wd} {j : Nat} {z : Wd} (h : l[j]? = some z) : l.getD j .a = z := by
  rw [List.getD, h]
  rfl
abbrev tFound (K : PySem.W.Frag) (C : Addr) : TE := tLc (iList K (tVar 9)) (gName 17) tYes (tCall (spCmp C) [] E0 (tCons (tVar 8) (tCons (tVar 11) (tCons (tVar 17) tNil)))) [17]
abbrev tAtoms (K : PySem.W.Frag) (C : Addr) : TE := tLc (iList K (tSl (rSlL K) (tVar 9) tNoPart (tPart (tVar 10)))) (gName 17) tYes (tCall (spCmp C) [] E0 (tCons (tVar 8) (tCons (tTup (tCons (tC (.str "p")) (tCons (tVar 11) tNil))) (tCons (tTup (tCons (tC (.str "p")) (tCons (tVar 17) tNil))) tNil)))) [17]
abbrev tDueRow (K : PySem.W.Frag) : TE := tOp rCat (tOp rCat (tOp rRep (tLst (tCons (tC (.str "above")) tNil)) (tVar 10)) (tLst (tCons (tC (.str "same")) tNil))) (tOp rRep (tLst (tCons (tC (.str "below")) tNil)) (tOp (rI0 fun i j => .int (i - j)) (tOp (rI0 fun i j => .int (i - j)) (tLen K (tVar 9)) (tVar 10)) (tC (.int 1))))
theorem q_pairs {o due : Addr} {ds : List V} {rs : List (Str × Int)} {l : List Wd} (hO : OrdAt C H o rs) (hN : AllN rs) (hd : H due = some (.lst ds)) (hW : WVs H ds l) (hA : Asc rs l) (hS : ∀ z ∈ l, Sml z) (hl : l.length ≤ 24)
    (k : ∀ (G : Hp) (o10 o11 o12 o13 : Option V), Ex H G → tz D (SG x0 x1 x2 x3 x4 x5 x6 x7 (some (.ref o)) (some (.ref due)) o10 o11 o12 o13 x14 x15) G) :
    tSeq (tFor (iEnum K (tCons (tVar 9) tNil)) (gPair K 10 11) (tSeq (tAsg (tFound K C) (gName 12)) (tSeq (tIfS (tNot (tB (tCall spSame1 [] E0 (tCons (tVar 12) (tCons (tDueRow K) tNil))))) tn1 tNext) (tSeq (tAsg (tAtoms K C) (gName 13)) (tIfS (tTest (tOp (rNeD K) (tVar 13) (tOp rRep (tLst (tCons (tC (.str "above")) tNil)) (tVar 10)))) tn2 tNext))))) tz D
      (SG x0 x1 x2 x3 x4 x5 x6 x7 (some (.ref o)) (some (.ref due)) x10 x11 x12 x13 x14 x15) H := by
  have hln := hW.length
  refine q_forEnum (a := due) (xs := ds) (ev_var rfl) (sq_of hd) (fun i σ' G => Ex H G ∧ ∃ o10 o11 o12 o13, σ' = SG x0 x1 x2 x3 x4 x5 x6 x7 (some (.ref o)) (some (.ref due)) o10 o11 o12 o13 x14 x15) ?_ ?_ ?_ ?_
  · exact fun G e => ⟨e, _, _, _, _, rfl⟩
  · exact fun i σ' G _ c => sq_of (c.1 _ _ hd)
  · rintro i y σ' G1 G hy ⟨e0, o10, o11, o12, o13, rfl⟩ e1
    have e := e0.trans e1
    obtain ⟨z, hz, hwz⟩ := (hW.ext e).get hy
    have hil := (List.getElem?_eq_some_iff.mp hz).1
    have hzS := hS z (List.mem_of_getElem? hz)
    refine q_asgL (xs := given ds.length (fun _ => true) fun j => V.str (cmpS rs z (l.getD j .a))) (el_lcL (fun _ => true) (fun j => V.str (cmpS rs z (l.getD j .a))) (ev_var rfl) (sq_of (e _ _ hd)) (by omega) (fun _ => rfl) (fun _ _ _ _ _ => et_yes) (fun j x G2 g hx _ => ?_)) fun fo G3 hfo e3 h3 => ?_
    · obtain ⟨u, hu, hwu⟩ := (hW.ext (e.trans g)).get hx
      have huS := hS u (List.mem_of_getElem? hu)
      rw [getD_at hu]
      exact ev_call (ea_cons (ev_var rfl) (ea_cons (ev_var rfl) (ea_cons (ev_var rfl) ea_nil))) fun G3 g3 Q q E => ⟨o, rs, y, x, z, u, rfl, hO.ext ((e.trans g).trans g3), hwz.ext (g.trans g3), hwu.ext g3, by have := hzS.1; omega, by have := huS.1; omega, by have := hzS.2; omega, by have := huS.2; omega, hN, q⟩
    rw [given_all, hln, cmp_row hN hA hz] at h3
    have e4 := e.trans e3
    refine q_when (same_strs rfl h3 (due_el (n := l.length) (i := i) (due := due) (ds := ds) rfl rfl (e4 _ _ hd) hln (by omega) (by omega)) (by simp [dueRow]; omega)) (fun z => nomatch z) fun _ G5 e5 => ?_
    have e6 := e4.trans e5
    have hcut : cutV ds none (some ((i : Nat) : Int)) = ds.take i := cut_first ds i
    refine q_asgL (xs := given (cutV ds none (some ((i : Nat) : Int))).length (fun _ => true) fun j => V.str (cmpS rs (.p z) (.p (l.getD j .a)))) (el_lcNL (fun _ => true) (fun j => V.str (cmpS rs (.p z) (.p (l.getD j .a)))) (el_sl (ev_var rfl) eo_none (eo_some (i := ((i : Nat) : Int)) (ev_var rfl)) (sq_of (e6 _ _ hd))) (by rw [hcut, List.length_take]; omega) (fun _ => rfl) (fun _ _ _ _ _ => et_yes) (fun j x G7 g hx _ => ?_)) fun at_ G8 hat e8 h8 => ?_
    · rw [hcut] at hx
      have hji : j < i := by
        have := (List.getElem?_eq_some_iff.mp hx).1
        rw [List.length_take] at this
        omega
      rw [List.getElem?_take_of_lt hji] at hx
      obtain ⟨u, hu, hwu⟩ := (hW.ext (e6.trans g)).get hx
      have huS := hS u (List.mem_of_getElem? hu)
      have hwy := hwz.ext ((e3.trans e5).trans g)
      rw [getD_at hu]
      exact fun H1 c Q q => ⟨_, rfl, (eu_tup (vs := [V.str "p", y]) (ea_cons ev_c (ea_cons (ev_var rfl) ea_nil)) (by show 2 ≤ 100000; decide)) H1 c _ fun t1 H2 _ c2 g2 => (eu_tup (vs := [V.str "p", x]) (ea_cons ev_c (ea_cons (ev_var rfl) ea_nil)) (by show 2 ≤ 100000; decide)) H2 (c.trans c2) _ fun t2 H3 _ c3 g3 =>
        ⟨o, rs, .ref t1, .ref t2, .p z, .p u, rfl, hO.ext ((e6.trans g).trans ((c.trans c2).trans c3)), ⟨t1, y, rfl, c3 _ _ g2, hwy.ext ((c.trans c2).trans c3)⟩, ⟨t2, x, rfl, g3, hwu.ext ((c.trans c2).trans c3)⟩, by show z.dp + 1 < 8; have := hzS.1; omega, by show u.dp + 1 < 8; have := huS.1; omega, by show z.sz + 2 ≤ 1000; have := hzS.2; omega, by show u.sz + 2 ≤ 1000; have := huS.2; omega, hN, fun H4 c4 => q H4 ((c2.trans c3).trans c4)⟩⟩
    rw [given_all, hcut, List.length_take, Nat.min_eq_left (by omega), cmp_atoms hA hz] at h8
    refine s_when (ne_strs rfl h8 (el_rep1 (i := ((i : Nat) : Int)) (ev_var rfl) (by omega)) (fun s hs => by rw [List.eq_of_mem_replicate hs]; exact so_above)) (fun z => nomatch z) fun _ G9 e9 => ?_
    exact ⟨(e6.trans e8).trans e9, _, _, _, _, rfl⟩
  · rintro σ' G ⟨e, o10, o11, o12, o13, rfl⟩
    exact k G _ _ _ _ e
end
end K29

set_option Elab.async false
set_option linter.all false
set_option maxRecDepth 100000
set_option maxHeartbeats 4000000
set_option autoImplicit false
/-! The rest of a turn of the law. -/
namespace K29
open PySem PySem.Spec PyProof.Rows L2 Evl
theorem ints_one {ms ns : List Int} (h : ms.Perm ns) (a : ms.Pairwise (· ≤ ·)) (b : ns.Pairwise (· ≤ ·)) : ms = ns :=
  List.Perm.eq_of_pairwise (fun x y _ _ h1 h2 => Int.le_antisymm h1 h2) a b h
theorem abv_wt {rs : List (Str × Int)} {y z : Wd} (h : abv rs y z = true) : wt rs z ≤ wt rs y := by
  rw [abv_eq] at h
  unfold topB at h
  by_cases q : wt rs y ≠ wt rs z
  · rw [if_pos q] at h
    have := of_decide_eq_true h
    omega
  · omega
theorem asc_wt {rs : List (Str × Int)} {l : List Wd} (h : Asc rs l) : (l.map (wt rs)).Pairwise (· ≤ ·) := by
  rw [List.pairwise_map]
  exact List.Pairwise.imp (fun q => abv_wt q) h
section
variable {K : PySem.W.Frag} {C : Addr} {D : Ends} {tz tn1 : TS} {H : Hp} {x0 x1 x2 x3 x4 x5 x6 x7 x8 x9 x10 x11 x12 x13 x14 x15 : Option V}
theorem ev_dw {σ : L2.St} {i3 i11 : Nat} {ar : Addr} {x : V} {u : Wd} {xs : List V} {rs : List (Str × Int)} (h3 : σ[i3]? = some (some (.ref ar))) (h11 : σ[i11]? = some (some x)) (har : H ar = some (.lst xs)) (hR : RVs H xs rs) (R : RwO rs) (hw : WV H x u) (hu : u.dp < 8) :
    Ev (tCall (spDW 8) [] E0 (tCons (tDict K (tVar i3)) (tCons (tVar i11) tNil))) σ H (.int (wt rs u)) := by
  intro H1 c Q q
  show tDict K (tVar i3) σ H1 fun v H2 => tVar i11 σ H2 fun y H3 => spDW 8 ([v, y] ++ []) H3 Q E0
  refine (ev_dictR (K := K) (P := fun v G => ∃ d, v = .ref d ∧ G d = some (.dK (wkv rs))) (ev_var h3) (sq_of har) hR R.ok.nd (fun d G _ h => ⟨d, rfl, h⟩)) H1 c _ fun v H2 c2 hv => ?_
  obtain ⟨d, rfl, hd2⟩ := hv
  exact ⟨_, h11, d, rs, x, u, rfl, hd2, R.all, hw.ext (c.trans c2), hu, fun H3 c3 => q H3 (c2.trans c3)⟩
theorem q_weights {o due ar : Addr} {xs ds : List V} {rs : List (Str × Int)} {l : List Wd} (har : H ar = some (.lst xs)) (hR : RVs H xs rs) (R : RwO rs) (hd : H due = some (.lst ds)) (hW : WVs H ds l) (hS : ∀ z ∈ l, Sml z) (hl : l.length ≤ 24)
    (k : ∀ (wl : Addr) (G : Hp), H wl = none → Ex H G → G wl = some (.lst ((l.map (wt rs)).map V.int)) → tz D (SG x0 x1 x2 (some (.ref ar)) x4 x5 x6 x7 x8 (some (.ref due)) x10 x11 x12 x13 (some (.ref wl)) x15) G) :
    tSeq (tAsg (tLc (iList K (tVar 9)) (gName 11) tYes (tCall (spDW 8) [] E0 (tCons (tDict K (tVar 3)) (tCons (tVar 11) tNil))) [11]) (gName 14)) tz D
      (SG x0 x1 x2 (some (.ref ar)) x4 x5 x6 x7 x8 (some (.ref due)) x10 x11 x12 x13 x14 x15) H := by
  have hln := hW.length
  refine q_asgL (xs := given ds.length (fun _ => true) fun j => V.int (wt rs (l.getD j .a))) (el_lcL (fun _ => true) (fun j => V.int (wt rs (l.getD j .a))) (ev_var rfl) (sq_of hd) (by omega) (fun _ => rfl) (fun _ _ _ _ _ => et_yes) (fun j x G2 g hx _ => ?_)) fun wl G3 hwl e3 h3 => ?_
  · obtain ⟨u, hu, hwu⟩ := (hW.ext g).get hx
    have huS := hS u (List.mem_of_getElem? hu)
    rw [getD_at hu]
    exact ev_dw rfl rfl (g _ _ har) (hR.ext g) R hwu (by have := huS.1; omega)
  rw [given_all, hln, wts_range] at h3
  exact k wl G3 hwl e3 h3
theorem sorted_ints {σ : L2.St} {a : Addr} {j : Nat} {ns : List Int} (h0 : σ[j]? = some (some (.ref a))) (ha : H a = some (.lst (ns.map V.int))) (hs : ns.Pairwise (· ≤ ·)) : EvT (tTest (tOp (rNeD K) (tVar j) (tCB (rSortedI K) (tCons (tVar j) tNil)))) σ H false := fun H1 e Q q =>
  ⟨_, h0, _, h0, a, ns, rfl, sq_of (e _ _ ha), fun ns' p hp hs' hn => by
    obtain rfl := ints_one hp hs' hs
    have e2 : Ex H1 (upd H1 p (.lst (ns'.map V.int))) := Ex.new hn
    refine ⟨.list (ns'.map PyData.int), .list (ns'.map PyData.int), .lst (sq_of ((e.trans e2) _ _ ha)) (dp_ints ns'), .lst (sq_of upd_same) (dp_ints ns'), shaped_list (lay_ints ns') (by have := depth_ints ns'; omega), shaped_list (lay_ints ns') (by have := depth_ints ns'; omega), false, ?_, q _ e2⟩
    rw [PySem.SeqAt.eqv_refl (.list (ns'.map PyData.int)) (by simp only [PyData.canLay0]; exact lay_ints ns')]
    rfl⟩
theorem q_down {p q o due wl : Addr} {n : Int} {ds : List V} {rs : List (Str × Int)} {l : List Wd} {ns : List Int} (S : Spr H p q n) (hn : n < 80000) (hO : OrdAt C H o rs) (hN : AllN rs) (hd : H due = some (.lst ds)) (dp : due ≠ p) (dq : due ≠ q) (hW : WVs H ds l) (hS : ∀ z ∈ l, Sml z) (hne : l ≠ []) (hl : l.length ≤ 24) (hw : H wl = some (.lst (ns.map V.int))) (hs : ns.Pairwise (· ≤ ·))
    (k : ∀ (G : Hp) (n' : Int), But p q H G → Spr G p q n' → n' ≤ n + 200 → tz D (SG x0 (some (.ref p)) x2 x3 x4 x5 x6 x7 (some (.ref o)) (some (.ref due)) x10 x11 x12 x13 (some (.ref wl)) x15) G) :
    tSeq (tIfS (tOr (tTest (tOp (rNeD K) (tVar 14) (tCB (rSortedI K) (tCons (tVar 14) tNil)))) (tTest (tOp (rI0 fun i j => .bl (decide (j < i))) (tCall (spDown C) [] E0 (tCons (tVar 1) (tCons (tVar 8) (tCons (tVar 9) tNil)))) (tLen K (tVar 9))))) tn1 tNext) tz D
      (SG x0 (some (.ref p)) x2 x3 x4 x5 x6 x7 (some (.ref o)) (some (.ref due)) x10 x11 x12 x13 (some (.ref wl)) x15) H := by
  refine (sorted_ints (K := K) (j := 14) rfl hw hs) H (Ex.refl H) _ fun H1 e1 => iteF ?_
  refine ⟨_, rfl, _, rfl, _, rfl, p, q, o, due, n, rs, ds, l, rfl, S.ext e1, by omega, hO.ext e1, hN, e1 _ _ hd, dp, dq, hW.ext e1, hS, hne, by omega, fun r G n' hr S' hn' B => ?_⟩
  refine (ev_lenL (K := K) (ev_var (i := 9) rfl) (sq_of (B _ _ dp dq (e1 _ _ hd)))) G (Ex.refl G) _ fun G2 e2 => ⟨r, _, rfl, rfl, false, ?_, iteF ?_⟩
  · have := hW.length
    exact congrArg V.bl (decide_eq_false (by omega))
  · exact k G2 n' ((But.of e1).trans (B.trans (But.of e2))) (S'.ext e2) hn'
end
end K29

set_option Elab.async false
set_option linter.all false
set_option maxRecDepth 100000
set_option maxHeartbeats 4000000
set_option autoImplicit false
/-! The end of a turn of the law. -/
namespace K29
open PySem PySem.Spec PyProof.Rows L2 Evl
theorem RVs.rev {H : Hp} {xs : List V} {rs : List (Str × Int)} (h : RVs H xs rs) : RVs H xs.reverse rs.reverse := by
  refine ⟨by rw [List.length_reverse, List.length_reverse]; exact h.1, fun i v hv => ?_⟩
  have hi : i < xs.length := by
    have := (List.getElem?_eq_some_iff.mp hv).1
    rw [List.length_reverse] at this
    exact this
  rw [List.getElem?_reverse hi] at hv
  obtain ⟨r, a, b⟩ := h.2 _ v hv
  refine ⟨r, ?_, b⟩
  rw [List.getElem?_reverse (by rw [← h.1]; exact hi), ← h.1]
  exact a
theorem RwO.rev {rs : List (Str × Int)} (R : RwO rs) : RwO rs.reverse :=
  ⟨⟨fun r hr => R.ok.n5 r (List.mem_reverse.mp hr), by rw [List.map_reverse]; exact (List.reverse_perm _).nodup_iff.mpr R.ok.nd, fun r hr => R.ok.one r (List.mem_reverse.mp hr), by rw [List.length_reverse]; exact R.ok.len⟩,
    fun x hx => by rw [List.map_reverse]; exact List.mem_reverse.mpr (R.all x hx), fun r hr => R.two r (List.mem_reverse.mp hr)⟩
section
variable {K : PySem.W.Frag} {C : Addr} {D : Ends} {tz tn1 : TS} {H : Hp} {x0 x1 x2 x3 x4 x5 x6 x7 x8 x9 x10 x11 x12 x13 x14 x15 : Option V}
abbrev tEnds (K : PySem.W.Frag) (C : Addr) (i18 i9 : Nat) : TE := tCall (spCmp C) [] E0 (tCons (tVar i18) (tCons (tOp (rIxL K) (tVar i9) (tC (.int 0))) (tCons (tOp (rIxL K) (tVar i9) (tUn (rU fun i => .int (-i)) (tC (.int 1)))) tNil)))
theorem ev_ends {σ : L2.St} {i18 i9 : Nat} {o due : Addr} {rs : List (Str × Int)} {ds : List V} {v0 v1 : V} {z0 z1 : Wd} (h18 : σ[i18]? = some (some (.ref o))) (h9 : σ[i9]? = some (some (.ref due))) (hO : OrdAt C H o rs) (hN : AllN rs) (hd : H due = some (.lst ds)) (w0 : WV H v0 z0) (w1 : WV H v1 z1) (a0 : atI ds 0 = some v0) (a1 : atI ds (-1) = some v1) (s0 : Sml z0) (s1 : Sml z1) :
    Ev (tEnds K C i18 i9) σ H (.str (cmpS rs z0 z1)) :=
  ev_call (ea_cons (ev_var h18) (ea_cons (ev_op (ev_var h9) ev_c (rv_ixL (sq_of hd) a0)) (ea_cons (ev_op (ev_var h9) (fun H1 e Q q => ⟨1, rfl, q H1 (Ex.refl H1)⟩) (rv_ixL (i := -1) (sq_of hd) a1)) ea_nil)))
    fun G g Q q E => ⟨o, rs, v0, v1, z0, z1, rfl, hO.ext g, w0.ext g, w1.ext g, by have := s0.1; omega, by have := s1.1; omega, by have := s0.2; omega, by have := s1.2; omega, hN, q⟩
theorem q_other {o due ar : Addr} {xs ds : List V} {rs : List (Str × Int)} {l : List Wd} (har : H ar = some (.lst xs)) (hR : RVs H xs rs) (R : RwO rs) (hO : OrdAt C H o rs) (hd : H due = some (.lst ds)) (hW : WVs H ds l) (hA : Asc rs l) (hS : ∀ z ∈ l, Sml z) (hne : l ≠ [])
    (k : ∀ (G : Hp) (o12 o15 : Option V), Ex H G → D.nx (SG x0 x1 x2 (some (.ref ar)) x4 x5 x6 x7 (some (.ref o)) (some (.ref due)) x10 x11 o12 x13 x14 o15) G) :
    tSeq (tAsg (tMake C (spInit C) [] E0 (tCons (tRevL K (tVar 3)) tNil)) (gName 15)) (tSeq (tAsg (tLc (iTup K (tTup (tCons (tVar 8) (tCons (tVar 15) (tCons (tVar 8) tNil))))) (gName 18) tYes (tEnds K C 18 9) [18]) (gName 12))
      (tIfS (tAnd (tTest (tOp (rI0 fun i j => .bl (decide (j < i))) (tLen K (tVar 9)) (tC (.int 1)))) (tNot (tB (tCall spSame1 [] E0 (tCons (tOther K (tVar 12)) (tCons (tOp rRep (tLst (tCons (tC (.str "below")) tNil)) (tC (.int 2))) tNil)))))) tn1 tNext)) D
      (SG x0 x1 x2 (some (.ref ar)) x4 x5 x6 x7 (some (.ref o)) (some (.ref due)) x10 x11 x12 x13 x14 x15) H := by
  have hln := hW.length
  have hlp : 0 < l.length := List.length_pos_iff.mpr hne
  refine ⟨_, rfl, ar, xs, rfl, sq_of har, fun rv hrv x dx hx hdx hxd => ⟨x, dx, rv, xs.reverse, rs.reverse, rfl, upd_same, ?_, ?_, R.rev.ok, fun H1 hO1 hoth => ⟨rfl, ?_⟩⟩⟩
  · have h1 : (upd H rv (.lst xs.reverse)) rv = some (.lst xs.reverse) := upd_same
    rw [upd_ne (ne_of_none h1 hx), upd_ne (ne_of_none h1 hdx)]
    exact h1
  · have e : Ex (upd H rv (.lst xs.reverse)) (upd (upd (upd H rv (.lst xs.reverse)) dx (.own x)) x (.ins C dx [])) := (Ex.new hdx).trans (Ex.new (by rw [upd_ne hxd.symm]; exact hx))
    exact (hR.rev.ext (Ex.new hrv)).ext e
  have e1 : Ex H H1 := (Ex.new hrv).trans (make_ex hx hdx hoth)
  obtain ⟨v0, hv0, hw0⟩ := hW.getw (i := 0) (w := l[0]) (by simp [hlp])
  obtain ⟨v1, hv1, hw1⟩ := hW.getw (i := l.length - 1) (w := l[l.length - 1]) (by simp [hlp])
  have a0 : atI ds 0 = some v0 := atI_nat (j := 0) hv0
  have a1 : atI ds (-1) = some v1 := by
    obtain ⟨ys, y, rfl⟩ : ∃ ys y, ds = ys ++ [y] := ⟨ds.dropLast, ds.getLast (fun z => by rw [z] at hln; simp at hln; omega), (List.dropLast_concat_getLast _).symm⟩
    rw [atI_last]
    have e : l.length - 1 = ys.length := by rw [List.length_append] at hln; simp at hln; omega
    rw [e, List.getElem?_append_right (Nat.le_refl _)] at hv1
    simpa using hv1
  have s0 : Sml l[0] := hS _ (List.getElem_mem _)
  have s1 : Sml l[l.length - 1] := hS _ (List.getElem_mem _)
  refine q_asgL (xs := given 3 (fun _ => true) fun i => V.str (cmpS (if i = 1 then rs.reverse else rs) l[0] l[l.length - 1])) (el_lcNT (xs := [.ref o, .ref x, .ref o]) (fun i => V.str (cmpS (if i = 1 then rs.reverse else rs) l[0] l[l.length - 1])) (eu_tup (ea_cons (ev_var rfl) (ea_cons (ev_var rfl) (ea_cons (ev_var rfl) ea_nil))) (by show 3 ≤ 100000; decide)) (by show 3 ≤ 40000; decide) (fun _ => rfl) (fun i y G g hy => ?_)) fun fo G3 hfo e3 h3 => ?_
  · have e := e1.trans g
    match i, hy with
    | 0, hy =>
      obtain rfl := Option.some.inj hy
      exact ev_ends (rs := rs) rfl rfl (hO.ext e) R.all (e _ _ hd) (hw0.ext e) (hw1.ext e) a0 a1 s0 s1
    | 1, hy =>
      obtain rfl := Option.some.inj hy
      exact ev_ends (rs := rs.reverse) rfl rfl (hO1.ext g) R.rev.all (e _ _ hd) (hw0.ext e) (hw1.ext e) a0 a1 s0 s1
    | 2, hy =>
      obtain rfl := Option.some.inj hy
      exact ev_ends (rs := rs) rfl rfl (hO.ext e) R.all (e _ _ hd) (hw0.ext e) (hw1.ext e) a0 a1 s0 s1
    | _ + 3, hy => simp at hy
  have e4 := e1.trans e3
  refine s_when (b := false) (et_is (et_and (a := decide ((1 : Int) < (ds.length : Int))) (b := false) (et_test (ev_op (ev_lenL (ev_var rfl) (sq_of (e4 _ _ hd))) ev_c rv_I0)) (fun hlt => ?_)) (Bool.and_false _)) (fun z => nomatch z) fun _ G9 e9 => k G9 _ _ (e4.trans e9)
  have h1 : 1 < l.length := by
    have := of_decide_eq_true hlt
    omega
  have hb : cmpS rs l[0] l[l.length - 1] = "below" := cmp_below R.all (asc_at hA (i := 0) (j := l.length - 1) (by simp [hlp]) (by simp [hlp]) (by omega))
  have h4 : G3 fo = some (.lst [.str "below", .str (cmpS rs.reverse l[0] l[l.length - 1]), .str "below"]) := by
    rw [h3, given_all, ← hb]
    rfl
  intro H5 e5 Q q
  refine ⟨_, rfl, fo, _, _, _, rfl, sq_of (e5 _ _ h4), fun p2 hp2 => ?_⟩
  have e6 : Ex H5 (upd H5 p2 (.lst [.str "below", .str "below"])) := Ex.new hp2
  refine (el_rep1 (s := "below") (i := 2) ev_c (by omega)) _ (Ex.refl _) _ fun pb H7 hpb e7 h7 => ⟨p2, pb, ["below", "below"], rfl, e7 _ _ upd_same, h7, by decide, fun H8 e8 => ⟨true, rfl, q H8 (e6.trans (e7.trans e8))⟩⟩
end
end K29

set_option Elab.async false
set_option linter.all false
set_option maxRecDepth 100000
set_option maxHeartbeats 4000000
set_option autoImplicit false
/-! The law. -/
namespace K29
open PySem PySem.Spec PyProof.Rows L2 Evl
section
variable {P : Program} {w : World} {K : PySem.W.Frag} {mg : Str → Option Value} {base : Heap} {C : Addr}
abbrev nLw : List Str := ["_law_script", "_law_stream", "_law_turn", "_law_rows", "_law_arities", "_law_known", "_law_words", "_law_weight", "_law_order", "_law_due", "_law_at", "_law_word", "_law_found", "_law_atoms", "_law_weights", "_law_other", "_law_name", "_law_far", "_law_one"]
theorem sc_lw : FnScope nLw ["_law_script"] (defScope s_law) := ⟨rfl, rfl, rfl, by decide +kernel, rfl, by decide +kernel, by decide +kernel⟩
def spLw (K : PySem.W.Frag) : Sp := fun vs H Q _ => ∃ (a : Addr) (ns : List Int), vs = [.ref a] ∧ SqL K H a (ns.map V.int) ∧ RetV (.bl true) H Q
theorem Ex.but {p q : Addr} {H G J : Hp} (e : Ex H G) (hp : H p = none) (hq : H q = none) (B : But p q G J) : Ex H J := fun b o h => B b o (ne_of_none h hp) (ne_of_none h hq) (e b o h)
theorem bd_law (T : TO P w K mg base C) : Bdy P w K mg base 21 nLw "law" s_law (spLw K) := by
  obtain ⟨fS, dS, GS, bS, kS, mS⟩ := (ok_start T.toT29).ex
  obtain ⟨fD, dD, GD, bD, kD, mD⟩ := (ok_dr T.toT29).ex
  obtain ⟨fM, dM, GM, bM, kM, mM⟩ := (ok_mixed T.toT29).ex
  obtain ⟨fW, dW, GW, bW, kW, mW⟩ := (ok_of_weight T.toT29 4).ex
  obtain ⟨fO, dO, GO, bO, kO, mO⟩ := (ok_sorted T.toT29).ex
  obtain ⟨fC, dC, GC, bC, kC, mC⟩ := (ok_compare T).ex
  obtain ⟨fA, dA, GA, bA, kA, mA⟩ := (ok_same T.toT29).ex
  obtain ⟨fG, dG, GG, bG, kG, mG⟩ := (ok_d_weight T.toT29 8).ex
  obtain ⟨fN, dN, GN, bN, kN, mN⟩ := (ok_down T).ex
  obtain ⟨fI, dI, MI, FI⟩ := T.mkI
  have GI := ok_init T FI
  have bI := FI.bindsN (ps := ["self", "rows"]) fun kV doc pm an cdv ct us hl => match us, hl with | [_, _], _ => rfl
  intro f cdv A outer s H vs Q E hr h
  obtain ⟨a, ns, rfl, hS, k⟩ := h
  have hr1 : Room 1 _ := hr.mono (by decide)
  have hr2 : Room 2 _ := hr.mono (by decide)
  have hr5 : Room 5 _ := hr.mono (by decide)
  have hr9 : Room 9 _ := hr.mono (by decide)
  have hr18 : Room 18 _ := hr.mono (by decide)
  have hr20 : Room 20 _ := hr.mono (by decide)
  refine ⟨_, pss_cons (ps_set (i := 1) sc_lw.nd rfl (Or.inr rfl) (pe_call GS hr1 (by rfl) mS kS bS .nil pass0 (pa_cons (pv 0) pa_nil)))
    (pss_cons (ps_for PassesOwn.never rfl (pi_range1 (by rfl) T.range (pa_cons pe_int pa_nil)) (pg_name (i := 2) sc_lw.nd rfl (Or.inl rfl))
      (pss_cons (ps_set (i := 3) sc_lw.nd rfl (Or.inr rfl) (pe_lc (own := [("_law_name", 16)]) (g := gName 16) (tt := tYes) (te := tTup (tCons (tVar 16) (tCons (tOp (rI0 fun i j => .int (i + j)) (tC (.int 1)) (tCall spDr [] E0 (tCons (tVar 1) (tCons (tC (.int 2)) tNil)))) tNil))) rfl sc_lw.nd (pi_list (pe_call GM hr2 (by rfl) mM kM bM .nil pass0 (pa_cons (pv 1) (pa_cons (pe_lst (pa_cons pe_str (pa_cons pe_str (pa_cons pe_str (pa_cons pe_str (pa_cons pe_str pa_nil)))))) pa_nil)))) (blkOk_by (N := nLw) (sc := defScope s_law) (by decide +kernel))
          (fun _ _ _ _ _ => pg_name (i := 16) sc_lw.nd rfl (Or.inl rfl)) (fun _ _ _ _ _ => pts_nil) (fun _ _ _ _ _ => pe_tup (pa_cons (pv 16) (pa_cons (pe_op op_add pe_int (pe_call GD hr1 (by rfl) mD kD bD .nil pass0 (pa_cons (pv 1) (pa_cons pe_int pa_nil)))) pa_nil)))))
      (pss_cons (ps_par3 (i := 4) (j := 5) (l := 6) rfl sc_lw.nd rfl rfl rfl (by decide) (by decide) (by decide) rfl rfl rfl (pa_cons (pe_lst (pa_cons (pe_tup (pa_cons pe_str (pa_cons pe_int pa_nil))) (pa_cons (pe_tup (pa_cons pe_str (pa_cons pe_int pa_nil))) (pa_cons (pe_tup (pa_cons pe_str (pa_cons pe_int pa_nil))) (pa_cons (pe_tup (pa_cons pe_str (pa_cons pe_int pa_nil))) pa_nil))))) (pa_cons pe_dnewK (pa_cons (pe_lst pa_nil) pa_nil))) (by rfl))
      (pss_cons (ps_for PassesOwn.never rfl (pi_range2 (by rfl) T.range (pa_cons pe_int (pa_cons pe_int pa_nil))) (pg_name (i := 7) sc_lw.nd rfl (Or.inl rfl))
        (pss_one (ps_expr (pe_bm PySem.F.plainAttrs_list PySem.F.slot_list_extend PySem.F.type_list_extend mt_extend (pv 6) (pa_cons (pe_call GW hr18 (by rfl) mW kW bW .nil pass0 (pa_cons (pv 3) (pa_cons (pv 4) (pa_cons (pv 7) (pa_cons (pv 5) pa_nil))))) pa_nil)))))
      (pss_cons (ps_set (i := 6) sc_lw.nd rfl (Or.inl rfl) (pe_slice sl_list (pe_call GM hr2 (by rfl) mM kM bM .nil pass0 (pa_cons (pv 1) (pa_cons (pv 6) pa_nil))) po_none (po_some pe_int)))
      (pss_cons (ps_asg (pe_tup (pa_cons (pe_make MI GI hr5 (by rfl) T.mgO bI .nil pass0 (pa_cons (pv 3) pa_nil)) (pa_cons (pe_call GO hr (by rfl) mO kO bO .nil pass0 (pa_cons (pv 3) (pa_cons (pv 6) pa_nil))) pa_nil))) (pg_tup (by rfl) (pgs_cons (pg_name (i := 8) sc_lw.nd rfl (Or.inr rfl)) (pgs_cons (pg_name (i := 9) sc_lw.nd rfl (Or.inr rfl)) pgs_nil))))
      (pss_cons (ps_for PassesOwn.never rfl (pi_enum (by rfl) T.enumerate (pa_cons (pv 9) pa_nil)) (pg_tup rfl (pgs_cons (pg_name (i := 10) sc_lw.nd rfl (Or.inl rfl)) (pgs_cons (pg_name (i := 11) sc_lw.nd rfl (Or.inr rfl)) pgs_nil)))
        (pss_cons (ps_setLc (i := 12) (own := [("_law_far", 17)]) (g := gName 17) (tt := tYes) (te := tCall (spCmp C) [] E0 (tCons (tVar 8) (tCons (tVar 11) (tCons (tVar 17) tNil)))) (by rfl) sc_lw.nd rfl rfl (sw_true rfl rfl rfl (by decide +kernel)) (pi_list (pv 9)) (blkOk_by (N := nLw) (sc := defScope s_law) (by decide +kernel))
            (fun _ _ _ _ _ => pg_name (i := 17) sc_lw.nd rfl (Or.inl rfl)) (fun _ _ _ _ _ => pts_nil) (fun _ _ _ _ _ => pe_call GC hr20 (by rfl) mC kC bC .nil pass0 (pa_cons (pv 8) (pa_cons (pv 11) (pa_cons (pv 17) pa_nil)))))
        (pss_cons (ps_if (pt_not (pt_val (pe_call GA hr2 (by rfl) mA kA bA .nil pass0 (pa_cons (pv 12) (pa_cons (pe_op op_cat (pe_op op_cat (pe_op op_rep (pe_lst (pa_cons pe_str pa_nil)) (pv 10)) (pe_lst (pa_cons pe_str pa_nil))) (pe_op op_rep (pe_lst (pa_cons pe_str pa_nil)) (pe_op op_sub (pe_op op_sub (pe_callB call_len (by rfl) T.len PySem.boot_len (pa_cons (pv 9) pa_nil)) (pv 10)) pe_int))) pa_nil))))) (pss_one ps_never) pss_nil)
        (pss_cons (ps_setLc (i := 13) (own := [("_law_far", 17)]) (g := gName 17) (tt := tYes) (te := tCall (spCmp C) [] E0 (tCons (tVar 8) (tCons (tTup (tCons (tC (.str "p")) (tCons (tVar 11) tNil))) (tCons (tTup (tCons (tC (.str "p")) (tCons (tVar 17) tNil))) tNil)))) (by rfl) sc_lw.nd rfl rfl (sw_true rfl rfl rfl (by decide +kernel)) (pi_list (pe_slice sl_list (pv 9) po_none (po_some (pv 10)))) (blkOk_by (N := nLw) (sc := defScope s_law) (by decide +kernel))
            (fun _ _ _ _ _ => pg_name (i := 17) sc_lw.nd rfl (Or.inl rfl)) (fun _ _ _ _ _ => pts_nil) (fun _ _ _ _ _ => pe_call GC hr20 (by rfl) mC kC bC .nil pass0 (pa_cons (pv 8) (pa_cons (pe_tup (pa_cons pe_str (pa_cons (pv 11) pa_nil))) (pa_cons (pe_tup (pa_cons pe_str (pa_cons (pv 17) pa_nil))) pa_nil)))))
        (pss_one (ps_if (pt_cmpR (op_neD hr.units) (pv 13) (pe_op op_rep (pe_lst (pa_cons pe_str pa_nil)) (pv 10)) (nomark _)) (pss_one ps_never) pss_nil))))))
      (pss_cons (ps_setLc (i := 14) (own := [("_law_word", 11)]) (g := gName 11) (tt := tYes) (te := tCall (spDW 8) [] E0 (tCons (tDict K (tVar 3)) (tCons (tVar 11) tNil))) (by rfl) sc_lw.nd rfl rfl (sw_true rfl rfl rfl (by decide +kernel)) (pi_list (pv 9)) (blkOk_by (N := nLw) (sc := defScope s_law) (by decide +kernel))
          (fun _ _ _ _ _ => pg_name (i := 11) sc_lw.nd rfl (Or.inl rfl)) (fun _ _ _ _ _ => pts_nil) (fun _ _ _ _ _ => pe_call GG hr9 (by rfl) mG kG bG .nil pass0 (pa_cons (pe_callTy (call_dictP rfl) (by rfl) T.dict (by decide +kernel) (pa_cons (pv 3) pa_nil)) (pa_cons (pv 11) pa_nil))))
      (pss_cons (ps_if (PW.pt (pw_or (pt_cmpR (op_neD hr.units) (pv 14) (pe_callB cr_sortedI (by rfl) T.sorted (by decide +kernel) (pa_cons (pv 14) pa_nil)) (nomark _)) (pw_or1 (pt_cmpR op_gt (pe_call GN hr (by rfl) mN kN bN .nil pass0 (pa_cons (pv 1) (pa_cons (pv 8) (pa_cons (pv 9) pa_nil)))) (pe_callB call_len (by rfl) T.len PySem.boot_len (pa_cons (pv 9) pa_nil)) (nomark _))))) (pss_one ps_never) pss_nil)
      (pss_cons (ps_set (i := 15) sc_lw.nd rfl (Or.inl rfl) (pe_make MI GI hr5 (by rfl) T.mgO bI .nil pass0 (pa_cons (pe_revL (pv 3)) pa_nil)))
      (pss_cons (ps_setLc (i := 12) (own := [("_law_one", 18)]) (g := gName 18) (tt := tYes) (te := tCall (spCmp C) [] E0 (tCons (tVar 18) (tCons (tOp (rIxL K) (tVar 9) (tC (.int 0))) (tCons (tOp (rIxL K) (tVar 9) (tUn (rU fun i => .int (-i)) (tC (.int 1)))) tNil)))) (by rfl) sc_lw.nd rfl rfl (sw_true rfl rfl rfl (by decide +kernel)) (pi_tup (pe_tup (pa_cons (pv 8) (pa_cons (pv 15) (pa_cons (pv 8) pa_nil))))) (blkOk_by (N := nLw) (sc := defScope s_law) (by decide +kernel))
          (fun _ _ _ _ _ => pg_name (i := 18) sc_lw.nd rfl (Or.inl rfl)) (fun _ _ _ _ _ => pts_nil) (fun _ _ _ _ _ => pe_call GC hr20 (by rfl) mC kC bC .nil pass0 (pa_cons (pv 18) (pa_cons (pe_ix ix_list (pv 9) pe_int (fun _ _ => rfl)) (pa_cons (pe_ix ix_list (pv 9) (pe_un un_neg pe_int) (fun _ _ => rfl)) pa_nil)))))
      (pss_one (ps_if (PW.pt (pw_and (pt_cmpR op_gt (pe_callB call_len (by rfl) T.len PySem.boot_len (pa_cons (pv 9) pa_nil)) pe_int (nomark _)) (pw_and1 (pt_not (pt_val (pe_call GA hr2 (by rfl) mA kA bA .nil pass0 (pa_cons (pe_other (pv 12)) (pa_cons (pe_op op_rep (pe_lst (pa_cons pe_str pa_nil)) pe_int) pa_nil)))))))) (pss_one ps_never) pss_nil)))))))))))))
    (pss_one (ps_ret pe_bl))), ?_⟩
  refine ⟨_, rfl, a, ns, rfl, hS, fun p q G0 hp hq e0 S0 => ?_⟩
  refine q_forR1 (n := 2) (ea_cons ev_c ea_nil) (by omega) (fun i σ' G => Ex H G ∧ (∃ n, Spr G p q n ∧ n ≤ (i : Int) * 1000) ∧ ∃ x2 x3 x4 x5 x6 x7 x8 x9 x10 x11 x12 x13 x14 x15, σ' = SG (some (.ref a)) (some (.ref p)) x2 x3 x4 x5 x6 x7 x8 x9 x10 x11 x12 x13 x14 x15) ?_ ?_ ?_
  · exact fun G1 e1 => ⟨e0.trans e1, ⟨0, S0.ext e1, by omega⟩, none, none, none, none, none, none, none, none, none, none, none, none, none, none, rfl⟩
  · rintro i σ' G hi ⟨eG, ⟨n, Sn, hn⟩, x2, x3, x4, x5, x6, x7, x8, x9, x10, x11, x12, x13, x14, x15, rfl⟩
    refine q_rows (p := p) (q := q) (n := n) rfl (fun _ => rfl) (fun _ => rfl) (fun _ => rfl) Sn (by omega) fun ar xs rs G1 har0 har hR R S1 B1 => ?_
    refine q_start fun aa d wl Hd G2 eHd har4 hd0 hwl0 eG2 hwl hdf => ?_
    obtain ⟨wj, w1, w2, wok⟩ := wJ_facts R
    have Gv : Giv rs (wJof rs) Hd ar aa d := ⟨⟨xs, eHd _ _ har, hR.ext eHd⟩, har4, ⟨[], hd0, List.nodup_nil, fun kv h => nomatch h⟩, R.ok, R.all, wj, w1, w2, wok⟩
    refine q_words Gv hwl0 eG2 hwl fun us G3 o7 P3 hus hW => ?_
    obtain ⟨u1, u2, U1, U2⟩ := (S1.ext eHd).lst
    have S3 : Spr G3 p q (n + 10) := (S1.ext eHd).keep (fun o h => P3.bd _ _ (ne_of U1 hd0 (by intro z; cases z)) h) (fun o h => P3.bd _ _ (ne_of U2 hd0 (by intro z; cases z)) h)
    have hul := hW.length
    have hal := wok.len
    refine q_first24 (q := q) S3 (by omega) hus hW (by omega) fun w6 ys ws' G4 hw6 hw60 hWs hperm S4 B4 => ?_
    obtain ⟨v1, v2, V1, V2⟩ := Sn.lst
    have arp : ar ≠ p := (ne_of_none V1 har0).symm
    have arq : ar ≠ q := (ne_of_none V2 har0).symm
    have har3 : G3 ar = some (.lst xs) := P3.bd _ _ (ne_of (eHd _ _ har) hd0 (by intro z; cases z)) (eHd _ _ har)
    have hR3 : RVs G3 xs rs := (hR.ext eHd).tx (Gv.kno.tx P3.bd)
    have har4' := B4 _ _ arp arq har3
    have hR4 := hR3.tx (WV.but S3 B4)
    have hin : ∀ z ∈ ws'.take 24, Sml z := fun z hz => wok.sml z (hperm.mem_iff.mp (List.mem_of_mem_take hz))
    have hnd : (ws'.take 24).Nodup := (hperm.nodup_iff.mpr wok.nd).sublist (List.take_sublist _ _)
    have hlen : (ws'.take 24).length ≤ 24 := by rw [List.length_take]; omega
    refine q_order har4' hR4 R hw6 hWs hin hlen fun o due ds G5 e5 hdue0 hO hds hWd => ?_
    have hp2 := sortW_perm (rs := rs) (ws'.take 24)
    have hA := sortW_asc R.all hnd
    have hS2 : ∀ z ∈ sortW rs (ws'.take 24), Sml z := fun z hz => hin z (hp2.mem_iff.mp hz)
    have hl2 : (sortW rs (ws'.take 24)).length ≤ 24 := by rw [hp2.length_eq]; exact hlen
    have hne : sortW rs (ws'.take 24) ≠ [] := fun z => by
      have h1 := hp2.length_eq
      rw [z, List.length_take] at h1
      have h2 := hperm.length_eq
      have h3 : 0 < (allW (wJof rs)).length := List.length_pos_iff.mpr wok.ne
      simp only [List.length_nil] at h1
      omega
    refine q_pairs hO R.all hds hWd hA hS2 hl2 fun G6 o10 o11 o12 o13 e6 => ?_
    have e56 := e5.trans e6
    refine q_weights (o := o) (e56 _ _ har4') (hR4.ext e56) R (e6 _ _ hds) (hWd.ext e6) hS2 hl2 fun wl7 G7 h70 e7 hwl7 => ?_
    have e57 := e56.trans e7
    have e67 := e6.trans e7
    obtain ⟨t1, t2, T1, T2⟩ := S4.lst
    have dp : due ≠ p := (ne_of_none T1 hdue0).symm
    have dq : due ≠ q := (ne_of_none T2 hdue0).symm
    refine q_down (q := q) (S4.ext e57) (by omega) (hO.ext e67) R.all (e67 _ _ hds) dp dq (hWd.ext e67) hS2 hne hl2 hwl7 (asc_wt hA) fun G8 n8 B8 S8 hn8 => ?_
    refine q_other (B8 _ _ arp arq (e57 _ _ har4')) ((hR4.ext e57).tx (WV.but (S4.ext e57) B8)) R (OrdAt.but (S4.ext e57) B8 (hO.ext e67)) (B8 _ _ dp dq (e67 _ _ hds)) ((hWd.ext e67).tx (WV.but (S4.ext e57) B8)) hA hS2 hne fun G9 o12' o15' e9 => ?_
    have E1 : Ex H G1 := Ex.but eG hp hq B1
    have E3 : Ex H G3 := fun b o h => P3.bd _ _ (ne_of_none (E1 b o h) hdf) (eHd _ _ (E1 b o h))
    have E4 : Ex H G4 := Ex.but E3 hp hq B4
    have E8 : Ex H G8 := Ex.but (E4.trans e57) hp hq B8
    exact ⟨E8.trans e9, ⟨n8, S8.ext e9, by omega⟩, _, _, _, _, _, _, _, _, _, _, _, _, _, _, rfl⟩
  · rintro σ' G ⟨eG, _, _⟩
    exact s_ret ev_c fun G2 e2 => k G2 (eG.trans e2)
end
end K29

set_option Elab.async false
set_option linter.all false
set_option maxRecDepth 100000
set_option maxHeartbeats 4000000
/-! The end. -/
namespace K29
open PySem PySem.Spec PyProof.Rows L2 Evl
theorem get_cls {K : PySem.W.Frag} : PySem.W.specialIn K (.builtin "object.__class__") "__get__" = some (some (.builtin "getset_descriptor.__get__")) := by
  kernel_rfl
theorem takes_cls {K : PySem.W.Frag} : PySem.W.takesIn K (.builtin "object.__class__") = some true := by
  kernel_rfl
section
variable {P : Program} {w : World} {K : PySem.W.Frag} {h base : Heap} {mg : Str → Option Value}
theorem fa_glo {x : Str} (hx : x ∈ dnms) : He.Fa.glo x ∈ fa := List.mem_append.mpr (.inl (List.mem_map.mpr ⟨x, hx, rfl⟩))
theorem fa_free {x : Str} (hx : x ∈ (["all", "any", "bool", "dict", "enumerate", "int", "isinstance", "len", "list", "range", "sorted", "str", "sum", "tuple", "zip"] : List Str)) : He.Fa.free x ∈ fa :=
  List.mem_append.mpr (.inr (List.mem_append.mpr (.inl (List.mem_map.mpr ⟨x, hx, rfl⟩))))
theorem fa_o {f : He.Fa} (i : Nat) (hf : faO[i]? = some f := by rfl) : f ∈ fa := List.mem_append.mpr (.inr (List.mem_append.mpr (.inr (List.mem_of_getElem? hf))))
theorem fn_at {i : Nat} {d : He.DefD} (hi : fnA[i]? = some d) : fn[i]? = some d := by
  unfold fn
  rw [List.getElem?_append_left (List.getElem?_eq_some_iff.mp hi).1]
  exact hi
theorem t29_of (X : K.In h) (G : h.Ns mainGlobals mg) (c : SaysA w K) : T29 P w K mg base where
  fr := fun x hx => He.free_ok X G (c.t.d.facts (fa_free hx))
  df := fun i x st hi => by
    obtain ⟨fd, F⟩ := c.t.d.def_ i (fn_at hi)
    have hm : (dN x st).name ∈ dnms := List.mem_map.mpr ⟨_, List.mem_of_getElem? hi, rfl⟩
    exact ⟨⟨fd, F⟩, He.glo_ok X G (c.t.d.facts (fa_glo hm))⟩
  kd := c.t.tab 0 rfl
  kn := c.n
  kept := He.glo_ok X G (c.t.d.facts (fa_o 0))
  letters := He.str_ok X G (c.t.d.facts (fa_o 7))
  longest := He.int_ok X G (c.t.d.facts (fa_o 8))
  most := He.int_ok X G (c.t.d.facts (fa_o 9))
theorem to_of (X : K.In h) (G : h.Ns mainGlobals mg) (c : SaysA w K) : TO P w K mg base (He.ga K "Order") where
  toT29 := t29_of X G c
  cl := He.cls_ok (c.t.d.facts (fa_o 2))
  nR := He.noat_ok (c.t.d.facts (fa_o 3))
  nW := He.noat_ok (c.t.d.facts (fa_o 4))
  nK := He.noat_ok (c.t.d.facts (fa_o 5))
  mgO := He.glo_ok X G (c.t.d.facts (fa_o 1))
  mkI := by
    obtain ⟨fd, F⟩ := c.t.d.def_ 37 (d := dInit) rfl
    exact ⟨_, fd, He.mkr_ok (c.t.d.facts (fa_o 6)), F⟩
  ha := c.c
  hn := get_cls
  htk := takes_cls
  hm := c.m
/-- the law, told by the head -/
theorem facts {f : Addr} (X : K.In h) (G : h.Ns mainGlobals mg) (hfa : mg ("law" : Str) = some (.ref f)) (c : SaysA w K) :
    ∃ fd : FuncData, (∀ (s : Shared) (v : Value), BindsTo s fd ⟨[v], []⟩ [("_law_script", v)]) ∧ ∀ base : Heap, K.In base → base.Ns mainGlobals mg → FnOk P w K mg base CX0 22 f fd ["_law_script"] (spLw K) := by
  obtain ⟨fd, F⟩ := c.t.d.def_ 36 (d := dN "law" s_law) rfl
  have e := hfa.symm.trans (He.glo_ok X G (c.t.d.facts (fa_glo (x := "law") (List.mem_map.mpr ⟨dN "law" s_law, List.mem_of_getElem? (i := 36) rfl, rfl⟩))))
  cases e
  have b := FunD.bindsA (ps := ["_law_script"]) F fun _ _ _ _ _ _ us hl => match us, hl with | [_], _ => rfl
  refine ⟨fd, fun s v => b s [v] rfl, fun base KB GB => F.ok sc_lw (fun vs H Q E h => ?_) (fun cdv A outer s H vs Q E hr h => ?_)⟩
  · obtain ⟨a, ns, rfl, _⟩ := h
    rfl
  · obtain ⟨t, h1, h2⟩ := bd_law (to_of (P := P) KB GB c) _ cdv A outer s H vs Q E hr h
    exact ⟨t, PSs.nox h1, h2⟩
end
end K29
open PySem PySem.W PySem.Calls PyProof.Rows
theorem PySem.Challenge.cw_eithershown_k29_whole_no_row_down_holds : PySem.Challenge.rw_eithershown_k29_whole_no_row_down.Holds := by
  w_on; o_law
  refine HandSHeadRun.head_any (r := OpenLaw.row PySem.Challenge.rw_eithershown_k29_whole_no_row_down) (q := PySem.W.view K29.R.prog [53]) (H := K29.hookA) (ob := fun s => K29.obA (K29.fK (K29.gT s))) (M := 8000) (loose := K29.loose) (d := HandSHeadRun.topDef K29.R.prog 53) (kwd := []) (fun s => K29.obA_eq (HandSHeadRun.getT_eq s)) (by kernel_rfl) (fun s => by kernel_rfl) K29.run (by rfl) (by rfl) (by rfl) (by rfl) (by first | assumption | decide +kernel) (by decide +kernel) ⟨rfl, rfl, rfl, rfl, rfl, by decide +kernel⟩ ?hw ?hc
  case hw => w_witness2
  case hc =>
    refine L2.walk_ofE (l := PySem.Challenge.rw_eithershown_k29_whole_no_row_down) (n := 63) (k := 22) (x := "_law_script") (CX := L2.CX0) rfl (by decide) (by kernel_rfl) ⟨rfl, by decide, by decide⟩ ?F (fun _ _ _ _ z => z)
    intro w mg fa h Y G hmg0
    obtain ⟨K, KX, c⟩ := Y
    have hmg : mg ("law" : PySem.Str) = some (.ref fa) := by
      have e : (HandSHeadRun.topDef K29.R.prog 53).name = ("law" : PySem.Str) := by kernel_rfl
      rw [← e]
      exact hmg0
    obtain ⟨fd, hb, hF⟩ := K29.facts (P := (PySem.Challenge.rw_eithershown_k29_whole_no_row_down).prog) (w := w) KX G hmg c
    exact ⟨K, fd, K29.spLw K, KX, hb, fun H a ns hl _ hS => ⟨a, ns, rfl, hS, fun _ _ => rfl⟩, hF⟩

