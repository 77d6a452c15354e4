import PyProof.Rows.All
import Wide.All
import OpenK.AllK
import Wide.FinOn
import PyProof.EqAt
import PyProof.EqKinds
import PyProof.TupleCall
import KE.KOpsOwn
import HandS.ForMost
import HandS.OwnEq
import HandS.Star
import HandS.ClsMeth
import HandS.IsInst
import HandS.Codes
import HandS.Flow
import HandS.Wide
import HandS.Strs
import PySem.Challenge.RW_trustedpages_k14_orders_of_words
import Open.Row
import KE.RegKIsAll
set_option Elab.async false
set_option linter.all false
set_option maxRecDepth 100000
set_option maxHeartbeats 4000000
/-! set(xs) of a list of texts, and its length -/
namespace Tx
open PySem PySem.Spec PyProof.Rows
/-- which texts stand among the first i -/
def met (xs : List Str) (i : Nat) (z : Str) : Bool := decide (z ∈ xs.take i)
/-- how many different ones -/
def cnt (xs : List Str) : Nat → Nat
  | 0 => 0
  | i + 1 => if met xs i (xs.getD i Str.empty) = true then cnt xs i else cnt xs i + 1
theorem cnt_le (xs : List Str) : ∀ i, cnt xs i ≤ i
  | 0 => Nat.le_refl _
  | i + 1 => by
    have ih := cnt_le xs i
    unfold cnt
    split <;> omega
theorem met_succ {xs : List Str} {i : Nat} (h : i < xs.length) (z : Str) : met xs (i + 1) z = (met xs i z || decide (z = xs.getD i Str.empty)) := by
  unfold met
  rw [List.take_add_one, List.getElem?_eq_getElem h, List.getD_eq_getElem?_getD, List.getElem?_eq_getElem h]
  simp only [Option.toList_some, List.mem_append, List.mem_singleton, Option.getD_some]
  by_cases h1 : z ∈ xs.take i <;> by_cases h2 : z = xs[i] <;> simp [h1, h2]
section
variable {prog : Program} {w : World} {A : Around} {R : Result → Shared → Prop} {J : Addr} {fq wq : List Addr} {G : Array GenState → Array GenState → Prop} {n : Nat} {V1 : Nat → Value → Prop} {Z : Nat → Shared → Prop}
/-- the turns of set.update: each text is laid in, if it is not there -/
theorem turns (Wk : WalksS prog w A.in1 J fq wq G n V1 Z) {D : Addr} (nD : D ∉ fq) {xs : List Str} (hn : n = xs.length) (small : n + 1 < scanBound) (txt : ∀ i v, V1 i v → ∃ t, v = .str (xs.getD i Str.empty) t) :
    ∀ (left i : Nat) (s : Shared), left + i = n → Z i s → s.heap.SetOf (strKind prog w) D (met xs i) (cnt xs i) →
      (∀ s2, Moved (D :: wq) G s s2 → s2.heap.SetOf (strKind prog w) D (met xs n) (cnt xs n) → R (.ok (.ret .none)) s2) →
      codeAny (model prog w) A (.builtin "set.update.loop" ⟨[.ref D, .ref J], []⟩) R s := by
  have nW : D ∉ wq := fun z => nD (Wk.sub _ z)
  have wide : ∀ b ∈ wq, b ∈ D :: wq := fun _ z => .tail _ z
  have stay : ∀ {a b : Shared} {S : Str → Bool} {c : Nat}, Moved wq G a b → a.heap.SetOf (strKind prog w) D S c → b.heap.SetOf (strKind prog w) D S c := fun mv st => by
    obtain ⟨u, e1, e2, e3, e4, e5⟩ := st
    exact ⟨u, e1, e2, e3, mv.heap D _ nW e4, e5⟩
  intro left
  induction left with
  | zero =>
    intro i s hi st so fin
    have e : i = n := by omega
    subst e
    refine codeAny_builtin PyProof.Rows.F.entry_set_update_loop ?_
    rw [Around.under_plainId PyProof.Rows.F.plain_set_update_loop]
    refine wpAny_bind (m := pyNext (.ref J)) (Wk.done s _ _ st fun s2 mv => ?_)
    exact wpAny_pure (fin s2 (mv.mono wide) (stay mv so))
  | succ left ih =>
    intro i s hi st so fin
    have lt : i < n := by omega
    refine codeAny_builtin PyProof.Rows.F.entry_set_update_loop ?_
    rw [Around.under_plainId PyProof.Rows.F.plain_set_update_loop]
    refine wpAny_bind (m := pyNext (.ref J)) (Wk.item i s _ _ lt st fun v s2 hv st2 mv => ?_)
    obtain ⟨t, rfl⟩ := txt i v hv
    refine wpAny_bind (m := holding _ (setAdd D _)) (wpAny_holding ?_)
    unfold setAdd
    refine wpAny_holding (wpAny_bind ((strKind prog w).pyHash (k := xs.getD i Str.empty) (strKind_is _ _ _ _) ?_))
    have room : cnt xs i + 1 < scanBound := by
      have := cnt_le xs i
      omega
    have so2 := stay mv so
    refine wpAny_setAddHashed_of (knd := strKind prog w) (s := { s2 with toks := s2.toks + 1 }) (strKind_is _ _ _ _) rfl so2 room fun h3 same so3 => ?_
    have so4 : h3.SetOf (strKind prog w) D (met xs (i + 1)) (cnt xs (i + 1)) := PyProof.Rows.SetOf_congr so3 (fun z => (met_succ (by omega) z).symm) rfl
    have off : ∀ {b : Addr}, b ≠ D → h3.get? b = s2.heap.get? b := fun hb => same.2 _ hb
    refine wpAny_pure ⟨plainId_quiet PyProof.Rows.F.plain_set_update_loop _, ih (i + 1) _ (by omega) (Wk.frame _ s2 _ _ st2 (Nat.le_succ _) fun b hb o e => ?_) so4 fun s5 mv5 so5 => ?_⟩
    · have q : b ≠ D := fun z => nD (z ▸ hb)
      exact (off q).trans e
    · refine fin s5 (.trans Wk.gtrans ((mv.mono wide).then_heap (Nat.le_succ _) fun b o hb e => ?_) mv5) so5
      have q : b ≠ D := fun z => hb (z ▸ .head _)
      exact (off q).trans e
end
section
variable {prog : Program} {w : World} {A : Around} {E : Value → Shared → Prop} {s : Shared}
/-- a set without members -/
abbrev bare (led : Bool) : Obj := { cls := .type "set", dict := none, data := .set #[] 0 (.fresh 0 0 led) }
/-- what set(xs) leaves: a new set, all old objects as they were -/
def Left (prog : Program) (w : World) (s : Shared) (xs : List Str) (s2 : Shared) : Prop :=
  ∃ h2 tk, s2 = { s with heap := h2, toks := tk } ∧ h2.SetOf (strKind prog w) s.heap.objs.size (met xs xs.length) (cnt xs xs.length) ∧ ∀ b o, b < s.heap.objs.size → s.heap.get? b = some o → h2.get? b = some o
/-- __init__ of a new set from a list of texts -/
theorem set_init {l : Addr} {its : Array Value} {xs : List Str} {led : Bool} (calm : A.handled = none) (hl : s.heap.IsList l its) (hx : PyProof.Rows.StrsAre its.toList xs) (small : xs.length + 1 < scanBound)
    (hT : Shared.TypeIs { s with heap := s.heap.push (bare led) } (.ref s.heap.objs.size) "set") :
    codeAny (model prog w) A (.call (.builtin "set.__init__") ⟨[.ref s.heap.objs.size, .ref l], []⟩) (fun r s2 => r = .ok (.ret .none) ∧ Left prog w s xs s2) { s with heap := s.heap.push (bare led) } := by
  have new : (s.heap.push (bare led)).get? s.heap.objs.size = some (bare led) := Heap.get?_push_size _ rfl
  refine codeAny_call_builtin PySem.F.called_set.init.plain PySem.F.entry_set_init (check_set_init_1 hT ?_)
  have old : l < s.heap.objs.size := by
    obtain ⟨o, e, _⟩ := hl
    exact Heap.lt_size e
  have hl1 : (s.heap.push (bare led)).IsList l its := hl.push _
  have two : (s.heap.push (bare led)).objs.size = s.heap.objs.size + 1 := Heap.size_push _ _
  have two2 : ((s.heap.push (bare led)).push { cls := .type "list_iterator", data := .fields #[.ref l, .int 0 0] }).get? s.heap.objs.size = some (bare led) := Heap.get?_push_of_some _ new
  obtain ⟨⟨oc, odi, oda, osl⟩, e1, e2, nl, e3⟩ := id hl1
  simp only at e2 e3
  subst e2 e3
  have f1 := PySem.F.sub_list_set
  have f2 := PySem.F.sub_list_frozenset
  have f3 : (Value.type "list" == Value.type "dict") = false := by decide
  have f4 : A.in1.in1.handled = none := by simp [calm]
  unfold Builtin.«set.__init__» noKeywords Builtin.Frozenset.updateFrom
  generalize hPI : pyIter = PI
  wp_walk
  subst hPI
  have apart : l ≠ (s.heap.push (bare led)).objs.size := by
    rw [two]
    exact Nat.ne_of_lt (Nat.lt_succ_of_lt old)
  have size : its.size = xs.length := by rw [← Array.length_toList]; exact PyProof.Rows.StrsAre.len_eq hx
  refine wpAny_pyIter_list hl1 (wpAny_bind (wpAny_runValue ?_))
  refine turns (n := its.size) ((Walks.list f4 _ l apart its).toS) (D := s.heap.objs.size) ?_ size (by omega) (fun i v hv => SS.strs_at hx i v (by rw [Array.getElem?_toList]; exact hv)) its.size 0 _ (by omega) ⟨⟨_, Heap.get?_push_size _ rfl, rfl, rfl⟩, hl1.push _⟩ ?_ ?_
  · intro z
    rcases List.mem_cons.mp z with z | z
    · rw [two] at z
      exact Nat.ne_of_lt (Nat.lt_succ_self _) z
    · rcases List.mem_cons.mp z with z | z
      · exact Nat.ne_of_gt old z
      · cases z
  · exact PyProof.Rows.SetOf_congr ((PyProof.Rows.setObjOf_fresh (knd := strKind prog w) led).setOf two2 (by unfold scanBound; omega)) (fun z => by simp [met]) rfl
  · intro s2 mv so
    obtain ⟨h2, g2, d2, t2, o2⟩ := s2
    obtain rfl : g2 = s.gens := mv.gens
    obtain rfl : d2 = s.drawn := mv.drawn
    obtain rfl : o2 = s.os := mv.os
    rw [size] at so
    refine wpAny_pure (wpAny_pure ⟨rfl, h2, t2, rfl, so, fun b o hb e => ?_⟩)
    refine mv.heap b o (fun z => ?_) (Heap.get?_push_of_some _ (Heap.get?_push_of_some _ e))
    rcases List.mem_cons.mp z with z | z
    · exact Nat.ne_of_lt hb z
    · rcases List.mem_cons.mp z with z | z
      · rw [two] at z
        exact Nat.ne_of_lt (Nat.lt_succ_of_lt hb) z
      · cases z
/-- set(xs), xs a list of texts -/
theorem set_of_list {l : Addr} {its : Array Value} {xs : List Str} {Q : Value → Shared → Prop} (calm : A.handled = none) (hl : s.heap.IsList l its) (hx : PyProof.Rows.StrsAre its.toList xs) (small : xs.length + 1 < scanBound)
    (q : ∀ s2, Left prog w s xs s2 → Q (.ref s.heap.objs.size) s2) : wpAny (model prog w) A (call (.type "set") [.ref l]) Q E s := by
  have mk := PySem.F.called_set.made
  have sb := PySem.F.called_set.sub
  have nt := PySem.F.called_set.notType
  have cc := PySem.F.called_set.canCreate
  have tc := PySem.F.typeCall_set_1 (.ref l)
  have il := PySem.F.called_set.init.lookup
  have ib := PySem.F.called_set.init.bind (.ref s.heap.objs.size)
  obtain ⟨m1, m2, mr⟩ := PySem.F.called_set.mro
  have go : codeAny (model prog w) A (.builtin "type.__call__" ⟨[.type "set", .ref l], []⟩) (fun r s2 => match r with | .ok (.ret v) => Q v s2 | .ok _ => False | .error e => E e s2) s := ?goal
  · refine wpAny_call (codeAny_of_tree ?_)
    show wpAny _ _ (callAny (.type "set") _) _ _ _
    exact wpAny_pure ⟨Code.quiet_builtin _ (by decide +kernel), go⟩
  refine codeAny_builtin PySem.F.entry_type_call ?_
  rw [Around.under_plain (weight_type_call_type "set" _ []) rfl]
  repeat (any_goals (first | assumption | wp_step))
  refine codeAny_mono (code_set_new_1 (.ref l) (E := E) (Q₁ := fun v s1 => v = .ref s.heap.objs.size ∧ ∃ led : Bool, s1 = { s with heap := s.heap.push (bare led) }) fun led => ⟨rfl, led, rfl⟩) fun r s1 hr => ?_
  cases r with
  | error e => exact hr
  | ok fl =>
    cases fl with
    | ret v =>
      obtain ⟨rfl, led, rfl⟩ := hr
      have hT : Shared.TypeIs { s with heap := s.heap.push (bare led) } (.ref s.heap.objs.size) "set" := ⟨_, Heap.get?_push_size _ rfl, rfl⟩
      have c1 : A.in1.handled = none := by simp [calm]
      repeat (any_goals (first | assumption | wp_step))
      refine codeAny_mono (set_init c1 hl hx small hT) fun r s2 hr => ?_
      obtain ⟨rfl, lf⟩ := hr
      repeat (any_goals (first | assumption | wp_step))
      exact q s2 lf
    | _ => exact hr.elim
end
end Tx
set_option Elab.async false
set_option linter.all false
set_option maxRecDepth 100000
set_option maxHeartbeats 4000000
namespace Tx
open PySem PySem.Spec PyProof.Rows L2
/-- len(set(xs)), xs a list of texts -/
def tLenS (K : PySem.W.Frag) (ta : TE) : TE := fun σ H Q => ta σ H fun x H1 => ∃ l, ∃ xs : List Str, x = .ref l ∧ SqL K H1 l (xs.map V.str) ∧ xs.length < 1000 ∧ Q (.int (cnt xs xs.length : Nat)) H1
section
variable {X : Cx} {a : Expr} {ta : TE} {p p2 q pos : Pos}
theorem pe_lenS (calm : X.calm = true) (g1 : Gl X "len") (m1 : X.mg "len" = none) (g2 : Gl X "set") (m2 : X.mg "set" = none) (ha : PE X a ta)
    (na : starEach [a] X.env = (false, eval a X.env) :: starEach [] X.env := by rfl) : PE X (.Call (.Name "len" p) [.Call (.Name "set" p2) [a] [] q] [] pos) (tLenS X.K ta) := by
  refine ⟨fun pins s σ H Q I h => Call_ (ld_blt I g1 m1 boot_len ?_)⟩
  refine callWith_builtin1 (args_cons ?_ rfl) rfl rfl
  refine Call_ (ld_blt I g2 m2 boot_set ?_)
  refine callWith_type1 (args_cons (thn (ha.run pins s σ H _ I h) fun v s1 ⟨x, H1, I1, r1, q1⟩ => args_nil ?_) na) na rfl
  obtain ⟨l, xs, rfl, hq, small, q1⟩ := q1
  obtain rfl : v = Value.ref l := r1
  obtain ⟨its, r, pl, _⟩ := I1.list hq
  refine set_of_list (I1.ok.hd calm) pl.isList (by simpa using strsAre_of r) (by unfold scanBound; omega) fun s2 lf => args_nil ?_
  obtain ⟨h2, tk, rfl, so, keep⟩ := lf
  obtain ⟨o, es, ep, t, o1, o2, o3, _, _, _, o4, o5⟩ := so
  have I2 : L2.Inv X pins σ H1 { s1 with heap := h2, toks := tk } := I1.kept fun b o e => keep b o (Heap.lt_size e) e
  have le := cnt_le xs xs.length
  exact call_len_set o1 o2 o3 o4 (by omega) ⟨.int (cnt xs xs.length : Nat), H1, I2.tok _, ⟨_, by rw [o5]⟩, q1⟩
end
/-! when all are different -/
theorem cnt_full {xs : List Str} : ∀ {i : Nat}, i ≤ xs.length → (cnt xs i = i ↔ (xs.take i).Nodup)
  | 0, _ => by simp [cnt]
  | i + 1, h => by
    have ih := cnt_full (xs := xs) (i := i) (by omega)
    have le := cnt_le xs i
    have hi : i < xs.length := by omega
    have e : xs.getD i Str.empty = xs[i] := by rw [List.getD_eq_getElem?_getD, List.getElem?_eq_getElem hi]; rfl
    unfold cnt
    rw [List.take_add_one, List.getElem?_eq_getElem hi, Option.toList_some, List.nodup_append, e]
    unfold met
    by_cases hm : xs[i] ∈ xs.take i
    · rw [if_pos (decide_eq_true hm)]
      constructor
      · intro z
        omega
      · rintro ⟨_, _, z⟩
        exact absurd rfl (z _ hm _ (List.mem_singleton.mpr rfl))
    · rw [if_neg (by simpa using hm)]
      constructor
      · intro z
        refine ⟨ih.mp (by omega), by simp, fun a ha b hb e => hm ?_⟩
        rw [← List.mem_singleton.mp hb, ← e]
        exact ha
      · rintro ⟨z, _⟩
        rw [ih.mpr z]
theorem cnt_nodup (xs : List Str) : decide ((cnt xs xs.length : Int) = (xs.length : Int)) = decide xs.Nodup := by
  have h := cnt_full (xs := xs) (Nat.le_refl xs.length)
  rw [List.take_length] at h
  by_cases n : xs.Nodup
  · rw [decide_eq_true n, decide_eq_true (by have := h.mpr n; omega)]
  · rw [decide_eq_false n, decide_eq_false fun z => n (h.mp (by omega))]
end Tx
set_option Elab.async false
set_option linter.all false
set_option maxRecDepth 100000
namespace Toy
open PySem PySem.Spec PyProof.Rows L2
def topS (i : Nat) : Stmt := PySem.Challenge.pw_trustedpages_k14_orders_of_words.main.body.getD i (.Pass ⟨0, 0, 0, 0⟩)
abbrev s_is_one_of : Stmt := topS 1
theorem sc_is_one_of : FnScope ["value", "known"] ["value", "known"] (defScope s_is_one_of) := ⟨rfl, rfl, rfl, by decide +kernel, rfl, by decide +kernel, by decide +kernel⟩
-- is_one_of cells []
abbrev s_split : Stmt := topS 6
theorem sc_split : FnScope ["value", "known", "words", "word"] ["value", "known"] (defScope s_split) := ⟨rfl, rfl, rfl, by decide +kernel, rfl, by decide +kernel, by decide +kernel⟩
-- split cells ['known']
abbrev s_ahead : Stmt := topS 7
theorem sc_ahead : FnScope ["words", "first", "second"] ["words", "first", "second"] (defScope s_ahead) := ⟨rfl, rfl, rfl, by decide +kernel, rfl, by decide +kernel, by decide +kernel⟩
-- ahead cells []
abbrev s_locks : Stmt := topS 8
theorem sc_locks : FnScope ["words"] ["words"] (defScope s_locks) := ⟨rfl, rfl, rfl, by decide +kernel, rfl, by decide +kernel, by decide +kernel⟩
-- locks cells []
abbrev s_is_writer : Stmt := topS 9
theorem sc_is_writer : FnScope ["value", "words"] ["value"] (defScope s_is_writer) := ⟨rfl, rfl, rfl, by decide +kernel, rfl, by decide +kernel, by decide +kernel⟩
-- is_writer cells []
abbrev s_is_cleaner : Stmt := topS 10
theorem sc_is_cleaner : FnScope ["value", "words", "removes", "looks_again"] ["value"] (defScope s_is_cleaner) := ⟨rfl, rfl, rfl, by decide +kernel, rfl, by decide +kernel, by decide +kernel⟩
-- is_cleaner cells []
abbrev s_is_reader : Stmt := topS 11
theorem sc_is_reader : FnScope ["value", "words"] ["value"] (defScope s_is_reader) := ⟨rfl, rfl, rfl, by decide +kernel, rfl, by decide +kernel, by decide +kernel⟩
-- is_reader cells []
abbrev s_law_pot : Stmt := topS 13
theorem sc_law_pot : FnScope ["script", "cell"] ["script"] (defScope s_law_pot) := ⟨rfl, rfl, rfl, by decide +kernel, rfl, by decide +kernel, by decide +kernel⟩
-- law_pot cells []
abbrev s_law_draw : Stmt := topS 14
theorem sc_law_draw : FnScope ["pot", "many", "cells", "at", "cell"] ["pot", "many"] (defScope s_law_draw) := ⟨rfl, rfl, rfl, by decide +kernel, rfl, by decide +kernel, by decide +kernel⟩
-- law_draw cells []
abbrev s_law_put_in : Stmt := topS 15
theorem sc_law_put_in : FnScope ["pot", "order", "word", "least", "at"] ["pot", "order", "word", "least"] (defScope s_law_put_in) := ⟨rfl, rfl, rfl, by decide +kernel, rfl, by decide +kernel, by decide +kernel⟩
-- law_put_in cells []
abbrev s_law_locked : Stmt := topS 16
theorem sc_law_locked : FnScope ["pot", "order", "at"] ["pot", "order"] (defScope s_law_locked) := ⟨rfl, rfl, rfl, by decide +kernel, rfl, by decide +kernel, by decide +kernel⟩
-- law_locked cells []
abbrev s_law_writer_words : Stmt := topS 17
theorem sc_law_writer_words : FnScope ["pot", "order"] ["pot"] (defScope s_law_writer_words) := ⟨rfl, rfl, rfl, by decide +kernel, rfl, by decide +kernel, by decide +kernel⟩
-- law_writer_words cells []
abbrev s_law_cleaner_words : Stmt := topS 18
theorem sc_law_cleaner_words : FnScope ["pot", "order"] ["pot"] (defScope s_law_cleaner_words) := ⟨rfl, rfl, rfl, by decide +kernel, rfl, by decide +kernel, by decide +kernel⟩
-- law_cleaner_words cells []
abbrev s_law_reader_words : Stmt := topS 19
theorem sc_law_reader_words : FnScope ["pot", "order"] ["pot"] (defScope s_law_reader_words) := ⟨rfl, rfl, rfl, by decide +kernel, rfl, by decide +kernel, by decide +kernel⟩
-- law_reader_words cells []
abbrev s_law_ahead : Stmt := topS 20
theorem sc_law_ahead : FnScope ["order", "one", "other"] ["order", "one", "other"] (defScope s_law_ahead) := ⟨rfl, rfl, rfl, by decide +kernel, rfl, by decide +kernel, by decide +kernel⟩
-- law_ahead cells []
abbrev s_law_fits : Stmt := topS 21
theorem sc_law_fits : FnScope ["text", "needed", "free", "order", "word", "other"] ["text", "needed", "free"] (defScope s_law_fits) := ⟨rfl, rfl, rfl, by decide +kernel, rfl, by decide +kernel, by decide +kernel⟩
-- law_fits cells ['order', 'word']
abbrev s_law_is_writer : Stmt := topS 22
theorem sc_law_is_writer : FnScope ["text", "order"] ["text"] (defScope s_law_is_writer) := ⟨rfl, rfl, rfl, by decide +kernel, rfl, by decide +kernel, by decide +kernel⟩
-- law_is_writer cells []
abbrev s_law_is_cleaner : Stmt := topS 23
theorem sc_law_is_cleaner : FnScope ["text", "order"] ["text"] (defScope s_law_is_cleaner) := ⟨rfl, rfl, rfl, by decide +kernel, rfl, by decide +kernel, by decide +kernel⟩
-- law_is_cleaner cells []
abbrev s_law_is_reader : Stmt := topS 24
theorem sc_law_is_reader : FnScope ["text", "order"] ["text"] (defScope s_law_is_reader) := ⟨rfl, rfl, rfl, by decide +kernel, rfl, by decide +kernel, by decide +kernel⟩
-- law_is_reader cells []
abbrev s_law_spoilt : Stmt := topS 25
theorem sc_law_spoilt : FnScope ["pot", "order", "strange", "k", "word", "at", "mate", "kept"] ["pot", "order"] (defScope s_law_spoilt) := ⟨rfl, rfl, rfl, by decide +kernel, rfl, by decide +kernel, by decide +kernel⟩
-- law_spoilt cells []
abbrev s_law : Stmt := topS 26
theorem sc_law : FnScope ["script", "pot", "order", "k", "kind", "good", "text", "odd"] ["script"] (defScope s_law) := ⟨rfl, rfl, rfl, by decide +kernel, rfl, by decide +kernel, by decide +kernel⟩
-- law cells []
end Toy
set_option Elab.async false
set_option linter.all false
set_option maxRecDepth 100000
set_option maxHeartbeats 4000000
namespace Vx
open PySem PySem.Spec PyProof.Rows L2
theorem op_inK {X : Cx} {K : PySem.W.Frag} (hK : X.K = K) : OpR X (compareOp .In) (rIn K false) := hK ▸ op_in_seq
theorem op_notInK {X : Cx} {K : PySem.W.Frag} (hK : X.K = K) : OpR X (compareOp .NotIn) (rIn K true) := hK ▸ op_notIn_seq
end Vx
namespace Toy
open PySem PySem.Spec PyProof.Rows L2
theorem same_upd {H : Hp} {p : Addr} {o : HO} (h : H p = none) : Same H (upd H p o) := fun b x e => by
  rw [upd_ne (ne_of_none e h)]
  exact e
/-! ### lists of words -/
theorem eqV_str (a b : Str) : eqV (.str a) (.str b) = decide (a = b) := by
  show (a == b) = decide (a = b)
  by_cases h : a = b
  · subst h
    simp
  · rw [decide_eq_false h]
    exact beq_eq_false_iff_ne.mpr h
theorem inV_str (z : Str) (ws : List Str) : inV (.str z) (ws.map V.str) = decide (z ∈ ws) := by
  unfold inV
  induction ws with
  | nil => rfl
  | cons a r ih =>
    rw [List.map_cons, List.any_cons, ih, eqV_str]
    by_cases h : a = z
    · subst h
      simp
    · have h2 : z ≠ a := fun e => h e.symm
      simp [h, h2]
theorem flat_str (ws : List Str) : (ws.map V.str).all flatV = true := flat_strs ws
def idx (z : Str) : List Str → Nat
  | [] => 0
  | a :: r => if a = z then 0 else idx z r + 1
theorem idx_get : ∀ {z : Str} {ws : List Str}, z ∈ ws → (ws.map V.str)[idx z ws]? = some (.str z)
  | z, a :: r, h => by
    unfold idx
    by_cases e : a = z
    · rw [if_pos e, e]
      rfl
    · rw [if_neg e]
      have h' : z ∈ r := by
        rcases List.mem_cons.mp h with q | q
        · exact absurd q.symm e
        · exact q
      exact idx_get h'
theorem idx_none : ∀ {z : Str} {ws : List Str} (m : Nat) (v : V), m < idx z ws → (ws.map V.str)[m]? = some v → eqV v (.str z) = false
  | z, a :: r, m, v, hm, hv => by
    unfold idx at hm
    by_cases e : a = z
    · rw [if_pos e] at hm
      omega
    · rw [if_neg e] at hm
      cases m with
      | zero =>
        have q : V.str a = v := by simpa using hv
        rw [← q, eqV_str]
        exact decide_eq_false e
      | succ m => exact idx_none (z := z) (ws := r) m v (by omega) (by simpa using hv)
def ahd (ws : List Str) (a b : Str) : Bool := decide (a ∈ ws) && (decide (b ∈ ws) && decide (idx a ws < idx b ws))
def lck (ws : List Str) : Bool := (!decide (("lock" : Str) ∈ ws) && !decide (("unlock" : Str) ∈ ws)) || ahd ws "lock" "unlock"
def splitW (known ws : List Str) : List Str := if ((ws.all fun z => decide (z ∈ known)) && decide ws.Nodup) = true then ws else []
def WW : List Str := ["change", "clear", "commit", "enter", "lock", "unlock"]
def CW : List Str := ["again", "lock", "look", "remove", "set", "unlock"]
def RW : List Str := ["entry", "hold", "mark", "page", "take", "tell"]
def isW (ws : List Str) : Bool := ahd (splitW WW ws) "change" "enter" && (ahd (splitW WW ws) "change" "commit" && lck (splitW WW ws))
def isC (ws : List Str) : Bool := ahd (splitW CW ws) "look" "set" && ((!decide (("remove" : Str) ∈ splitW CW ws) || ahd (splitW CW ws) "remove" "look") && ((!decide (("again" : Str) ∈ splitW CW ws) || ahd (splitW CW ws) "set" "again") && lck (splitW CW ws)))
def isR (ws : List Str) : Bool :=
  if (!decide (("entry" : Str) ∈ splitW RW ws) || (!decide (("mark" : Str) ∈ splitW RW ws) || !decide ((splitW RW ws).getLast? = some ("page" : Str)))) = true then false
  else if (("hold" : Str) ∈ splitW RW ws) then (!decide (("take" : Str) ∈ splitW RW ws) && !decide (("tell" : Str) ∈ splitW RW ws)) else ahd (splitW RW ws) "take" "tell"
/-! ### values -/
def NotStr (K : PySem.W.Frag) (H : Hp) (v : V) : Prop := ∃ t, TyX K H v t ∧ PySem.W.kitOne K t (.type "str") = some false
/-- what a value is as an order: the words of a text; nothing where it is none -/
def Val (K : PySem.W.Frag) (H : Hp) (v : V) (ws : List Str) : Prop := (∃ z, v = .str z ∧ z.length ≤ 500 ∧ Txt.split z " " = ws) ∨ (NotStr K H v ∧ ws = [])
structure Nms (mg : Str → Option Value) : Prop where
  isi : mg "isinstance" = none
  str : mg "str" = none
  all : mg "all" = none
  len : mg "len" = none
  set : mg "set" = none
section
variable {P : Program} {w : World} {K : PySem.W.Frag} {mg : Str → Option Value} {base : Heap}
def spOneK (K : PySem.W.Frag) : Sp := fun vs H Q _ => ∃ (z : Str) (t : Addr) (known : List Str), vs = [.str z, .ref t] ∧ SqT K H t (known.map V.str) ∧ Q (.bl (decide (z ∈ known))) H
theorem ok_one_of {f : Addr} {fd : FuncData} (F : Fun K "is_one_of" "is_one_of" s_is_one_of f fd) (N : Nms mg) : FnOk P w K mg base CX0 1 f fd ["value", "known"] (spOneK K) := by
  refine F.ok sc_is_one_of (fun vs H Q E h => ?_) (fun cdv A outer s H vs Q E hr h => ?_)
  · obtain ⟨z, t, known, rfl, _⟩ := h
    rfl
  · obtain ⟨z, t, known, rfl, ht, q⟩ := h
    refine ⟨_, pss_one (ps_ret (pe_and (pe_callB call_isi (by rfl) N.isi (by decide +kernel) (pa_cons (pv 0) (pa_cons (pe_bltn (v := .ty "str") (by rfl) N.str (by decide +kernel) rfl) pa_nil))) (pe_one (pe_cmpR (Vx.op_inK (K := K) rfl) (pv 0) (pv 1) (by rfl))))), ?_⟩
    refine ⟨_, rfl, .str z, .ty "str", _, _, true, rfl, .ty _, .base (.str z), kit_ty (by decide +kernel), true, rfl, iteT ?_⟩
    refine ⟨_, rfl, _, rfl, t, _, rfl, .inr ht, rfl, flat_str _, ?_⟩
    show Q (.bl (inV (.str z) (known.map V.str))) H
    rw [inV_str]
    exact q
/-! ### _split -/
theorem take_str {ws : List Str} {i : Nat} {x : V} (h : (ws.map V.str)[i]? = some x) : ∃ z, ws[i]? = some z ∧ x = .str z := by
  rw [List.getElem?_map] at h
  cases e : ws[i]? with
  | none => rw [e] at h; cases h
  | some k => rw [e] at h; exact ⟨k, rfl, (Option.some.inj h).symm⟩
def spSplit (K : PySem.W.Frag) : Sp := fun vs H Q _ => ∃ (v : V) (t : Addr) (known ws : List Str), vs = [v, .ref t] ∧ Val K H v ws ∧ (∀ H', Same H H' → SqT K H' t (known.map V.str)) ∧ ∀ H' l, Same H H' → H l = none → H' l = some (.lst ((splitW known ws).map V.str)) → Q (.ref l) H'
theorem ok_split {f fO : Addr} {fd fdO : FuncData} (F : Fun K "_split" "_split" s_split f fd) (N : Nms mg) (GO : FnOk P w K mg base CX0 1 fO fdO ["value", "known"] (spOneK K)) (kO : PySem.W.keepIn K (.ref fO) = true) (bO : L2.Binds K fdO ["value", "known"] []) (gO : mg "is_one_of" = some (.ref fO)) :
    FnOk P w K mg base CX0 2 f fd ["value", "known"] (spSplit K) := by
  refine F.ok sc_split (fun vs H Q E h => ?_) (fun cdv A outer s H vs Q E hr h => ?_)
  · obtain ⟨v, t, known, ws, rfl, _⟩ := h
    rfl
  · obtain ⟨v, t, known, ws, rfl, hv, ht, q⟩ := h
    refine ⟨_, pss_cons (ps_if (pt_not (pt_val (pe_callB call_isi (by rfl) N.isi (by decide +kernel) (pa_cons (pv 0) (pa_cons (pe_bltn (v := .ty "str") (by rfl) N.str (by decide +kernel) rfl) pa_nil))))) (pss_one (ps_ret (pe_lst pa_nil))) pss_nil)
      (pss_cons (ps_set (i := 2) sc_split.nd rfl (Or.inl rfl) (pe_split (pv 0) pe_str))
      (pss_cons (ps_if (PW.pt (pw_and (pt_val (pe_callB (cr_all rfl) (by rfl) N.all (by decide +kernel) (pa_cons (pe_lc (own := [("word", 3)]) (g := gName 3) (tt := tYes) rfl sc_split.nd (pi_list (pv 2))
          (blkOk_by (own := [("word", 3)]) (N := ["value", "known", "words", "word"]) (sc := defScope s_split) (by decide +kernel)) (fun _ _ _ _ _ => pg_name (i := 3) sc_split.nd rfl (Or.inl rfl)) (fun _ _ _ _ _ => pts_nil)
          (fun _ _ _ _ _ => pe_call GO hr (by rfl) gO kO bO .nil pass0 (pa_cons (pv 3) (pa_cons (pv 1) pa_nil)))) pa_nil)))
          (pw_and1 (pt_cmpR op_eq (Tx.pe_lenS rfl (by rfl) N.len (by rfl) N.set (pv 2)) (pe_callB call_len_seq (by rfl) N.len PySem.boot_len (pa_cons (pv 2) pa_nil)) (nomark _))))) (pss_one (ps_ret (pv 2))) pss_nil)
      (pss_one (ps_ret (pe_lst pa_nil))))), ?_⟩
    rcases hv with ⟨z, rfl, hz, rfl⟩ | ⟨⟨ty, hty, hk⟩, rfl⟩
    · refine ⟨_, rfl, .str z, .ty "str", _, _, true, rfl, .ty _, .base (.str z), kit_ty (by decide +kernel), true, rfl, iteF ?_⟩
      have small : (Txt.split z " ").length ≤ 502 := Nat.le_trans (PyProof.Rows.split_le z " ") (by omega)
      refine ⟨_, rfl, ⟨z, rfl⟩, z, " ", rfl, rfl, by decide +kernel, Nat.le_trans (show z.length + 2 ≤ 502 by omega) (by decide), fun l nl => ?_⟩
      generalize Txt.split z " " = ws at small q
      have s1 : Same H (upd H l (.lst (ws.map V.str))) := same_upd nl
      have e1 : (upd H l (.lst (ws.map V.str))) l = some (.lst (ws.map V.str)) := upd_same
      refine ⟨_, rfl, l, rfl, ⟨_, SqL.of e1⟩, fun D hD => ?_⟩
      refine lc_list (K := K) (a := l) (xs := ws.map V.str) (fun i H2 => Same (upd H l (.lst (ws.map V.str))) H2 ∧ H2 D = some (.lst (((ws.take i).map fun z => decide (z ∈ known)).map V.bl))) ⟨same_upd hD, upd_same⟩ (fun i H2 _ y => SqL.of (y.1 _ _ e1)) ?_ ?_
      · rintro i x H2 hx ⟨s2, e2⟩
        obtain ⟨y, hy, rfl⟩ := take_str hx
        have hi : i < ws.length := (List.getElem?_eq_some_iff.mp hy).1
        refine ⟨rfl, _, rfl, _, rfl, y, t, known, rfl, ht _ (s1.trans s2), _, e2, ?_, fun b o e => ?_, ?_⟩
        · rw [List.length_map, List.length_map, List.length_take]
          exact Nat.lt_of_le_of_lt (Nat.min_le_right _ _) (Nat.lt_of_le_of_lt small (by decide))
        · rw [upd_ne (ne_of_none e hD)]
          exact s2 _ _ e
        · rw [upd_same, List.take_add_one, hy, List.map_append, List.map_append]
          rfl
      · rintro H2 ⟨s2, e2⟩
        rw [List.length_map, List.take_length] at e2
        refine ⟨D, _, rfl, SqL.of e2, _, rfl, ?_⟩
        have ea : ((ws.map fun z => decide (z ∈ known)).all id) = ws.all fun z => decide (z ∈ known) := by rw [List.all_map]; rfl
        rw [ea]
        have t12 := s1.trans s2
        have e3 := s2 _ _ e1
        by_cases h1 : (ws.all fun z => decide (z ∈ known)) = true
        · rw [h1]
          refine iteT ⟨_, rfl, l, ws, rfl, SqL.of e3, by omega, _, rfl, l, _, rfl, .inl (SqL.of e3), rfl, _, rfl, ?_⟩
          have ed : decide (V.int ((Tx.cnt ws ws.length : Nat) : Int) = V.int (((ws.map V.str).length : Nat) : Int)) = decide ws.Nodup := by
            rw [← Tx.cnt_nodup, List.length_map]
            by_cases c : ((Tx.cnt ws ws.length : Nat) : Int) = ((ws.length : Nat) : Int)
            · rw [decide_eq_true c, decide_eq_true (by rw [c])]
            · rw [decide_eq_false c, decide_eq_false fun y => c (by injection y)]
          rw [ed]
          by_cases h2 : ws.Nodup
          · rw [decide_eq_true h2]
            refine iteT ⟨_, rfl, q H2 l t12 nl ?_⟩
            have es : splitW known ws = ws := by unfold splitW; rw [h1, decide_eq_true h2]; rfl
            rw [es]
            exact e3
          · rw [decide_eq_false h2]
            refine iteF ⟨Nat.zero_le _, fun m nm => q _ m (t12.trans (same_upd nm)) (t12.free nm) ?_⟩
            have es : splitW known ws = [] := by unfold splitW; rw [h1, decide_eq_false h2]; rfl
            rw [es]
            exact upd_same
        · rw [Bool.eq_false_iff.mpr h1]
          refine iteF (iteF ⟨Nat.zero_le _, fun m nm => q _ m (t12.trans (same_upd nm)) (t12.free nm) ?_⟩)
          have es : splitW known ws = [] := by unfold splitW; rw [Bool.eq_false_iff.mpr h1]; rfl
          rw [es]
          exact upd_same
    · refine ⟨_, rfl, v, .ty "str", ty, .type "str", false, rfl, .ty _, hty, hk, false, rfl, iteT ⟨Nat.zero_le _, fun m nm => q _ m (same_upd nm) nm ?_⟩⟩
      have es : splitW known [] = [] := by unfold splitW; rfl
      rw [es]
      exact upd_same
end
end Toy
set_option Elab.async false
set_option linter.all false
set_option maxRecDepth 100000
set_option maxHeartbeats 4000000
namespace Toy
open PySem PySem.Spec PyProof.Rows L2
structure Nm2 (mg : Str → Option Value) (tW tC tR : Addr) (fO fS fA fL : Addr) : Prop where
  o : mg "is_one_of" = some (.ref fO)
  s : mg "_split" = some (.ref fS)
  a : mg "_ahead" = some (.ref fA)
  l : mg "_locks" = some (.ref fL)
  w : mg "WRITER_WORDS" = some (.ref tW)
  c : mg "CLEANER_WORDS" = some (.ref tC)
  r : mg "READER_WORDS" = some (.ref tR)
section
variable {P : Program} {w : World} {K : PySem.W.Frag} {mg : Str → Option Value} {base : Heap}
def spAhead (K : PySem.W.Frag) : Sp := fun vs H Q _ => ∃ (l : Addr) (ws : List Str) (a b : Str), vs = [.ref l, .str a, .str b] ∧ SqL K H l (ws.map V.str) ∧ Q (.bl (ahd ws a b)) H
theorem ok_ahead {f : Addr} {fd : FuncData} (F : Fun K "_ahead" "_ahead" s_ahead f fd) : FnOk P w K mg base CX0 1 f fd ["words", "first", "second"] (spAhead K) := by
  refine F.ok sc_ahead (fun vs H Q E h => ?_) (fun cdv A outer s H vs Q E hr h => ?_)
  · obtain ⟨l, ws, a, b, rfl, _⟩ := h
    rfl
  · obtain ⟨l, ws, a, b, rfl, hl, q⟩ := h
    refine ⟨_, pss_one (ps_ret (pe_and (pe_cmpR (Vx.op_inK (K := K) rfl) (pv 1) (pv 0) (by rfl)) (pe_and (pe_cmpR (Vx.op_inK (K := K) rfl) (pv 2) (pv 0) (by rfl))
      (pe_one (pe_cmpR op_lt (pe_bm PySem.F.plainAttrs_list PySem.F.slot_list_index PySem.F.type_list_index mt_index (pv 0) (pa_cons (pv 1) pa_nil))
        (pe_bm PySem.F.plainAttrs_list PySem.F.slot_list_index PySem.F.type_list_index mt_index (pv 0) (pa_cons (pv 2) pa_nil)) (nomark _)))))), ?_⟩
    refine ⟨_, rfl, _, rfl, l, _, rfl, .inl hl, rfl, flat_str _, ?_⟩
    refine ⟨_, rfl, ?_⟩
    rw [inV_str]
    by_cases ha : a ∈ ws
    · rw [decide_eq_true ha]
      refine iteT ⟨_, rfl, _, rfl, l, _, rfl, .inl hl, rfl, flat_str _, ?_⟩
      refine ⟨_, rfl, ?_⟩
      rw [inV_str]
      by_cases hb : b ∈ ws
      · rw [decide_eq_true hb]
        refine iteT ⟨_, rfl, .inl ⟨rfl, _, hl⟩, _, rfl, l, _, _, idx a ws, _, rfl, rfl, hl, rfl, flat_str _, idx_get ha, ?_, fun m z hm hz => idx_none m z hm hz, ?_⟩
        · rw [eqV_str]
          exact decide_eq_true rfl
        · refine ⟨_, rfl, .inl ⟨rfl, _, hl⟩, _, rfl, l, _, _, idx b ws, _, rfl, rfl, hl, rfl, flat_str _, idx_get hb, ?_, fun m z hm hz => idx_none m z hm hz, ?_⟩
          · rw [eqV_str]
            exact decide_eq_true rfl
          · refine ⟨_, _, rfl, rfl, ?_⟩
            have e : ahd ws a b = decide (((idx a ws : Nat) : Int) < ((idx b ws : Nat) : Int)) := by
              unfold ahd
              rw [decide_eq_true ha, decide_eq_true hb]
              simp
            rw [e] at q
            exact q
      · rw [decide_eq_false hb]
        refine iteF ?_
        have e : ahd ws a b = false := by unfold ahd; rw [decide_eq_false hb]; simp
        rw [e] at q
        exact q
    · rw [decide_eq_false ha]
      refine iteF ?_
      have e : ahd ws a b = false := by unfold ahd; rw [decide_eq_false ha]; simp
      rw [e] at q
      exact q
def spLocks (K : PySem.W.Frag) : Sp := fun vs H Q _ => ∃ (l : Addr) (ws : List Str), vs = [.ref l] ∧ SqL K H l (ws.map V.str) ∧ Q (.bl (lck ws)) H
theorem ok_locks {f fA : Addr} {fd fdA : FuncData} (F : Fun K "_locks" "_locks" s_locks f fd) (GA : FnOk P w K mg base CX0 1 fA fdA ["words", "first", "second"] (spAhead K)) (kA : PySem.W.keepIn K (.ref fA) = true) (bA : L2.Binds K fdA ["words", "first", "second"] []) (gA : mg "_ahead" = some (.ref fA)) :
    FnOk P w K mg base CX0 2 f fd ["words"] (spLocks K) := by
  refine F.ok sc_locks (fun vs H Q E h => ?_) (fun cdv A outer s H vs Q E hr h => ?_)
  · obtain ⟨l, ws, rfl, _⟩ := h
    rfl
  · obtain ⟨l, ws, rfl, hl, q⟩ := h
    refine ⟨_, pss_one (ps_ret (pe_or (pe_and (pe_cmpR (Vx.op_notInK (K := K) rfl) pe_str (pv 0) (by rfl)) (pe_one (pe_cmpR (Vx.op_notInK (K := K) rfl) pe_str (pv 0) (by rfl))))
      (pe_one (pe_call GA hr (by rfl) gA kA bA .nil pass0 (pa_cons (pv 0) (pa_cons pe_str (pa_cons pe_str pa_nil))))))), ?_⟩
    refine ⟨_, rfl, l, _, rfl, .inl hl, rfl, flat_str _, ?_⟩
    refine ⟨_, rfl, ?_⟩
    rw [inV_str]
    unfold lck at q
    by_cases ha : ("lock" : Str) ∈ ws
    · rw [decide_eq_true ha] at q ⊢
      refine iteF ⟨_, rfl, iteF ⟨_, rfl, l, ws, _, _, rfl, hl, ?_⟩⟩
      exact q
    · rw [decide_eq_false ha] at q ⊢
      refine iteT ⟨_, rfl, l, _, rfl, .inl hl, rfl, flat_str _, ?_⟩
      refine ⟨_, rfl, ?_⟩
      rw [inV_str]
      by_cases hb : ("unlock" : Str) ∈ ws
      · rw [decide_eq_true hb] at q ⊢
        exact iteF ⟨_, rfl, l, ws, _, _, rfl, hl, q⟩
      · rw [decide_eq_false hb] at q ⊢
        exact iteT q
end
end Toy
set_option Elab.async false
set_option linter.all false
set_option maxRecDepth 100000
set_option maxHeartbeats 4000000
namespace Toy
open PySem PySem.Spec PyProof.Rows L2
section
variable {P : Program} {w : World} {K : PySem.W.Frag} {mg : Str → Option Value} {base : Heap}
def spIs (K : PySem.W.Frag) (isX : List Str → Bool) : Sp := fun vs H Q _ => ∃ (v : V) (ws : List Str), vs = [v] ∧ Val K H v ws ∧ ∀ H', Same H H' → Q (.bl (isX ws)) H'
/-- the three that are called -/
structure Three (P : Program) (w : World) (K : PySem.W.Frag) (mg : Str → Option Value) (base : Heap) (fS fA fL : Addr) (dS dA dL : FuncData) : Prop where
  GS : FnOk P w K mg base CX0 2 fS dS ["value", "known"] (spSplit K)
  kS : PySem.W.keepIn K (.ref fS) = true
  bS : L2.Binds K dS ["value", "known"] []
  GA : FnOk P w K mg base CX0 1 fA dA ["words", "first", "second"] (spAhead K)
  kA : PySem.W.keepIn K (.ref fA) = true
  bA : L2.Binds K dA ["words", "first", "second"] []
  GL : FnOk P w K mg base CX0 2 fL dL ["words"] (spLocks K)
  kL : PySem.W.keepIn K (.ref fL) = true
  bL : L2.Binds K dL ["words"] []
theorem ok_is_writer {f fO fS fA fL tW tC tR : Addr} {fd dS dA dL : FuncData} (F : Fun K "is_writer" "is_writer" s_is_writer f fd) (T : Three P w K mg base fS fA fL dS dA dL) (N : Nm2 mg tW tC tR fO fS fA fL) (hW : ∀ H, SqT K H tW (WW.map V.str)) :
    FnOk P w K mg base CX0 3 f fd ["value"] (spIs K isW) := by
  refine F.ok sc_is_writer (fun vs H Q E h => ?_) (fun cdv A outer s H vs Q E hr h => ?_)
  · obtain ⟨v, ws, rfl, _⟩ := h
    rfl
  · obtain ⟨v, ws, rfl, hv, q⟩ := h
    have hr1 : Room 1 _ := hr.mono (by decide)
    have hr2 : Room 2 _ := hr.mono (by decide)
    refine ⟨_, pss_cons (ps_set (i := 1) sc_is_writer.nd rfl (Or.inl rfl) (pe_call T.GS hr2 (by rfl) N.s T.kS T.bS .nil pass0 (pa_cons (pv 0) (pa_cons (pe_glob (v := .ref tW) rfl N.w rfl) pa_nil))))
      (pss_one (ps_ret (pe_and (pe_call T.GA hr1 (by rfl) N.a T.kA T.bA .nil pass0 (pa_cons (pv 1) (pa_cons pe_str (pa_cons pe_str pa_nil))))
        (pe_and (pe_call T.GA hr1 (by rfl) N.a T.kA T.bA .nil pass0 (pa_cons (pv 1) (pa_cons pe_str (pa_cons pe_str pa_nil))))
        (pe_one (pe_call T.GL hr2 (by rfl) N.l T.kL T.bL .nil pass0 (pa_cons (pv 1) pa_nil))))))), ?_⟩
    refine ⟨_, rfl, v, tW, WW, ws, rfl, hv, fun H' _ => hW H', fun H' l s1 nl e1 => ?_⟩
    have hl := SqL.of (K := K) e1
    refine ⟨_, rfl, l, _, _, _, rfl, hl, _, rfl, ?_⟩
    have q1 := q H' s1
    unfold isW at q1
    cases c1 : ahd (splitW WW ws) "change" "enter" with
    | false => rw [c1] at q1; exact iteF q1
    | true =>
      rw [c1] at q1
      refine iteT ⟨_, rfl, l, _, _, _, rfl, hl, _, rfl, ?_⟩
      cases c2 : ahd (splitW WW ws) "change" "commit" with
      | false => rw [c2] at q1; exact iteF q1
      | true => rw [c2] at q1; exact iteT ⟨_, rfl, l, _, rfl, hl, q1⟩
theorem ok_is_cleaner {f fO fS fA fL tW tC tR : Addr} {fd dS dA dL : FuncData} (F : Fun K "is_cleaner" "is_cleaner" s_is_cleaner f fd) (T : Three P w K mg base fS fA fL dS dA dL) (N : Nm2 mg tW tC tR fO fS fA fL) (hC : ∀ H, SqT K H tC (CW.map V.str)) :
    FnOk P w K mg base CX0 3 f fd ["value"] (spIs K isC) := by
  refine F.ok sc_is_cleaner (fun vs H Q E h => ?_) (fun cdv A outer s H vs Q E hr h => ?_)
  · obtain ⟨v, ws, rfl, _⟩ := h
    rfl
  · obtain ⟨v, ws, rfl, hv, q⟩ := h
    have hr1 : Room 1 _ := hr.mono (by decide)
    have hr2 : Room 2 _ := hr.mono (by decide)
    refine ⟨_, pss_cons (ps_set (i := 1) sc_is_cleaner.nd rfl (Or.inl rfl) (pe_call T.GS hr2 (by rfl) N.s T.kS T.bS .nil pass0 (pa_cons (pv 0) (pa_cons (pe_glob (v := .ref tC) rfl N.c rfl) pa_nil))))
      (C8.pss_cut (ps_set (i := 2) sc_is_cleaner.nd rfl (Or.inl rfl) (pe_or (pe_cmpR (Vx.op_notInK (K := K) rfl) pe_str (pv 1) (by rfl)) (pe_one (pe_call T.GA hr1 (by rfl) N.a T.kA T.bA .nil pass0 (pa_cons (pv 1) (pa_cons pe_str (pa_cons pe_str pa_nil)))))))
      (C8.pss_cut (ps_set (i := 3) sc_is_cleaner.nd rfl (Or.inl rfl) (pe_or (pe_cmpR (Vx.op_notInK (K := K) rfl) pe_str (pv 1) (by rfl)) (pe_one (pe_call T.GA hr1 (by rfl) N.a T.kA T.bA .nil pass0 (pa_cons (pv 1) (pa_cons pe_str (pa_cons pe_str pa_nil)))))))
      (pss_one (ps_ret (pe_and (pe_call T.GA hr1 (by rfl) N.a T.kA T.bA .nil pass0 (pa_cons (pv 1) (pa_cons pe_str (pa_cons pe_str pa_nil))))
        (pe_and (pv 2) (pe_and (pv 3) (pe_one (pe_call T.GL hr2 (by rfl) N.l T.kL T.bL .nil pass0 (pa_cons (pv 1) pa_nil)))))))))), ?_⟩
    refine ⟨_, rfl, v, tC, CW, ws, rfl, hv, fun H' _ => hC H', fun H' l s1 nl e1 => ?_⟩
    have hl := SqL.of (K := K) e1
    have q1 := q H' s1
    unfold isC at q1
    generalize splitW CW ws = us at q1 hl e1
    refine ⟨fun σ2 H2 => σ2 = [some v, some (.ref l), some (.bl (!decide (("remove" : Str) ∈ us) || ahd us "remove" "look")), none] ∧ H2 = H', ?_, ?_⟩
    · refine ⟨_, rfl, l, _, rfl, .inl hl, rfl, flat_str _, _, rfl, ?_⟩
      rw [inV_str]
      by_cases h1 : ("remove" : Str) ∈ us
      · rw [decide_eq_true h1]
        exact iteF ⟨_, rfl, l, _, _, _, rfl, hl, rfl, rfl⟩
      · rw [decide_eq_false h1]
        exact iteT ⟨rfl, rfl⟩
    · rintro σ2 H2 ⟨rfl, rfl⟩
      refine ⟨fun σ3 H3 => σ3 = [some v, some (.ref l), some (.bl (!decide (("remove" : Str) ∈ us) || ahd us "remove" "look")), some (.bl (!decide (("again" : Str) ∈ us) || ahd us "set" "again"))] ∧ H3 = H2, ?_, ?_⟩
      · refine ⟨_, rfl, l, _, rfl, .inl hl, rfl, flat_str _, _, rfl, ?_⟩
        rw [inV_str]
        by_cases h1 : ("again" : Str) ∈ us
        · rw [decide_eq_true h1]
          exact iteF ⟨_, rfl, l, _, _, _, rfl, hl, rfl, rfl⟩
        · rw [decide_eq_false h1]
          exact iteT ⟨rfl, rfl⟩
      · rintro σ3 H3 ⟨rfl, rfl⟩
        refine ⟨_, rfl, l, _, _, _, rfl, hl, _, rfl, ?_⟩
        cases c1 : ahd us "look" "set" with
        | false => rw [c1] at q1; exact iteF q1
        | true =>
          rw [c1] at q1
          refine iteT ⟨_, rfl, _, rfl, ?_⟩
          generalize (!decide (("remove" : Str) ∈ us) || ahd us "remove" "look") = b1 at q1 ⊢
          generalize (!decide (("again" : Str) ∈ us) || ahd us "set" "again") = b2 at q1 ⊢
          cases b1 with
          | false => exact iteF q1
          | true =>
            refine iteT ⟨_, rfl, _, rfl, ?_⟩
            cases b2 with
            | false => exact iteF q1
            | true => exact iteT ⟨_, rfl, l, _, rfl, hl, q1⟩
theorem ok_is_reader {f fO fS fA fL tW tC tR : Addr} {fd dS dA dL : FuncData} (F : Fun K "is_reader" "is_reader" s_is_reader f fd) (T : Three P w K mg base fS fA fL dS dA dL) (N : Nm2 mg tW tC tR fO fS fA fL) (hR : ∀ H, SqT K H tR (RW.map V.str)) :
    FnOk P w K mg base CX0 3 f fd ["value"] (spIs K isR) := by
  refine F.ok sc_is_reader (fun vs H Q E h => ?_) (fun cdv A outer s H vs Q E hr h => ?_)
  · obtain ⟨v, ws, rfl, _⟩ := h
    rfl
  · obtain ⟨v, ws, rfl, hv, q⟩ := h
    have hr1 : Room 1 _ := hr.mono (by decide)
    have hr2 : Room 2 _ := hr.mono (by decide)
    refine ⟨_, pss_cons (ps_set (i := 1) sc_is_reader.nd rfl (Or.inl rfl) (pe_call T.GS hr2 (by rfl) N.s T.kS T.bS .nil pass0 (pa_cons (pv 0) (pa_cons (pe_glob (v := .ref tR) rfl N.r rfl) pa_nil))))
      (pss_cons (ps_if (PW.pt (pw_or (pt_cmpR (Vx.op_notInK (K := K) rfl) pe_str (pv 1) (by rfl)) (pw_or (pt_cmpR (Vx.op_notInK (K := K) rfl) pe_str (pv 1) (by rfl)) (pw_or1 (pt_cmpR op_ne (pe_ix ix_list (pv 1) (pe_un un_neg pe_int) (fun _ _ => rfl)) pe_str (nomark _))))))
        (pss_one (ps_ret pe_bl)) pss_nil)
      (pss_cons (ps_if (pt_cmpR (Vx.op_inK (K := K) rfl) pe_str (pv 1) (by rfl)) (pss_one (ps_ret (pe_and (pe_cmpR (Vx.op_notInK (K := K) rfl) pe_str (pv 1) (by rfl)) (pe_one (pe_cmpR (Vx.op_notInK (K := K) rfl) pe_str (pv 1) (by rfl)))))) pss_nil)
      (pss_one (ps_ret (pe_call T.GA hr1 (by rfl) N.a T.kA T.bA .nil pass0 (pa_cons (pv 1) (pa_cons pe_str (pa_cons pe_str pa_nil)))))))), ?_⟩
    refine ⟨_, rfl, v, tR, RW, ws, rfl, hv, fun H' _ => hR H', fun H' l s1 nl e1 => ?_⟩
    have hl := SqL.of (K := K) e1
    have q1 := q H' s1
    unfold isR at q1
    generalize splitW RW ws = us at q1 hl e1
    refine ⟨_, rfl, l, _, rfl, .inl hl, rfl, flat_str _, ?_⟩
    refine ⟨_, rfl, ?_⟩
    rw [inV_str]
    by_cases h1 : ("entry" : Str) ∈ us
    · rw [decide_eq_true h1] at q1 ⊢
      refine iteF ⟨_, rfl, l, _, rfl, .inl hl, rfl, flat_str _, ?_⟩
      refine ⟨_, rfl, ?_⟩
      rw [inV_str]
      by_cases h2 : ("mark" : Str) ∈ us
      · rw [decide_eq_true h2] at q1 ⊢
        obtain ⟨ini, z, rfl⟩ : ∃ ini z, us = ini ++ [z] := by
          rcases List.eq_nil_or_concat us with e | e
          · rw [e] at h2
            cases h2
          · obtain ⟨i, z, e⟩ := e
            exact ⟨i, z, by rw [e, List.concat_eq_append]⟩
        have ea : atI ((ini ++ [z]).map V.str) (-1) = some (.str z) := by
          rw [List.map_append]
          exact atI_last _ _
        rw [show (ini ++ [z]).getLast? = some z from by simp] at q1
        refine iteF ⟨_, rfl, _, rfl, l, _, _, _, rfl, rfl, hl, ea, ?_⟩
        by_cases h3 : z = ("page" : Str)
        · rw [decide_eq_true (show some z = some ("page" : Str) by rw [h3])] at q1
          refine ⟨rfl, _, rfl, ?_⟩
          rw [decide_eq_true (show V.str z = V.str ("page" : Str) by rw [h3])]
          refine iteF ⟨_, rfl, l, _, rfl, .inl hl, rfl, flat_str _, ?_⟩
          refine ⟨_, rfl, ?_⟩
          rw [inV_str]
          replace q1 : Q (.bl (if (("hold" : Str) ∈ ini ++ [z]) then (!decide (("take" : Str) ∈ ini ++ [z]) && !decide (("tell" : Str) ∈ ini ++ [z])) else ahd (ini ++ [z]) "take" "tell")) H' := q1
          by_cases h4 : ("hold" : Str) ∈ ini ++ [z]
          · rw [if_pos h4] at q1
            rw [decide_eq_true h4]
            refine iteT ⟨_, rfl, l, _, rfl, .inl hl, rfl, flat_str _, ?_⟩
            refine ⟨_, rfl, ?_⟩
            rw [inV_str]
            by_cases h5 : ("take" : Str) ∈ ini ++ [z]
            · rw [decide_eq_true h5] at q1 ⊢
              exact iteF q1
            · rw [decide_eq_false h5] at q1 ⊢
              refine iteT ⟨_, rfl, l, _, rfl, .inl hl, rfl, flat_str _, ?_⟩
              rw [inV_str]
              exact q1
          · rw [if_neg h4] at q1
            rw [decide_eq_false h4]
            exact iteF ⟨_, rfl, l, _, _, _, rfl, hl, q1⟩
        · rw [decide_eq_false (show ¬ some z = some ("page" : Str) from fun y => h3 (Option.some.inj y))] at q1
          refine ⟨rfl, _, rfl, ?_⟩
          rw [decide_eq_false (show ¬ V.str z = V.str ("page" : Str) from fun y => h3 (by injection y))]
          exact iteT q1
      · rw [decide_eq_false h2] at q1 ⊢
        exact iteT (iteT q1)
    · rw [decide_eq_false h1] at q1 ⊢
      exact iteT (iteT q1)
end
end Toy
set_option Elab.async false
set_option linter.all false
set_option maxRecDepth 100000
set_option maxHeartbeats 2000000
namespace Toy
open PySem PySem.Spec PyProof.Rows L2
/-! ### the pot of drawn numbers -/
def Pot (H : Hp) (p c : Addr) : Prop := ∃ (cs : List Int) (at_ : Nat) (x : Int), H p = some (.lst [.ref c, .int at_, .int x]) ∧ H c = some (.lst (cs.map V.int)) ∧ cs.length ≤ 63 ∧ 0 ≤ x ∧ x < 2147483647
theorem Pot.ne {H : Hp} {p c : Addr} (h : Pot H p c) : p ≠ c := by
  obtain ⟨cs, a, x, h1, h2, _⟩ := h
  intro e
  rw [e, h2] at h1
  injection h1 with h1
  injection h1 with h1
  cases cs with
  | nil => cases h1
  | cons y r => injection h1 with z; cases z
theorem Pot.same {H H' : Hp} {p c : Addr} (h : Pot H p c) (s : Same H H') : Pot H' p c := by
  obtain ⟨cs, a, x, h1, h2, r⟩ := h
  exact ⟨cs, a, x, s _ _ h1, s _ _ h2, r⟩
/-- all but the pot stays -/
def Kept (p c : Addr) (H H' : Hp) : Prop := ∀ b o, b ≠ p → b ≠ c → H b = some o → H' b = some o
theorem Kept.rfl' {p c : Addr} {H : Hp} : Kept p c H H := fun _ _ _ _ e => e
theorem Kept.trans {p c : Addr} {H H1 H2 : Hp} (a : Kept p c H H1) (b : Kept p c H1 H2) : Kept p c H H2 := fun x o n m e => b x o n m (a x o n m e)
theorem Kept.of_same {p c : Addr} {H H' : Hp} (s : Same H H') : Kept p c H H' := fun b o _ _ e => s b o e
theorem ixN_nat {n k : Nat} (h : k < n) : ixN n (k : Int) = some k := by
  unfold ixN
  rw [if_pos (Int.natCast_nonneg _), if_pos (by omega), Int.toNat_natCast]
theorem cut63 {xs : List V} (h : xs.length ≤ 63) : cutV xs none (some 63) = xs := by
  unfold cutV
  rw [HT.sIx_none, show HT.sIx xs.length xs.length (some 63) = min 63 xs.length from HT.sIx_nat xs.length xs.length 63, List.drop_zero, Nat.sub_zero]
  exact List.take_of_length_le (by omega)
section
variable {P : Program} {w : World} {K : PySem.W.Frag} {mg : Str → Option Value} {base : Heap} {C : Addr}
def spPot (K : PySem.W.Frag) : Sp := fun vs H Q _ => ∃ (a : Addr) (ns : List Int), vs = [.ref a] ∧ SqL K H a (ns.map V.int) ∧ ns.length ≤ 63 ∧ ∀ H' p c, Same H H' → H p = none → H c = none → Pot H' p c → Q (.ref p) H'
theorem ok_pot {f : Addr} {fd : FuncData} (F : Fun K "_law_pot" "_law_pot" s_law_pot f fd) (mi : mg "int" = none) : FnOk P w K mg base CX0 1 f fd ["script"] (spPot K) := by
  refine F.ok sc_law_pot (fun vs H Q E h => ?_) (fun cdv A outer s H vs Q E hr h => ?_)
  · obtain ⟨a, ns, rfl, _⟩ := h
    rfl
  · obtain ⟨a, ns, rfl, hS, hn, q⟩ := h
    refine ⟨_, pss_one (ps_ret (pe_lst (pa_cons (pe_lc (own := [("cell", 1)]) (g := gName 1) (tt := tYes) rfl sc_law_pot.nd (pi_list (pe_slice sl_list (pv 0) po_none (po_some pe_int)))
        (blkOk_by (own := [("cell", 1)]) (N := ["script", "cell"]) (sc := defScope s_law_pot) (by decide +kernel)) (fun _ _ _ _ _ => pg_name (i := 1) sc_law_pot.nd rfl (Or.inl rfl))
        (fun _ _ _ _ _ => pts_nil) (fun _ _ _ _ _ => pe_callTy call_int1 (by rfl) mi (by decide +kernel) (pa_cons (pv 1) pa_nil))) (pa_cons pe_int (pa_cons pe_int pa_nil))))), ?_⟩
    refine ⟨.ref a, rfl, 63, rfl, a, _, rfl, hS, fun b nb => ?_⟩
    rw [cut63 (by rw [List.length_map]; exact hn)]
    refine ⟨b, rfl, ⟨_, SqL.of upd_same⟩, fun D hD => ?_⟩
    have hb : (upd H b (.lst (ns.map V.int))) b = some (.lst (ns.map V.int)) := upd_same
    have s1 : Same H (upd H b (.lst (ns.map V.int))) := same_upd nb
    have hD0 : H D = none := s1.free hD
    refine lc_list (K := K) (a := b) (xs := ns.map V.int) (fun i H2 => Same (upd H b (.lst (ns.map V.int))) H2 ∧ H2 D = some (.lst ((ns.take i).map V.int))) ⟨same_upd hD, upd_same⟩ (fun i H2 _ z => SqL.of (z.1 _ _ hb)) ?_ ?_
    · rintro i x H2 hx ⟨s2, e2⟩
      obtain ⟨n, hi, rfl⟩ : ∃ n, ns[i]? = some n ∧ x = V.int n := by
        rw [List.getElem?_map] at hx
        cases e : ns[i]? with
        | none => rw [e] at hx; cases hx
        | some n => rw [e] at hx; exact ⟨n, rfl, (Option.some.inj hx).symm⟩
      refine ⟨rfl, ?_⟩
      refine ⟨_, rfl, .inl ⟨n, rfl, _, e2, ?_, fun d o e => ?_, ?_⟩⟩
      · rw [List.length_map, List.length_take]
        exact Nat.lt_of_le_of_lt (Nat.le_trans (Nat.min_le_right _ _) hn) (by decide)
      · rw [upd_ne (ne_of_none e hD)]
        exact s2 _ _ e
      · rw [upd_same, List.take_add_one, hi, List.map_append]
        rfl
    · rintro H2 ⟨s2, e2⟩
      rw [List.length_map, List.take_length] at e2
      refine ⟨(by show 3 ≤ sizeLine; decide), fun p np => ?_⟩
      have s3 : Same H (upd H2 p (.lst [.ref D, .int 0, .int 7])) := s1.trans (s2.trans (same_upd np))
      have hDp : D ≠ p := ne_of_none e2 np
      refine q _ p D s3 ((s1.trans s2).free np) hD0 ⟨ns, 0, 7, upd_same, by rw [upd_ne hDp]; exact e2, hn, by decide, by decide⟩
/-! ### a draw -/
def spDraw : Sp := fun vs H Q _ => ∃ (p c : Addr) (m : Int), vs = [.ref p, .int m] ∧ Pot H p c ∧ 0 < m ∧ m ≤ 2147483648 ∧ ∀ H' r, Pot H' p c → Kept p c H H' → 0 ≤ r → r < m → Q (.int r) H'
theorem fmod_lt {a m : Int} (h : 0 < m) : 0 ≤ a.fmod m ∧ a.fmod m < m := by
  rw [Int.fmod_eq_emod_of_nonneg _ (Int.le_of_lt h)]
  exact ⟨Int.emod_nonneg _ (by omega), Int.emod_lt_of_pos _ h⟩
def nxt (x cell : Int) : Int := (x * 48271 + cell * 69621 + 11).fmod 2147483647
theorem ok_draw {f : Addr} {fd : FuncData} (F : Fun K "_law_draw" "_law_draw" s_law_draw f fd) (mi : mg "int" = none) (ml : mg "len" = none) : FnOk P w K mg base CX0 1 f fd ["pot", "many"] spDraw := by
  refine F.ok sc_law_draw (fun vs H Q E h => ?_) (fun cdv A outer s H vs Q E hr h => ?_)
  · obtain ⟨p, c, m, rfl, _⟩ := h
    rfl
  · obtain ⟨p, c, m, rfl, hP, hm, hm2, q⟩ := h
    refine ⟨_, pss_cons (ps_set (i := 2) sc_law_draw.nd rfl (Or.inl rfl) (pe_ix ix_list (pv 0) pe_int (fun _ _ => rfl)))
      (pss_cons (ps_set (i := 3) sc_law_draw.nd rfl (Or.inl rfl) (pe_ix ix_list (pv 0) pe_int (fun _ _ => rfl)))
      (pss_cons (ps_set (i := 4) sc_law_draw.nd rfl (Or.inl rfl) pe_int)
      (C8.pss_cut (ps_if (pt_cmpR op_lt (pv 3) (pe_callB call_len_seq (by rfl) ml PySem.boot_len (pa_cons (pv 2) pa_nil)) (nomark _))
        (pss_cons (ps_set (i := 4) sc_law_draw.nd rfl (Or.inl rfl) (pe_ix ix_list (pv 2) (pv 3) (fun _ _ => rfl)))
        (pss_cons (ps_if (pt_cmpR op_ge (pv 4) (pe_op op_pow pe_int pe_int) (nomark _))
          (pss_cons (ps_asg (pe_op op_fdivW (pv 4) (pv 1)) (pg_sub (pv 2) (pv 3) set_list))
          (pss_one (ps_ret (pe_op op_modN (pe_callTy call_int1 (by rfl) mi (by decide +kernel) (pa_cons (pv 4) pa_nil)) (pv 1))))) pss_nil)
        (pss_one (ps_asg (pe_op op_add (pv 3) pe_int) (pg_sub (pv 0) pe_int set_list))))) pss_nil)
      (pss_cons (ps_asg (pe_op op_modN (pe_callTy call_int1 (by rfl) mi (by decide +kernel) (pa_cons (pe_op op_add (pe_op op_add (pe_op op_mul (pe_ix ix_list (pv 0) pe_int (fun _ _ => rfl)) pe_int) (pe_op op_mul (pv 4) pe_int)) pe_int) pa_nil)) pe_int) (pg_sub (pv 0) pe_int set_list))
      (pss_one (ps_ret (pe_op op_modN (pe_callTy call_int1 (by rfl) mi (by decide +kernel) (pa_cons (pe_op op_add (pe_op op_fdivN (pe_op op_mul (pe_ix ix_list (pv 0) pe_int (fun _ _ => rfl)) pe_int) pe_int) (pe_ix ix_list (pv 0) pe_int (fun _ _ => rfl))) pa_nil)) (pv 1)))))))), ?_⟩
    have pc : p ≠ c := hP.ne
    obtain ⟨cs, at_, x, h1, h2, hl, x0, x1⟩ := hP
    refine ⟨_, rfl, p, _, _, _, rfl, rfl, SqL.of h1, rfl, ?_⟩
    refine ⟨_, rfl, p, _, _, _, rfl, rfl, SqL.of h1, rfl, ?_⟩
    refine ⟨fun σ' H' => ∃ (a : Nat) (cell : Int), σ' = [some (.ref p), some (.int m), some (.ref c), some (.int at_), some (.int cell)] ∧ H' p = some (.lst [.ref c, .int a, .int x]) ∧ H' c = some (.lst (cs.map V.int)) ∧ Kept p c H H', ?_, ?_⟩
    · refine ⟨_, rfl, _, rfl, c, _, rfl, .inl (SqL.of h2), _, _, rfl, rfl, _, rfl, ?_⟩
      rw [List.length_map]
      refine ite2 (fun hlt => ?_) (fun _ => ⟨at_, 0, rfl, h1, h2, Kept.rfl'⟩)
      have hi : at_ < cs.length := by have := of_decide_eq_true hlt; omega
      have hg : (cs.map V.int)[at_]? = some (.int cs[at_]) := by rw [List.getElem?_map, List.getElem?_eq_getElem hi]; rfl
      refine ⟨_, rfl, _, rfl, c, _, _, _, rfl, rfl, SqL.of h2, atI_nat hg, ?_⟩
      refine ⟨_, rfl, 10, 18, rfl, rfl, ⟨by decide, by decide, by decide⟩, _, _, rfl, rfl, _, rfl, ?_⟩
      refine ite2 (fun _ => ?_) (fun _ => ?_)
      · refine ⟨_, rfl, _, rfl, _, _, rfl, rfl, wide_div (b := 32) hm (by omega) (by decide) (by decide), _, rfl, _, rfl, c, _, _, at_, rfl, rfl, h2, ixN_nat (by rw [List.length_map]; exact hi), ?_⟩
        refine ⟨_, rfl, .inl ⟨_, rfl, _, rfl, _, _, rfl, rfl, by omega, ?_⟩⟩
        have f := fmod_lt (a := cs[at_]) hm
        refine q _ _ ⟨cs.set at_ (cs[at_] / m), at_, x, by rw [upd_ne pc]; exact h1, ?_, by rw [List.length_set]; exact hl, x0, x1⟩ (fun b o n1 n2 e => ?_) f.1 f.2
        · rw [upd_same, List.map_set]
        · rw [upd_ne n2]
          exact e
      · refine ⟨_, rfl, _, _, rfl, rfl, _, rfl, p, _, _, 1, rfl, rfl, h1, rfl, ?_⟩
        refine ⟨at_ + 1, cs[at_], rfl, ?_, by rw [upd_ne pc.symm]; exact h2, fun b o n1 n2 e => ?_⟩
        · rw [upd_same]
          rfl
        · rw [upd_ne n1]
          exact e
    · rintro σ' H1 ⟨a, cell, rfl, g1, g2, kp⟩
      refine ⟨_, rfl, p, _, _, _, rfl, rfl, SqL.of g1, rfl, _, _, rfl, rfl, .inl ⟨by omega, by omega⟩, _, rfl, _, _, rfl, rfl, .inr ⟨by decide, by decide⟩, _, _, rfl, rfl, _, _, rfl, rfl, .inl ⟨_, rfl, _, _, rfl, rfl, (show (2147483647 : Int) ≠ 0 by decide), _, rfl, p, _, _, 2, rfl, rfl, g1, rfl, ?_⟩⟩
      have fy : 0 ≤ nxt x cell ∧ nxt x cell < 2147483647 := fmod_lt (by decide)
      have g3 : (upd H1 p (.lst ([V.ref c, V.int a, V.int x].set 2 (V.int (nxt x cell))))) p = some (.lst [V.ref c, V.int a, V.int (nxt x cell)]) := upd_same
      refine ⟨_, rfl, p, _, _, _, rfl, rfl, SqL.of g3, rfl, _, _, rfl, rfl, .inl ⟨by omega, by omega⟩, _, _, rfl, rfl, ⟨by decide, by decide⟩, _, rfl, p, _, _, _, rfl, rfl, SqL.of g3, rfl, _, _, rfl, rfl, .inl ⟨_, rfl, _, rfl, _, _, rfl, rfl, by omega, ?_⟩⟩
      have f := fmod_lt (a := (nxt x cell * 16807).fdiv 128 + nxt x cell) hm
      refine q _ _ ⟨cs, a, nxt x cell, g3, by rw [upd_ne pc.symm]; exact g2, hl, fy.1, fy.2⟩ (fun b o n1 n2 e => ?_) f.1 f.2
      rw [upd_ne n1]
      exact kp b o n1 n2 e
end
end Toy
set_option Elab.async false
set_option linter.all false
set_option maxRecDepth 100000
set_option maxHeartbeats 4000000
namespace Toy
open PySem PySem.Spec PyProof.Rows L2
/-! ### orders that are drawn -/
def Ord (H : Hp) (p c l : Addr) (ws : List Str) : Prop := H l = some (.lst (ws.map V.str)) ∧ l ≠ p ∧ l ≠ c
theorem Ord.kept {H H' : Hp} {p c l : Addr} {ws : List Str} (h : Ord H p c l ws) (k : Kept p c H H') : Ord H' p c l ws := ⟨k _ _ h.2.1 h.2.2 h.1, h.2⟩
theorem Pot.live {H : Hp} {p c l : Addr} (h : Pot H p c) (n : H l = none) : l ≠ p ∧ l ≠ c := by
  obtain ⟨cs, a, x, h1, h2, _⟩ := h
  exact ⟨fun e => (by rw [e, h1] at n; cases n), fun e => (by rw [e, h2] at n; cases n)⟩
def insAt (z : Str) (ws : List Str) (i : Nat) : List Str := ws.take i ++ [z] ++ ws.drop i
def puts (z : Str) (least : Nat) (ws : List Str) : List (List Str) := (List.range (ws.length + 1 - least)).map fun k => insAt z ws (least + k)
theorem mem_puts {z : Str} {least k : Nat} {ws : List Str} (h : k < ws.length + 1 - least) : insAt z ws (least + k) ∈ puts z least ws := List.mem_map.mpr ⟨k, List.mem_range.mpr h, rfl⟩
theorem ins_len {z : Str} {ws : List Str} {i : Nat} (h : i ≤ ws.length) : (insAt z ws i).length = ws.length + 1 := by
  unfold insAt
  rw [List.length_append, List.length_append, List.length_take, List.length_drop, List.length_singleton]
  omega
theorem puts_len {z : Str} {least : Nat} {ws us : List Str} (h : us ∈ puts z least ws) : us.length = ws.length + 1 := by
  obtain ⟨k, hk, rfl⟩ := List.mem_map.mp h
  have := List.mem_range.mp hk
  exact ins_len (by omega)
theorem puts_mem {z : Str} {least : Nat} {ws us : List Str} (h : us ∈ puts z least ws) : z ∈ us := by
  obtain ⟨k, hk, rfl⟩ := List.mem_map.mp h
  unfold insAt
  simp
theorem cut_to {xs : List V} {i : Nat} : cutV xs none (some (i : Int)) = xs.take i := by
  unfold cutV
  rw [HT.sIx_none, HT.sIx_nat, List.drop_zero, Nat.sub_zero]
  by_cases h : i ≤ xs.length
  · rw [Nat.min_eq_left h]
  · rw [Nat.min_eq_right (by omega), List.take_of_length_le (Nat.le_refl _), List.take_of_length_le (by omega)]
theorem cut_from {xs : List V} {i : Nat} : cutV xs (some (i : Int)) none = xs.drop i := by
  unfold cutV
  rw [HT.sIx_none, HT.sIx_nat]
  by_cases h : i ≤ xs.length
  · rw [Nat.min_eq_left h]
    exact List.take_of_length_le (by rw [List.length_drop]; exact Nat.le_refl _)
  · rw [Nat.min_eq_right (by omega), List.drop_of_length_le (Nat.le_refl _), List.drop_of_length_le (by omega), List.take_nil]
section
variable {P : Program} {w : World} {K : PySem.W.Frag} {mg : Str → Option Value} {base : Heap}
def spPut : Sp := fun vs H Q _ => ∃ (p c l : Addr) (ws : List Str) (z : Str) (least : Nat), vs = [.ref p, .ref l, .str z, .int least] ∧ Pot H p c ∧ Ord H p c l ws ∧ least ≤ ws.length ∧ ws.length ≤ 20 ∧
  ∀ H' l' ws', Pot H' p c → Kept p c H H' → Ord H' p c l' ws' → ws' ∈ puts z least ws → Q (.ref l') H'
/-- who draws -/
structure Drw (P : Program) (w : World) (K : PySem.W.Frag) (mg : Str → Option Value) (base : Heap) (fD : Addr) (dD : FuncData) : Prop where
  G : FnOk P w K mg base CX0 1 fD dD ["pot", "many"] spDraw
  k : PySem.W.keepIn K (.ref fD) = true
  b : L2.Binds K dD ["pot", "many"] []
  g : mg "_law_draw" = some (.ref fD)
theorem ok_put {f fD : Addr} {fd dD : FuncData} (F : Fun K "_law_put_in" "_law_put_in" s_law_put_in f fd) (D : Drw P w K mg base fD dD) (ml : mg "len" = none) : FnOk P w K mg base CX0 2 f fd ["pot", "order", "word", "least"] spPut := by
  refine F.ok sc_law_put_in (fun vs H Q E h => ?_) (fun cdv A outer s H vs Q E hr h => ?_)
  · obtain ⟨p, c, l, ws, z, least, rfl, _⟩ := h
    rfl
  · obtain ⟨p, c, l, ws, z, least, rfl, hP, hO, h1, h2, q⟩ := h
    refine ⟨_, pss_cons (ps_set (i := 4) sc_law_put_in.nd rfl (Or.inl rfl) (pe_op op_add (pv 3) (pe_call D.G hr (by rfl) D.g D.k D.b .nil pass0 (pa_cons (pv 0) (pa_cons (pe_op op_sub (pe_op op_add (pe_callB call_len_seq (by rfl) ml PySem.boot_len (pa_cons (pv 1) pa_nil)) pe_int) (pv 3)) pa_nil)))))
      (pss_one (ps_ret (pe_op op_cat (pe_op op_cat (pe_slice sl_list (pv 1) po_none (po_some (pv 4))) (pe_lst (pa_cons (pv 2) pa_nil))) (pe_slice sl_list (pv 1) (po_some (pv 4)) po_none)))), ?_⟩
    refine ⟨_, rfl, _, rfl, _, rfl, l, _, rfl, .inl (SqL.of hO.1), _, _, rfl, rfl, _, rfl, _, _, rfl, rfl, p, c, _, rfl, hP, ?_, ?_, fun H1 r P1 k1 r0 r1 => ?_⟩
    · rw [List.length_map]
      omega
    · rw [List.length_map]
      omega
    rw [List.length_map] at r1
    obtain ⟨k, rfl⟩ : ∃ k : Nat, r = k := ⟨r.toNat, by omega⟩
    refine ⟨_, _, rfl, rfl, ?_⟩
    have O1 := hO.kept k1
    have hi : ((least : Int) + (k : Int)) = ((least + k : Nat) : Int) := by omega
    have hk : least + k ≤ ws.length := by omega
    have small : (ws.map V.str).length ≤ 20 := by rw [List.length_map]; exact h2
    refine ⟨_, rfl, _, rfl, _, rfl, l, _, rfl, SqL.of O1.1, fun p1 n1 => ?_⟩
    have s1 := same_upd (o := .lst (cutV (ws.map V.str) none (some ((least : Int) + (k : Int))))) n1
    refine ⟨_, rfl, (by show 1 ≤ sizeLine; decide), fun p2 n2 => ?_⟩
    have s2 := same_upd (o := .lst [V.str z]) n2
    refine ⟨p1, p2, _, _, rfl, rfl, s2 _ _ upd_same, upd_same, ?_, fun p3 n3 => ?_⟩
    · have := cutV_length (ws.map V.str) none (some ((least : Int) + (k : Int)))
      have e : sizeLine = 16777216 := rfl
      rw [List.length_singleton]
      omega
    have s3 := same_upd (o := .lst (cutV (ws.map V.str) none (some ((least : Int) + (k : Int))) ++ [V.str z])) n3
    have O3 := O1.kept (Kept.of_same (s1.trans (s2.trans s3)))
    refine ⟨_, rfl, _, rfl, _, rfl, l, _, rfl, SqL.of O3.1, fun p4 n4 => ?_⟩
    have s4 := same_upd (o := .lst (cutV (ws.map V.str) (some ((least : Int) + (k : Int))) none)) n4
    refine ⟨p3, p4, _, _, rfl, rfl, s4 _ _ upd_same, upd_same, ?_, fun p5 n5 => ?_⟩
    · have := cutV_length (ws.map V.str) none (some ((least : Int) + (k : Int)))
      have := cutV_length (ws.map V.str) (some ((least : Int) + (k : Int))) none
      have e : sizeLine = 16777216 := rfl
      rw [List.length_append, List.length_singleton]
      omega
    have s5 := same_upd (o := .lst (cutV (ws.map V.str) none (some ((least : Int) + (k : Int))) ++ [V.str z] ++ cutV (ws.map V.str) (some ((least : Int) + (k : Int))) none)) n5
    have s14 := s1.trans (s2.trans (s3.trans s4))
    have P4 := P1.same s14
    refine q _ p5 (insAt z ws (least + k)) (P4.same s5) (k1.trans (Kept.of_same (s14.trans s5))) ⟨?_, P4.live n5⟩ (mem_puts (by omega))
    rw [upd_same, hi, cut_to, cut_from]
    unfold insAt
    rw [List.map_append, List.map_append, List.map_take, List.map_drop]
    rfl
/-! ### the lock -/
def lock1 (ws : List Str) : List (List Str) := ws :: (puts "unlock" 0 ws).flatMap fun us => (List.range (idx "unlock" us + 1)).map (insAt "lock" us)
def spLocked : Sp := fun vs H Q _ => ∃ (p c l : Addr) (ws : List Str), vs = [.ref p, .ref l] ∧ Pot H p c ∧ Ord H p c l ws ∧ ws.length ≤ 15 ∧
  ∀ H' l' ws', Pot H' p c → Kept p c H H' → Ord H' p c l' ws' → ws' ∈ lock1 ws → Q (.ref l') H'
theorem ok_locked {f fD fP : Addr} {fd dD dP : FuncData} (F : Fun K "_law_locked" "_law_locked" s_law_locked f fd) (D : Drw P w K mg base fD dD) (GP : FnOk P w K mg base CX0 2 fP dP ["pot", "order", "word", "least"] spPut) (kP : PySem.W.keepIn K (.ref fP) = true) (bP : L2.Binds K dP ["pot", "order", "word", "least"] []) (gP : mg "_law_put_in" = some (.ref fP)) :
    FnOk P w K mg base CX0 3 f fd ["pot", "order"] spLocked := by
  refine F.ok sc_law_locked (fun vs H Q E h => ?_) (fun cdv A outer s H vs Q E hr h => ?_)
  · obtain ⟨p, c, l, ws, rfl, _⟩ := h
    rfl
  · obtain ⟨p, c, l, ws, rfl, hP, hO, h2, q⟩ := h
    have hr1 : Room 1 _ := hr.mono (by decide)
    refine ⟨_, pss_cons (ps_if (pt_cmpR op_eq (pe_call D.G hr1 (by rfl) D.g D.k D.b .nil pass0 (pa_cons (pv 0) (pa_cons pe_int pa_nil))) pe_int (nomark _)) (pss_one (ps_ret (pv 1))) pss_nil)
      (pss_cons (ps_set (i := 1) sc_law_locked.nd rfl (Or.inl rfl) (pe_call GP hr (by rfl) gP kP bP .nil pass0 (pa_cons (pv 0) (pa_cons (pv 1) (pa_cons pe_str (pa_cons pe_int pa_nil))))))
      (pss_cons (ps_set (i := 2) sc_law_locked.nd rfl (Or.inl rfl) (pe_call D.G hr1 (by rfl) D.g D.k D.b .nil pass0 (pa_cons (pv 0) (pa_cons (pe_op op_add (pe_bm PySem.F.plainAttrs_list PySem.F.slot_list_index PySem.F.type_list_index mt_index (pv 1) (pa_cons pe_str pa_nil)) pe_int) pa_nil))))
      (pss_one (ps_ret (pe_op op_cat (pe_op op_cat (pe_slice sl_list (pv 1) po_none (po_some (pv 2))) (pe_lst (pa_cons pe_str pa_nil))) (pe_slice sl_list (pv 1) (po_some (pv 2)) po_none)))))), ?_⟩
    refine ⟨_, rfl, p, c, _, rfl, hP, by decide, by decide, fun H1 r P1 k1 r0 r1 => ?_⟩
    refine ⟨rfl, _, rfl, ?_⟩
    refine ite2 (fun _ => ?_) (fun _ => ?_)
    · exact ⟨_, rfl, q H1 l ws P1 k1 (hO.kept k1) List.mem_cons_self⟩
    · refine ⟨_, rfl, _, rfl, p, c, l, ws, _, 0, rfl, P1, hO.kept k1, Nat.zero_le _, by omega, fun H2 l2 us P2 k2 O2 m2 => ?_⟩
      have lu := puts_len m2
      have mu := puts_mem m2
      refine ⟨_, rfl, _, rfl, .inl ⟨rfl, _, SqL.of O2.1⟩, l2, _, _, idx "unlock" us, _, rfl, rfl, SqL.of O2.1, rfl, flat_str _, idx_get mu, ?_, fun m z hm hz => idx_none m z hm hz, ?_⟩
      · rw [eqV_str]
        exact decide_eq_true rfl
      have ix : idx "unlock" us < us.length := by
        have g := idx_get mu
        rw [List.getElem?_map] at g
        by_cases h : idx ("unlock" : Str) us < us.length
        · exact h
        · rw [List.getElem?_eq_none (by omega)] at g
          cases g
      refine ⟨_, _, rfl, rfl, p, c, _, rfl, P2, ?_, ?_, fun H3 r P3 k3 r0 r1 => ?_⟩
      · omega
      · omega
      obtain ⟨k, rfl⟩ : ∃ k : Nat, r = k := ⟨r.toNat, by omega⟩
      have O1 := O2.kept k3
      have small : (us.map V.str).length ≤ 20 := by rw [List.length_map]; omega
      refine ⟨_, rfl, _, rfl, _, rfl, l2, _, rfl, SqL.of O1.1, fun p1 n1 => ?_⟩
      have s1 := same_upd (o := .lst (cutV (us.map V.str) none (some (k : Int)))) n1
      refine ⟨(by show 1 ≤ sizeLine; decide), fun p2 n2 => ?_⟩
      have s2 := same_upd (o := .lst [V.str "lock"]) n2
      refine ⟨p1, p2, _, _, rfl, rfl, s2 _ _ upd_same, upd_same, ?_, fun p3 n3 => ?_⟩
      · have := cutV_length (us.map V.str) none (some (k : Int))
        have e : sizeLine = 16777216 := rfl
        rw [List.length_singleton]
        omega
      have s3 := same_upd (o := .lst (cutV (us.map V.str) none (some (k : Int)) ++ [V.str "lock"])) n3
      have O3 := O1.kept (Kept.of_same (s1.trans (s2.trans s3)))
      refine ⟨_, rfl, _, rfl, _, rfl, l2, _, rfl, SqL.of O3.1, fun p4 n4 => ?_⟩
      have s4 := same_upd (o := .lst (cutV (us.map V.str) (some (k : Int)) none)) n4
      refine ⟨p3, p4, _, _, rfl, rfl, s4 _ _ upd_same, upd_same, ?_, fun p5 n5 => ?_⟩
      · have := cutV_length (us.map V.str) none (some (k : Int))
        have := cutV_length (us.map V.str) (some (k : Int)) none
        have e : sizeLine = 16777216 := rfl
        rw [List.length_append, List.length_singleton]
        omega
      have s5 := same_upd (o := .lst (cutV (us.map V.str) none (some (k : Int)) ++ [V.str "lock"] ++ cutV (us.map V.str) (some (k : Int)) none)) n5
      have s14 := s1.trans (s2.trans (s3.trans s4))
      have P4 := P3.same s14
      refine q _ p5 (insAt "lock" us k) (P4.same s5) (k1.trans (k2.trans (k3.trans (Kept.of_same (s14.trans s5))))) ⟨?_, P4.live n5⟩ ?_
      · rw [upd_same, cut_to, cut_from]
        unfold insAt
        rw [List.map_append, List.map_append, List.map_take, List.map_drop]
        rfl
      · refine List.mem_cons_of_mem _ (List.mem_flatMap.mpr ⟨us, m2, List.mem_map.mpr ⟨k, List.mem_range.mpr (by omega), rfl⟩⟩)
end
end Toy
set_option Elab.async false
set_option linter.all false
set_option maxRecDepth 100000
set_option maxHeartbeats 4000000
namespace Toy
open PySem PySem.Spec PyProof.Rows L2
def wBase : List (List Str) := (puts "enter" 1 ["change"]).flatMap (puts "commit" 1)
def WL : List (List Str) := (wBase ++ wBase.flatMap (puts "clear" 0)).flatMap lock1
def CL : List (List Str) := ([["look", "set"], ["remove", "look", "set"], ["look", "set", "again"], ["remove", "look", "set", "again"]] : List (List Str)).flatMap lock1
def rBase : List (List Str) := puts "mark" 0 ["entry"]
def RL : List (List Str) := (rBase.flatMap (puts "hold" 0) ++ (rBase.flatMap (puts "take" 0)).flatMap (fun us => puts "tell" (idx "take" us + 1) us)).map (· ++ [("page" : Str)])
theorem wBase_len : ∀ ws ∈ wBase, ws.length = 3 := by decide +kernel
theorem wAll_len : ∀ ws ∈ wBase ++ wBase.flatMap (puts "clear" 0), ws.length ≤ 15 := by decide +kernel
theorem idx_lt {z : Str} {us : List Str} (mu : z ∈ us) : idx z us < us.length := by
  have g := idx_get mu
  rw [List.getElem?_map] at g
  by_cases h : idx z us < us.length
  · exact h
  · rw [List.getElem?_eq_none (by omega)] at g
    cases g
section
variable {P : Program} {w : World} {K : PySem.W.Frag} {mg : Str → Option Value} {base : Heap}
def spWords (S : List (List Str)) : Sp := fun vs H Q _ => ∃ (p c : Addr), vs = [.ref p] ∧ Pot H p c ∧ ∀ H' l ws, Pot H' p c → Kept p c H H' → Ord H' p c l ws → ws ∈ S → Q (.ref l) H'
structure Put (P : Program) (w : World) (K : PySem.W.Frag) (mg : Str → Option Value) (base : Heap) (fP fL : Addr) (dP dL : FuncData) : Prop where
  GP : FnOk P w K mg base CX0 2 fP dP ["pot", "order", "word", "least"] spPut
  kP : PySem.W.keepIn K (.ref fP) = true
  bP : L2.Binds K dP ["pot", "order", "word", "least"] []
  gP : mg "_law_put_in" = some (.ref fP)
  GL : FnOk P w K mg base CX0 3 fL dL ["pot", "order"] spLocked
  kL : PySem.W.keepIn K (.ref fL) = true
  bL : L2.Binds K dL ["pot", "order"] []
  gL : mg "_law_locked" = some (.ref fL)
theorem ok_wwords {f fD fP fL : Addr} {fd dD dP dL : FuncData} (F : Fun K "_law_writer_words" "_law_writer_words" s_law_writer_words f fd) (D : Drw P w K mg base fD dD) (U : Put P w K mg base fP fL dP dL) :
    FnOk P w K mg base CX0 4 f fd ["pot"] (spWords WL) := by
  refine F.ok sc_law_writer_words (fun vs H Q E h => ?_) (fun cdv A outer s H vs Q E hr h => ?_)
  · obtain ⟨p, c, rfl, _⟩ := h
    rfl
  · obtain ⟨p, c, rfl, hP, q⟩ := h
    have hr1 : Room 1 _ := hr.mono (by decide)
    have hr2 : Room 2 _ := hr.mono (by decide)
    refine ⟨_, pss_cons (ps_set (i := 1) sc_law_writer_words.nd rfl (Or.inl rfl) (pe_call U.GP hr2 (by rfl) U.gP U.kP U.bP .nil pass0 (pa_cons (pv 0) (pa_cons (pe_lst (pa_cons pe_str pa_nil)) (pa_cons pe_str (pa_cons pe_int pa_nil))))))
      (pss_cons (ps_set (i := 1) sc_law_writer_words.nd rfl (Or.inl rfl) (pe_call U.GP hr2 (by rfl) U.gP U.kP U.bP .nil pass0 (pa_cons (pv 0) (pa_cons (pv 1) (pa_cons pe_str (pa_cons pe_int pa_nil))))))
      (C8.pss_cut (ps_if (pt_cmpR op_gt (pe_call D.G hr1 (by rfl) D.g D.k D.b .nil pass0 (pa_cons (pv 0) (pa_cons pe_int pa_nil))) pe_int (nomark _))
        (pss_one (ps_set (i := 1) sc_law_writer_words.nd rfl (Or.inl rfl) (pe_call U.GP hr2 (by rfl) U.gP U.kP U.bP .nil pass0 (pa_cons (pv 0) (pa_cons (pv 1) (pa_cons pe_str (pa_cons pe_int pa_nil))))))) pss_nil)
      (pss_one (ps_ret (pe_call U.GL hr (by rfl) U.gL U.kL U.bL .nil pass0 (pa_cons (pv 0) (pa_cons (pv 1) pa_nil))))))), ?_⟩
    refine ⟨_, rfl, (by show 1 ≤ sizeLine; decide), fun l0 n0 => ?_⟩
    have s0 := same_upd (o := .lst [V.str "change"]) n0
    have P0 := hP.same s0
    refine ⟨p, c, l0, ["change"], _, 1, rfl, P0, ⟨upd_same, hP.live n0⟩, by decide, by decide, fun H1 l1 w1 P1 k1 O1 m1 => ?_⟩
    have d1 := puts_len m1
    refine ⟨_, rfl, _, rfl, p, c, l1, w1, _, 1, rfl, P1, O1, by omega, by rw [d1]; decide, fun H2 l2 w2 P2 k2 O2 m2 => ?_⟩
    have b2 : w2 ∈ wBase := List.mem_flatMap.mpr ⟨w1, m1, m2⟩
    refine ⟨fun σ3 H3 => ∃ l3 w3, σ3 = [some (.ref p), some (.ref l3)] ∧ Pot H3 p c ∧ Kept p c H H3 ∧ Ord H3 p c l3 w3 ∧ w3 ∈ wBase ++ wBase.flatMap (puts "clear" 0), ?_, ?_⟩
    · have k02 : Kept p c H H2 := (Kept.of_same s0).trans (k1.trans k2)
      refine ⟨_, rfl, p, c, _, rfl, P2, by decide, by decide, fun H3 r P3 k3 r0 r1 => ?_⟩
      refine ⟨_, _, rfl, rfl, _, rfl, ?_⟩
      refine ite2 (fun _ => ?_) (fun _ => ?_)
      · refine ⟨_, rfl, _, rfl, p, c, l2, w2, _, 0, rfl, P3, O2.kept k3, Nat.zero_le _, by rw [wBase_len _ b2]; decide, fun H4 l4 w4 P4 k4 O4 m4 => ?_⟩
        exact ⟨l4, w4, rfl, P4, k02.trans (k3.trans k4), O4, List.mem_append_right _ (List.mem_flatMap.mpr ⟨w2, b2, m4⟩)⟩
      · exact ⟨l2, w2, rfl, P3, k02.trans k3, O2.kept k3, List.mem_append_left _ b2⟩
    · rintro σ3 H3 ⟨l3, w3, rfl, P3, k3, O3, m3⟩
      refine ⟨_, rfl, _, rfl, p, c, l3, w3, rfl, P3, O3, wAll_len _ m3, fun H4 l4 w4 P4 k4 O4 m4 => ?_⟩
      exact q H4 l4 w4 P4 (k3.trans k4) O4 (List.mem_flatMap.mpr ⟨w3, m3, m4⟩)
theorem ok_cwords {f fD fP fL : Addr} {fd dD dP dL : FuncData} (F : Fun K "_law_cleaner_words" "_law_cleaner_words" s_law_cleaner_words f fd) (D : Drw P w K mg base fD dD) (U : Put P w K mg base fP fL dP dL) :
    FnOk P w K mg base CX0 4 f fd ["pot"] (spWords CL) := by
  refine F.ok sc_law_cleaner_words (fun vs H Q E h => ?_) (fun cdv A outer s H vs Q E hr h => ?_)
  · obtain ⟨p, c, rfl, _⟩ := h
    rfl
  · obtain ⟨p, c, rfl, hP, q⟩ := h
    have hr1 : Room 1 _ := hr.mono (by decide)
    refine ⟨_, pss_cons (ps_set (i := 1) sc_law_cleaner_words.nd rfl (Or.inl rfl) (pe_lst (pa_cons pe_str (pa_cons pe_str pa_nil))))
      (C8.pss_cut (ps_if (pt_cmpR op_eq (pe_call D.G hr1 (by rfl) D.g D.k D.b .nil pass0 (pa_cons (pv 0) (pa_cons pe_int pa_nil))) pe_int (nomark _))
        (pss_one (ps_set (i := 1) sc_law_cleaner_words.nd rfl (Or.inl rfl) (pe_op op_cat (pe_lst (pa_cons pe_str pa_nil)) (pv 1)))) pss_nil)
      (C8.pss_cut (ps_if (pt_cmpR op_eq (pe_call D.G hr1 (by rfl) D.g D.k D.b .nil pass0 (pa_cons (pv 0) (pa_cons pe_int pa_nil))) pe_int (nomark _))
        (pss_one (ps_set (i := 1) sc_law_cleaner_words.nd rfl (Or.inl rfl) (pe_op op_cat (pv 1) (pe_lst (pa_cons pe_str pa_nil))))) pss_nil)
      (pss_one (ps_ret (pe_call U.GL hr (by rfl) U.gL U.kL U.bL .nil pass0 (pa_cons (pv 0) (pa_cons (pv 1) pa_nil))))))), ?_⟩
    refine ⟨(by show 2 ≤ sizeLine; decide), fun l0 n0 => ?_⟩
    have s0 := same_upd (o := .lst [V.str "look", V.str "set"]) n0
    have P0 := hP.same s0
    refine ⟨fun σ3 H3 => ∃ l3 w3, σ3 = [some (.ref p), some (.ref l3)] ∧ Pot H3 p c ∧ Kept p c H H3 ∧ Ord H3 p c l3 w3 ∧ w3 ∈ ([["look", "set"], ["remove", "look", "set"]] : List (List Str)), ?_, ?_⟩
    · refine ⟨_, rfl, p, c, _, rfl, P0, by decide, by decide, fun H3 r P3 k3 r0 r1 => ?_⟩
      have O3 : Ord H3 p c l0 ["look", "set"] := Ord.kept ⟨upd_same, hP.live n0⟩ k3
      refine ⟨rfl, _, rfl, ?_⟩
      refine ite2 (fun _ => ?_) (fun _ => ?_)
      · refine ⟨(by show 1 ≤ sizeLine; decide), fun p1 n1 => ?_⟩
        have s1 := same_upd (o := .lst [V.str "remove"]) n1
        refine ⟨_, rfl, p1, l0, _, _, rfl, rfl, upd_same, s1 _ _ O3.1, (by show 3 ≤ sizeLine; decide), fun p2 n2 => ?_⟩
        have P4 := P3.same s1
        exact ⟨p2, ["remove", "look", "set"], rfl, P4.same (same_upd n2), (Kept.of_same s0).trans (k3.trans (Kept.of_same (s1.trans (same_upd n2)))), ⟨upd_same, P4.live n2⟩, by simp⟩
      · exact ⟨l0, _, rfl, P3, (Kept.of_same s0).trans k3, O3, by simp⟩
    · rintro σ3 H3 ⟨l3, w3, rfl, P3, k3, O3, m3⟩
      have b3 : w3.length ≤ 3 := (by decide +kernel : ∀ ws ∈ ([["look", "set"], ["remove", "look", "set"]] : List (List Str)), ws.length ≤ 3) _ m3
      refine ⟨fun σ3 H3 => ∃ l3 w3, σ3 = [some (.ref p), some (.ref l3)] ∧ Pot H3 p c ∧ Kept p c H H3 ∧ Ord H3 p c l3 w3 ∧ w3 ∈ ([["look", "set"], ["remove", "look", "set"], ["look", "set", "again"], ["remove", "look", "set", "again"]] : List (List Str)), ?_, ?_⟩
      · refine ⟨_, rfl, p, c, _, rfl, P3, by decide, by decide, fun H4 r P4 k4 r0 r1 => ?_⟩
        have O4 := O3.kept k4
        refine ⟨rfl, _, rfl, ?_⟩
        refine ite2 (fun _ => ?_) (fun _ => ?_)
        · refine ⟨_, rfl, (by show 1 ≤ sizeLine; decide), fun p1 n1 => ?_⟩
          have s1 := same_upd (o := .lst [V.str "again"]) n1
          refine ⟨l3, p1, _, _, rfl, rfl, s1 _ _ O4.1, upd_same, (by rw [List.length_map]; show w3.length + 1 ≤ 16777216; omega), fun p2 n2 => ?_⟩
          have P5 := P4.same s1
          refine ⟨p2, w3 ++ [("again" : Str)], rfl, P5.same (same_upd n2), k3.trans (k4.trans (Kept.of_same (s1.trans (same_upd n2)))), ⟨by rw [upd_same, List.map_append]; rfl, P5.live n2⟩, ?_⟩
          exact (by decide +kernel : ∀ ws ∈ ([["look", "set"], ["remove", "look", "set"]] : List (List Str)), ws ++ [("again" : Str)] ∈ ([["look", "set"], ["remove", "look", "set"], ["look", "set", "again"], ["remove", "look", "set", "again"]] : List (List Str))) _ m3
        · exact ⟨l3, w3, rfl, P4, k3.trans k4, O4, (by decide +kernel : ∀ ws ∈ ([["look", "set"], ["remove", "look", "set"]] : List (List Str)), ws ∈ ([["look", "set"], ["remove", "look", "set"], ["look", "set", "again"], ["remove", "look", "set", "again"]] : List (List Str))) _ m3⟩
      · rintro σ4 H4 ⟨l4, w4, rfl, P4, k4, O4, m4⟩
        have b4 : w4.length ≤ 15 := (by decide +kernel : ∀ ws ∈ ([["look", "set"], ["remove", "look", "set"], ["look", "set", "again"], ["remove", "look", "set", "again"]] : List (List Str)), ws.length ≤ 15) _ m4
        refine ⟨_, rfl, _, rfl, p, c, l4, w4, rfl, P4, O4, b4, fun H5 l5 w5 P5 k5 O5 m5 => ?_⟩
        exact q H5 l5 w5 P5 (k4.trans k5) O5 (List.mem_flatMap.mpr ⟨w4, m4, m5⟩)
theorem ok_rwords {f fD fP fL : Addr} {fd dD dP dL : FuncData} (F : Fun K "_law_reader_words" "_law_reader_words" s_law_reader_words f fd) (D : Drw P w K mg base fD dD) (U : Put P w K mg base fP fL dP dL) :
    FnOk P w K mg base CX0 4 f fd ["pot"] (spWords RL) := by
  refine F.ok sc_law_reader_words (fun vs H Q E h => ?_) (fun cdv A outer s H vs Q E hr h => ?_)
  · obtain ⟨p, c, rfl, _⟩ := h
    rfl
  · obtain ⟨p, c, rfl, hP, q⟩ := h
    have hr1 : Room 1 _ := hr.mono (by decide)
    have hr2 : Room 2 _ := hr.mono (by decide)
    refine ⟨_, pss_cons (ps_set (i := 1) sc_law_reader_words.nd rfl (Or.inl rfl) (pe_call U.GP hr2 (by rfl) U.gP U.kP U.bP .nil pass0 (pa_cons (pv 0) (pa_cons (pe_lst (pa_cons pe_str pa_nil)) (pa_cons pe_str (pa_cons pe_int pa_nil))))))
      (pss_cons (ps_if (pt_cmpR op_gt (pe_call D.G hr1 (by rfl) D.g D.k D.b .nil pass0 (pa_cons (pv 0) (pa_cons pe_int pa_nil))) pe_int (nomark _))
        (pss_one (ps_ret (pe_op op_cat (pe_call U.GP hr2 (by rfl) U.gP U.kP U.bP .nil pass0 (pa_cons (pv 0) (pa_cons (pv 1) (pa_cons pe_str (pa_cons pe_int pa_nil))))) (pe_lst (pa_cons pe_str pa_nil))))) pss_nil)
      (pss_cons (ps_set (i := 1) sc_law_reader_words.nd rfl (Or.inl rfl) (pe_call U.GP hr2 (by rfl) U.gP U.kP U.bP .nil pass0 (pa_cons (pv 0) (pa_cons (pv 1) (pa_cons pe_str (pa_cons pe_int pa_nil))))))
      (pss_one (ps_ret (pe_op op_cat (pe_call U.GP hr2 (by rfl) U.gP U.kP U.bP .nil pass0 (pa_cons (pv 0) (pa_cons (pv 1) (pa_cons pe_str (pa_cons (pe_op op_add (pe_bm PySem.F.plainAttrs_list PySem.F.slot_list_index PySem.F.type_list_index mt_index (pv 1) (pa_cons pe_str pa_nil)) pe_int) pa_nil))))) (pe_lst (pa_cons pe_str pa_nil))))))), ?_⟩
    refine ⟨_, rfl, (by show 1 ≤ sizeLine; decide), fun l0 n0 => ?_⟩
    have s0 := same_upd (o := .lst [V.str "entry"]) n0
    have P0 := hP.same s0
    refine ⟨p, c, l0, ["entry"], _, 0, rfl, P0, ⟨upd_same, hP.live n0⟩, by decide, by decide, fun H1 l1 w1 P1 k1 O1 m1 => ?_⟩
    have d1 : w1.length = 2 := puts_len m1
    have k01 : Kept p c H H1 := (Kept.of_same s0).trans k1
    refine ⟨_, rfl, p, c, _, rfl, P1, by decide, by decide, fun H2 r P2 k2 r0 r1 => ?_⟩
    refine ⟨_, _, rfl, rfl, _, rfl, ?_⟩
    have last : ∀ (H3 : Hp) (l3 : Addr) (w3 : List Str), Pot H3 p c → Kept p c H H3 → Ord H3 p c l3 w3 → w3.length ≤ 10 → (w3 ++ [("page" : Str)]) ∈ RL → tLst (tCons (tC (.str "page")) tNil) (L2.start ["pot", "order"] [V.ref p]) H3 fun y H4 => rCat (.ref l3) y H4 Q := by
      intro H3 l3 w3 P3 k3 O3 d3 m3
      refine ⟨(by show 1 ≤ sizeLine; decide), fun p1 n1 => ?_⟩
      have s1 := same_upd (o := .lst [V.str "page"]) n1
      refine ⟨l3, p1, _, _, rfl, rfl, s1 _ _ O3.1, upd_same, (by rw [List.length_map]; show w3.length + 1 ≤ 16777216; omega), fun p2 n2 => ?_⟩
      have P5 := P3.same s1
      exact q _ p2 (w3 ++ [("page" : Str)]) (P5.same (same_upd n2)) (k3.trans (Kept.of_same (s1.trans (same_upd n2)))) ⟨by rw [upd_same, List.map_append]; rfl, P5.live n2⟩ m3
    refine ite2 (fun _ => ?_) (fun _ => ?_)
    · refine ⟨_, rfl, _, rfl, p, c, l1, w1, _, 0, rfl, P2, O1.kept k2, Nat.zero_le _, by omega, fun H3 l3 w3 P3 k3 O3 m3 => ?_⟩
      have d3 := puts_len m3
      exact last H3 l3 w3 P3 (k01.trans (k2.trans k3)) O3 (by omega) (List.mem_map.mpr ⟨w3, List.mem_append_left _ (List.mem_flatMap.mpr ⟨w1, m1, m3⟩), rfl⟩)
    · refine ⟨_, rfl, _, rfl, p, c, l1, w1, _, 0, rfl, P2, O1.kept k2, Nat.zero_le _, by omega, fun H3 l3 w3 P3 k3 O3 m3 => ?_⟩
      have d3 := puts_len m3
      have mu := puts_mem m3
      have il := idx_lt mu
      refine ⟨_, rfl, _, rfl, _, rfl, .inl ⟨rfl, _, SqL.of O3.1⟩, l3, _, _, idx "take" w3, _, rfl, rfl, SqL.of O3.1, rfl, flat_str _, idx_get mu, ?_, fun m z hm hz => idx_none m z hm hz, ?_⟩
      · rw [eqV_str]
        exact decide_eq_true rfl
      refine ⟨_, _, rfl, rfl, p, c, l3, w3, _, idx "take" w3 + 1, rfl, P3, O3, by omega, by omega, fun H4 l4 w4 P4 k4 O4 m4 => ?_⟩
      have d4 := puts_len m4
      exact last H4 l4 w4 P4 (k01.trans (k2.trans (k3.trans k4))) O4 (by omega) (List.mem_map.mpr ⟨w4, List.mem_append_right _ (List.mem_flatMap.mpr ⟨w3, List.mem_flatMap.mpr ⟨w1, m1, m3⟩, m4⟩), rfl⟩)
end
end Toy
set_option Elab.async false
set_option linter.all false
set_option maxRecDepth 100000
set_option maxHeartbeats 4000000
namespace Toy
open PySem PySem.Spec PyProof.Rows L2
/-! ### the law's orders are the program's -/
def lah (ws : List Str) (a b : Str) : Bool := !decide (a ∈ ws) || (!decide (b ∈ ws) || decide (idx a ws < idx b ws))
def cn (z : Str) (ws : List Str) : Nat := (ws.filter fun o => decide (o = z)).length
def fitB (ws nd fr : List Str) : Bool :=
  (ws.all fun z => decide (z ∈ nd ++ fr) && decide (cn z ws = 1)) && ((nd.all fun z => decide (z ∈ ws)) && ((decide (("lock" : Str) ∈ ws) == decide (("unlock" : Str) ∈ ws)) && lah ws "lock" "unlock"))
theorem cn_cons (z a : Str) (r : List Str) : cn z (a :: r) = (if a = z then 1 else 0) + cn z r := by
  unfold cn
  by_cases h : a = z
  · rw [List.filter_cons_of_pos (by simpa using h), if_pos h, List.length_cons]
    omega
  · rw [List.filter_cons_of_neg (by simpa using h), if_neg h]
    omega
theorem cn_pos {z : Str} {r : List Str} (h : z ∈ r) : 1 ≤ cn z r := by
  unfold cn
  exact List.length_pos_of_mem (List.mem_filter.mpr ⟨h, by simp⟩)
theorem cn_zero {z : Str} {r : List Str} (h : z ∉ r) : cn z r = 0 := by
  unfold cn
  rw [List.filter_eq_nil_iff.mpr fun a ha => by simpa using fun (e : a = z) => h (e ▸ ha)]
  rfl
theorem cn_nodup : ∀ ws : List Str, (∀ z ∈ ws, cn z ws = 1) ↔ ws.Nodup
  | [] => by simp
  | a :: r => by
    have ih := cn_nodup r
    rw [List.nodup_cons]
    constructor
    · intro h
      have ha : a ∉ r := fun m => by
        have h1 := h a List.mem_cons_self
        have h2 := cn_pos m
        rw [cn_cons, if_pos rfl] at h1
        omega
      refine ⟨ha, ih.mp fun z hz => ?_⟩
      have h1 := h z (List.mem_cons_of_mem _ hz)
      rw [cn_cons, if_neg (fun (e : a = z) => ha (e ▸ hz))] at h1
      omega
    · rintro ⟨ha, hr⟩ z hz
      rw [cn_cons]
      rcases List.mem_cons.mp hz with e | m
      · rw [if_pos e.symm, e, cn_zero ha]
      · rw [if_neg (fun (e : a = z) => ha (e ▸ m)), ih.mpr hr z m]
theorem fit_all {ws nd fr known : List Str} (h : ∀ z, z ∈ nd ++ fr ↔ z ∈ known) : (ws.all fun z => decide (z ∈ nd ++ fr) && decide (cn z ws = 1)) = ((ws.all fun z => decide (z ∈ known)) && decide ws.Nodup) := by
  rw [Bool.eq_iff_iff, Bool.and_eq_true, List.all_eq_true, List.all_eq_true, decide_eq_true_iff, ← cn_nodup]
  constructor
  · intro k
    refine ⟨fun z hz => ?_, fun z hz => ?_⟩
    · have := (Bool.and_eq_true_iff.mp (k z hz)).1
      exact decide_eq_true ((h z).mp (of_decide_eq_true this))
    · exact of_decide_eq_true (Bool.and_eq_true_iff.mp (k z hz)).2
  · rintro ⟨k1, k2⟩ z hz
    rw [Bool.and_eq_true]
    exact ⟨decide_eq_true ((h z).mpr (of_decide_eq_true (k1 z hz))), decide_eq_true (k2 z hz)⟩
def lawW (ws : List Str) : Bool := fitB ws ["change", "enter", "commit"] ["clear", "lock", "unlock"] && (lah ws "change" "enter" && lah ws "change" "commit")
def lawC (ws : List Str) : Bool := fitB ws ["look", "set"] ["remove", "again", "lock", "unlock"] && (!(!lah ws "look" "set" || !lah ws "remove" "look") && lah ws "set" "again")
def lawR (ws : List Str) : Bool := fitB ws ["entry", "mark", "page"] ["hold", "take", "tell"] &&
  (!((decide (("hold" : Str) ∈ ws) == decide (("take" : Str) ∈ ws)) || !(decide (("take" : Str) ∈ ws) == decide (("tell" : Str) ∈ ws))) && (decide (ws.getLast? = some ("page" : Str)) && lah ws "take" "tell"))
theorem kW (z : Str) : z ∈ ((["change", "enter", "commit"] : List Str) ++ (["clear", "lock", "unlock"] : List Str)) ↔ z ∈ WW :=
  ⟨(by decide +kernel : ∀ y ∈ ((["change", "enter", "commit"] : List Str) ++ (["clear", "lock", "unlock"] : List Str)), y ∈ WW) z, (by decide +kernel : ∀ y ∈ WW, y ∈ ((["change", "enter", "commit"] : List Str) ++ (["clear", "lock", "unlock"] : List Str))) z⟩
theorem kC (z : Str) : z ∈ ((["look", "set"] : List Str) ++ (["remove", "again", "lock", "unlock"] : List Str)) ↔ z ∈ CW :=
  ⟨(by decide +kernel : ∀ y ∈ ((["look", "set"] : List Str) ++ (["remove", "again", "lock", "unlock"] : List Str)), y ∈ CW) z, (by decide +kernel : ∀ y ∈ CW, y ∈ ((["look", "set"] : List Str) ++ (["remove", "again", "lock", "unlock"] : List Str))) z⟩
theorem kR (z : Str) : z ∈ ((["entry", "mark", "page"] : List Str) ++ (["hold", "take", "tell"] : List Str)) ↔ z ∈ RW :=
  ⟨(by decide +kernel : ∀ y ∈ ((["entry", "mark", "page"] : List Str) ++ (["hold", "take", "tell"] : List Str)), y ∈ RW) z, (by decide +kernel : ∀ y ∈ RW, y ∈ ((["entry", "mark", "page"] : List Str) ++ (["hold", "take", "tell"] : List Str))) z⟩
theorem lawW_eq (ws : List Str) : lawW ws = isW ws := by
  unfold lawW isW fitB
  rw [fit_all kW]
  unfold splitW
  cases g : ((ws.all fun z => decide (z ∈ WW)) && decide ws.Nodup) with
  | false => rfl
  | true =>
    rw [if_pos rfl]
    unfold lck ahd lah
    simp only [List.all_cons, List.all_nil]
    generalize decide (("change" : Str) ∈ ws) = a1
    generalize decide (("enter" : Str) ∈ ws) = a2
    generalize decide (("commit" : Str) ∈ ws) = a3
    generalize decide (("lock" : Str) ∈ ws) = a4
    generalize decide (("unlock" : Str) ∈ ws) = a5
    generalize decide (idx ("change" : Str) ws < idx "enter" ws) = b1
    generalize decide (idx ("change" : Str) ws < idx "commit" ws) = b2
    generalize decide (idx ("lock" : Str) ws < idx "unlock" ws) = b3
    revert a1 a2 a3 a4 a5 b1 b2 b3
    decide +kernel
theorem lawC_eq (ws : List Str) : lawC ws = isC ws := by
  unfold lawC isC fitB
  rw [fit_all kC]
  unfold splitW
  cases g : ((ws.all fun z => decide (z ∈ CW)) && decide ws.Nodup) with
  | false => rfl
  | true =>
    rw [if_pos rfl]
    unfold lck ahd lah
    simp only [List.all_cons, List.all_nil]
    generalize decide (("look" : Str) ∈ ws) = a1
    generalize decide (("set" : Str) ∈ ws) = a2
    generalize decide (("remove" : Str) ∈ ws) = a3
    generalize decide (("again" : Str) ∈ ws) = a6
    generalize decide (("lock" : Str) ∈ ws) = a4
    generalize decide (("unlock" : Str) ∈ ws) = a5
    generalize decide (idx ("look" : Str) ws < idx "set" ws) = b1
    generalize decide (idx ("remove" : Str) ws < idx "look" ws) = b2
    generalize decide (idx ("set" : Str) ws < idx "again" ws) = b4
    generalize decide (idx ("lock" : Str) ws < idx "unlock" ws) = b3
    revert a1 a2 a3 a4 a5 a6 b1 b2 b3 b4
    decide +kernel
theorem lawR_eq (ws : List Str) : lawR ws = isR ws := by
  unfold lawR isR fitB
  rw [fit_all kR]
  unfold splitW
  cases g : ((ws.all fun z => decide (z ∈ RW)) && decide ws.Nodup) with
  | false => rfl
  | true =>
    rw [if_pos rfl]
    have hk : ∀ z ∈ ws, z ∈ RW := fun z hz => of_decide_eq_true (List.all_eq_true.mp (Bool.and_eq_true_iff.mp g).1 z hz)
    have n1 : decide (("lock" : Str) ∈ ws) = false := decide_eq_false fun m => (by decide +kernel : ("lock" : Str) ∉ RW) (hk _ m)
    have n2 : decide (("unlock" : Str) ∈ ws) = false := decide_eq_false fun m => (by decide +kernel : ("unlock" : Str) ∉ RW) (hk _ m)
    unfold ahd lah
    rw [n1, n2]
    simp only [List.all_cons, List.all_nil]
    have e : (if ("hold" : Str) ∈ ws then (!decide (("take" : Str) ∈ ws) && !decide (("tell" : Str) ∈ ws)) else (decide (("take" : Str) ∈ ws) && (decide (("tell" : Str) ∈ ws) && decide (idx "take" ws < idx "tell" ws)))) = if decide (("hold" : Str) ∈ ws) = true then (!decide (("take" : Str) ∈ ws) && !decide (("tell" : Str) ∈ ws)) else (decide (("take" : Str) ∈ ws) && (decide (("tell" : Str) ∈ ws) && decide (idx "take" ws < idx "tell" ws))) := by
      by_cases h : ("hold" : Str) ∈ ws
      · rw [if_pos h, if_pos (decide_eq_true h)]
      · rw [if_neg h, if_neg (by rw [decide_eq_false h]; decide)]
    rw [e]
    have hp : decide (ws.getLast? = some ("page" : Str)) = true → decide (("page" : Str) ∈ ws) = true := fun h => decide_eq_true (List.mem_of_getLast? (of_decide_eq_true h))
    revert hp
    generalize decide (("entry" : Str) ∈ ws) = a1
    generalize decide (("mark" : Str) ∈ ws) = a2
    generalize decide (("page" : Str) ∈ ws) = a3
    generalize decide (("hold" : Str) ∈ ws) = a4
    generalize decide (("take" : Str) ∈ ws) = a5
    generalize decide (("tell" : Str) ∈ ws) = a6
    generalize decide (ws.getLast? = some ("page" : Str)) = b1
    generalize decide (idx ("take" : Str) ws < idx "tell" ws) = b2
    generalize decide (idx ("lock" : Str) ws < idx "unlock" ws) = b3
    revert a1 a2 a3 a4 a5 a6 b1 b2 b3
    decide +kernel
/-! ### the texts of good orders -/
def good (k : Nat) (ws : List Str) : Bool :=
  let g := Txt.join " " ws
  (decide (g.length ≤ 100) && decide (ws.length ≤ 10) && (isW (Txt.split g " ") == (k == 0)) && (isC (Txt.split g " ") == (k == 1)) && (isR (Txt.split g " ") == (k == 2)) && !isW (Txt.split (g ++ (" " : Str)) " ") && !isC (Txt.split ((" " : Str) ++ g) " ") && !isR (Txt.split (g ++ ("\n" : Str)) " ") && !isR (Txt.split (g ++ (" page" : Str)) " ")) && (ws.all fun z => decide (z.length ≤ 6))
end Toy
set_option Elab.async false
set_option linter.all false
set_option maxRecDepth 100000
set_option maxHeartbeats 4000000
namespace Toy
open PySem PySem.Spec PyProof.Rows L2
theorem app_assoc (a b c : Str) : a ++ b ++ c = a ++ (b ++ c) := TL.ext_tl (by rw [TL.tl_append, TL.tl_append, TL.tl_append, TL.tl_append, List.append_assoc])
theorem join_snoc (y x : Str) : ∀ {ws : List Str}, ws ≠ [] → Str.join y (ws ++ [x]) = Str.join y ws ++ y ++ x
  | [], h => absurd rfl h
  | [a], _ => rfl
  | a :: b :: r, _ => by
    show a ++ y ++ Str.join y ((b :: r) ++ [x]) = a ++ y ++ Str.join y (b :: r) ++ y ++ x
    rw [join_snoc y x (ws := b :: r) (by simp), app_assoc (a ++ y), app_assoc (a ++ y), app_assoc (Str.join y (b :: r))]
theorem app_len (a b : Str) : (a ++ b).length = a.length + b.length := by
  show (a.cps ++ b.cps).size = _
  rw [Array.size_append]
  rfl
theorem join_len {n : Nat} : ∀ {ws : List Str}, (∀ z ∈ ws, z.length ≤ n) → (Str.join " " ws).length ≤ (n + 1) * ws.length
  | [], _ => Nat.zero_le _
  | [a], h => by
    show a.length ≤ (n + 1) * 1
    have := h a List.mem_cons_self
    omega
  | a :: b :: r, h => by
    show (a ++ (" " : Str) ++ Str.join " " (b :: r)).length ≤ (n + 1) * ((b :: r).length + 1)
    have ih := join_len (n := n) (ws := b :: r) fun z hz => h z (List.mem_cons_of_mem _ hz)
    have ha := h a List.mem_cons_self
    rw [app_len, app_len, Nat.mul_add]
    have e : (" " : Str).length = 1 := by decide +kernel
    omega
def plain (z : Str) : Bool := decide (z.length ≤ 6) && !(z.cps.toList.contains 32)
theorem split_ok {ws : List Str} (hne : ws ≠ []) (hp : ∀ z ∈ ws, 32 ∉ TL.tl z) : Txt.split (Str.join " " ws) " " = ws := by
  rw [← TL.join_eq]
  exact TL.split_join (s := 32) (S := []) (by decide +kernel) (by decide +kernel) hne hp
theorem no_word {known us : List Str} {x : Str} (hx : x ∈ us) (h : x ∉ known) : splitW known us = [] := by
  unfold splitW
  rw [if_neg]
  intro c
  exact h (of_decide_eq_true (List.all_eq_true.mp (Bool.and_eq_true_iff.mp c).1 x hx))
theorem isW_no {us : List Str} {x : Str} (hx : x ∈ us) (h : x ∉ WW) : isW us = false := by
  unfold isW
  rw [no_word hx h]
  rfl
theorem isC_no {us : List Str} {x : Str} (hx : x ∈ us) (h : x ∉ CW) : isC us = false := by
  unfold isC
  rw [no_word hx h]
  rfl
theorem isR_no {us : List Str} {x : Str} (hx : x ∈ us) (h : x ∉ RW) : isR us = false := by
  unfold isR
  rw [no_word hx h]
  rfl
theorem isR_twice {us : List Str} (h : ¬ us.Nodup) : isR us = false := by
  unfold isR
  have e : splitW RW us = [] := by
    unfold splitW
    rw [if_neg]
    intro c
    exact h (of_decide_eq_true (Bool.and_eq_true_iff.mp c).2)
  rw [e]
  rfl
def cheap (k : Nat) (ws : List Str) : Bool := (decide (ws.length ≤ 7) && (!ws.isEmpty && ((isW ws == (k == 0)) && ((isC ws == (k == 1)) && ((isR ws == (k == 2)) && (decide (("page" : Str) ∈ ws) || ws.any fun z => !decide (z ∈ RW))))))) && ws.all plain
theorem cheapR : (RL.all (cheap 2)) = true := by decide +kernel
theorem cheapC : (CL.all (cheap 1)) = true := by decide +kernel
theorem cheapW : (WL.all (cheap 0)) = true := by decide +kernel
structure Good (k : Nat) (ws : List Str) : Prop where
  small : ∀ z ∈ ws, z.length ≤ 6
  few : ws.length ≤ 7
  len : (Str.join " " ws).length ≤ 49
  cut : Txt.split (Str.join " " ws) " " = ws
  w : isW ws = (k == 0)
  c : isC ws = (k == 1)
  r : isR ws = (k == 2)
  w1 : isW (Txt.split (Str.join " " ws ++ (" " : Str)) " ") = false
  c1 : isC (Txt.split ((" " : Str) ++ Str.join " " ws) " ") = false
  r1 : isR (Txt.split (Str.join " " ws ++ ("\n" : Str)) " ") = false
  r2 : isR (Txt.split (Str.join " " ws ++ (" page" : Str)) " ") = false
theorem good_of {k : Nat} {ws : List Str} (h : cheap k ws = true) : Good k ws := by
  unfold cheap at h
  simp only [Bool.and_eq_true] at h
  obtain ⟨⟨h1, h2, h3, h4, h5, h6⟩, h7⟩ := h
  have few := of_decide_eq_true h1
  have hne : ws ≠ [] := fun e => by rw [e] at h2; cases h2
  have pl : ∀ z ∈ ws, z.length ≤ 6 ∧ 32 ∉ TL.tl z := fun z hz => by
    have := List.all_eq_true.mp h7 z hz
    unfold plain at this
    rw [Bool.and_eq_true] at this
    exact ⟨of_decide_eq_true this.1, by simpa using this.2⟩
  have cut := split_ok hne fun z hz => (pl z hz).2
  have len := join_len (n := 6) fun z hz => (pl z hz).1
  have e0 : ∀ x : Str, x ++ ("" : Str) = x := fun x => TL.ext_tl (by rw [TL.tl_append]; show _ ++ [] = _; rw [List.append_nil])
  have e1 : ∀ x : Str, ("" : Str) ++ x = x := fun x => TL.ext_tl (by rw [TL.tl_append]; rfl)
  refine ⟨fun z hz => (pl z hz).1, few, by omega, cut, by simpa using h3, by simpa using h4, by simpa using h5, ?_, ?_, ?_, ?_⟩
  · have e : Str.join " " ws ++ (" " : Str) = Str.join " " (ws ++ [("" : Str)]) := by rw [join_snoc _ _ hne, e0]
    rw [e, split_ok (by simp)]
    · exact isW_no (x := "") (by simp) (by decide +kernel)
    · intro z hz
      rcases List.mem_append.mp hz with m | m
      · exact (pl z m).2
      · rw [List.mem_singleton.mp m]
        decide +kernel
  · obtain ⟨a, r, rfl⟩ : ∃ a r, ws = a :: r := by
      cases ws with
      | nil => exact absurd rfl hne
      | cons a r => exact ⟨a, r, rfl⟩
    have e : (" " : Str) ++ Str.join " " (a :: r) = Str.join " " (("" : Str) :: a :: r) := by
      show _ = ("" : Str) ++ (" " : Str) ++ Str.join " " (a :: r)
      rw [e1]
    rw [e, split_ok (by simp)]
    · exact isC_no (x := "") (by simp) (by decide +kernel)
    · intro z hz
      rcases List.mem_cons.mp hz with m | m
      · rw [m]
        decide +kernel
      · exact (pl z m).2
  · obtain ⟨ini, z, rfl⟩ : ∃ ini z, ws = ini ++ [z] := by
      rcases List.eq_nil_or_concat ws with e | e
      · exact absurd e hne
      · obtain ⟨i, z, e⟩ := e
        exact ⟨i, z, by rw [e, List.concat_eq_append]⟩
    have e : Str.join " " (ini ++ [z]) ++ ("\n" : Str) = Str.join " " (ini ++ [z ++ ("\n" : Str)]) := by
      by_cases hi : ini = []
      · rw [hi]
        rfl
      · rw [join_snoc _ _ hi, join_snoc _ _ hi, app_assoc]
    rw [e, split_ok (by simp)]
    · refine isR_no (x := z ++ ("\n" : Str)) (by simp) fun m => ?_
      have k : ∀ y ∈ RW, 10 ∉ TL.tl y := by decide +kernel
      refine k _ m ?_
      rw [TL.tl_append]
      exact List.mem_append_right _ (by decide +kernel)
    · intro x hx
      rcases List.mem_append.mp hx with m | m
      · exact (pl x (List.mem_append_left _ m)).2
      · rw [List.mem_singleton.mp m, TL.tl_append]
        intro y
        rcases List.mem_append.mp y with y | y
        · exact (pl z (by simp)).2 y
        · exact absurd y (by decide +kernel)
  · have e : Str.join " " ws ++ (" page" : Str) = Str.join " " (ws ++ [("page" : Str)]) := by
      rw [join_snoc _ _ hne, app_assoc]
      congr 1
    rw [e, split_ok (by simp)]
    · rcases Bool.or_eq_true_iff.mp h6 with m | m
      · refine isR_twice fun n => ?_
        exact (List.nodup_append.mp n).2.2 _ (of_decide_eq_true m) _ (List.mem_singleton.mpr rfl) rfl
      · obtain ⟨x, hx, n⟩ := List.any_eq_true.mp m
        exact isR_no (x := x) (List.mem_append_left _ hx) (by simpa using n)
    · intro z hz
      rcases List.mem_append.mp hz with m | m
      · exact (pl z m).2
      · rw [List.mem_singleton.mp m]
        decide +kernel
theorem goodW : ∀ ws ∈ WL, Good 0 ws := fun ws h => good_of (List.all_eq_true.mp cheapW ws h)
theorem goodC : ∀ ws ∈ CL, Good 1 ws := fun ws h => good_of (List.all_eq_true.mp cheapC ws h)
theorem goodR : ∀ ws ∈ RL, Good 2 ws := fun ws h => good_of (List.all_eq_true.mp cheapR ws h)
end Toy
set_option Elab.async false
set_option linter.all false
set_option maxRecDepth 100000
set_option maxHeartbeats 4000000
namespace Toy
open PySem PySem.Spec PyProof.Rows L2
/-! ### lists of texts as data -/
theorem dpAll_str {K : PySem.W.Frag} {H : Hp} : ∀ us : List Str, DpAll K H (us.map V.str) (us.map PyData.str)
  | [] => .nil
  | k :: r => .cons (.str _) (dpAll_str r)
theorem dp_str {K : PySem.W.Frag} {H : Hp} {a : Addr} {us : List Str} (h : H a = some (.lst (us.map V.str))) : Dp K H (.ref a) (.list (us.map PyData.str)) := .lst (SqL.of h) (dpAll_str us)
theorem can_str : ∀ us : List Str, (∀ z ∈ us, PyData.canLay0 (.str z) = true) → PyData.canLayAll0 (us.map PyData.str) = true
  | [], _ => rfl
  | k :: r, h => by
    rw [List.map_cons]
    show (PyData.canLay0 (.str k) && PyData.canLayAll0 (r.map PyData.str)) = true
    rw [can_str r fun z hz => h z (List.mem_cons_of_mem _ hz), h k List.mem_cons_self]
    rfl
theorem dep_str : ∀ us : List Str, PyData.depthAll (us.map PyData.str) ≤ 1
  | [] => by decide
  | k :: r => by
    have ih := dep_str r
    rw [List.map_cons]
    have e : PyData.depthAll (PyData.str k :: r.map PyData.str) = max (PyData.depth (PyData.str k)) (PyData.depthAll (r.map PyData.str)) := rfl
    have e2 : PyData.depth (PyData.str k) ≤ 1 := by first | exact Nat.zero_le _ | exact Nat.le_refl _ | (show (0 : Nat) ≤ 1; decide) | (show (1 : Nat) ≤ 1; decide)
    rw [e]
    omega
theorem shp_str (us : List Str) (h : ∀ z ∈ us, PyData.canLay0 (.str z) = true) : SeqAt.shaped (.list (us.map PyData.str)) = true := by
  have h1 := can_str us h
  have h2 := dep_str us
  unfold SeqAt.shaped
  rw [Bool.and_eq_true]
  refine ⟨h1, decide_eq_true ?_⟩
  have e : PyData.depth (.list (us.map PyData.str)) = PyData.depthAll (us.map PyData.str) + 1 := rfl
  omega
theorem eqv_nil : ∀ us : List Str, PyData.eqv (.list (us.map PyData.str)) (.list (([] : List Str).map PyData.str)) = us.isEmpty
  | [] => rfl
  | _ :: _ => rfl
theorem filter_succ {α : Type} {p : α → Bool} {ws : List α} {i : Nat} {k : α} (h : ws[i]? = some k) : (ws.take (i + 1)).filter p = if p k = true then (ws.take i).filter p ++ [k] else (ws.take i).filter p := by
  rw [List.take_add_one, h, List.filter_append]
  by_cases hp : p k = true
  · rw [if_pos hp, Option.toList_some, List.filter_cons_of_pos hp]
    rfl
  · rw [if_neg hp, Option.toList_some, List.filter_cons_of_neg hp, List.filter_nil, List.append_nil]
section
variable {P : Program} {w : World} {K : PySem.W.Frag} {mg : Str → Option Value} {base : Heap}
def spLah (K : PySem.W.Frag) : Sp := fun vs H Q _ => ∃ (l : Addr) (ws : List Str) (a b : Str), vs = [.ref l, .str a, .str b] ∧ SqL K H l (ws.map V.str) ∧ Q (.bl (lah ws a b)) H
theorem ok_lah {f : Addr} {fd : FuncData} (F : Fun K "_law_ahead" "_law_ahead" s_law_ahead f fd) : FnOk P w K mg base CX0 1 f fd ["order", "one", "other"] (spLah K) := by
  refine F.ok sc_law_ahead (fun vs H Q E h => ?_) (fun cdv A outer s H vs Q E hr h => ?_)
  · obtain ⟨l, ws, a, b, rfl, _⟩ := h
    rfl
  · obtain ⟨l, ws, a, b, rfl, hl, q⟩ := h
    refine ⟨_, pss_one (ps_ret (pe_or (pe_cmpR (Vx.op_notInK (K := K) rfl) (pv 1) (pv 0) (by rfl)) (pe_or (pe_cmpR (Vx.op_notInK (K := K) rfl) (pv 2) (pv 0) (by rfl))
      (pe_one (pe_cmpR op_lt (pe_bm PySem.F.plainAttrs_list PySem.F.slot_list_index PySem.F.type_list_index mt_index (pv 0) (pa_cons (pv 1) pa_nil))
        (pe_bm PySem.F.plainAttrs_list PySem.F.slot_list_index PySem.F.type_list_index mt_index (pv 0) (pa_cons (pv 2) pa_nil)) (nomark _)))))), ?_⟩
    refine ⟨_, rfl, _, rfl, l, _, rfl, .inl hl, rfl, flat_str _, ?_⟩
    refine ⟨_, rfl, ?_⟩
    rw [inV_str]
    unfold lah at q
    by_cases ha : a ∈ ws
    · rw [decide_eq_true ha] at q ⊢
      refine iteF ⟨_, rfl, _, rfl, l, _, rfl, .inl hl, rfl, flat_str _, ?_⟩
      refine ⟨_, rfl, ?_⟩
      rw [inV_str]
      by_cases hb : b ∈ ws
      · rw [decide_eq_true hb] at q ⊢
        refine iteF ⟨_, rfl, .inl ⟨rfl, _, hl⟩, _, rfl, l, _, _, idx a ws, _, rfl, rfl, hl, rfl, flat_str _, idx_get ha, ?_, fun m z hm hz => idx_none m z hm hz, ?_⟩
        · rw [eqV_str]
          exact decide_eq_true rfl
        · refine ⟨_, rfl, .inl ⟨rfl, _, hl⟩, _, rfl, l, _, _, idx b ws, _, rfl, rfl, hl, rfl, flat_str _, idx_get hb, ?_, fun m z hm hz => idx_none m z hm hz, ?_⟩
          · rw [eqV_str]
            exact decide_eq_true rfl
          · refine ⟨_, _, rfl, rfl, ?_⟩
            have e : (!true || (!true || decide (idx a ws < idx b ws))) = decide (((idx a ws : Nat) : Int) < ((idx b ws : Nat) : Int)) := by simp
            rw [e] at q
            exact q
      · rw [decide_eq_false hb] at q ⊢
        exact iteT q
    · rw [decide_eq_false ha] at q ⊢
      exact iteT q
def spFits : Sp := fun vs H Q _ => ∃ (z : Str) (n f : Addr) (nd fr : List Str), vs = [.str z, .ref n, .ref f] ∧ z.length ≤ 500 ∧ H n = some (.lst (nd.map V.str)) ∧ H f = some (.lst (fr.map V.str)) ∧ nd.length + fr.length ≤ 100 ∧ (∀ z ∈ nd, PyData.canLay0 (.str z) = true) ∧
  ∀ H', Same H H' → Q (.bl (fitB (Txt.split z " ") nd fr)) H'
theorem ok_fits {f fA : Addr} {fd dA : FuncData} (F : Fun K "_law_fits" "_law_fits" s_law_fits f fd) (GA : FnOk P w K mg base CX0 1 fA dA ["order", "one", "other"] (spLah K)) (kA : PySem.W.keepIn K (.ref fA) = true) (bA : L2.Binds K dA ["order", "one", "other"] []) (gA : mg "_law_ahead" = some (.ref fA)) (ml : mg "len" = none) :
    FnOk P w K mg base CX0 2 f fd ["text", "needed", "free"] spFits := by
  refine F.ok sc_law_fits (fun vs H Q E h => ?_) (fun cdv A outer s H vs Q E hr h => ?_)
  · obtain ⟨z, n, f, nd, fr, rfl, _⟩ := h
    rfl
  · obtain ⟨z, n, f, nd, fr, rfl, hz, hn, hf, few, lay, q⟩ := h
    refine ⟨_, pss_cons (ps_set (i := 3) sc_law_fits.nd rfl (Or.inr rfl) (pe_split (pv 0) pe_str))
      (pss_cons (ps_for PassesOwn.never rfl (pi_list (pv 3)) (pg_name (i := 4) sc_law_fits.nd rfl (Or.inr rfl))
        (pss_one (ps_if (PW.pt (pw_or (pt_cmpR (Vx.op_notInK (K := K) rfl) (pv 4) (pe_op op_cat (pv 1) (pv 2)) (by rfl))
          (pw_or1 (pt_cmpR op_ne (pe_callB call_len_seq (by rfl) ml PySem.boot_len (pa_cons (pe_lc (own := [("other", 5)]) (g := gName 5) rfl sc_law_fits.nd (pi_list (pv 3))
            (blkOk_by (own := [("other", 5)]) (N := ["text", "needed", "free", "order", "word", "other"]) (sc := defScope s_law_fits) (by decide +kernel)) (fun _ _ _ _ _ => pg_name (i := 5) sc_law_fits.nd rfl (Or.inl rfl))
            (fun _ _ _ _ _ => pts_one (pt_cmpR op_eq (pv 5) (pv 4) (nomark _))) (fun _ _ _ _ _ => pv 5)) pa_nil)) pe_int (nomark _)))))
          (pss_one (ps_ret pe_bl)) pss_nil)))
      (pss_cons (ps_if (pt_cmpR (op_neD hr.units) (pe_lc (own := [("word", 4)]) (g := gName 4) rfl sc_law_fits.nd (pi_list (pv 1))
            (blkOk_by (own := [("word", 4)]) (N := ["text", "needed", "free", "order", "word", "other"]) (sc := defScope s_law_fits) (by decide +kernel)) (fun _ _ _ _ _ => pg_name (i := 4) sc_law_fits.nd rfl (Or.inl rfl))
            (fun _ _ _ _ _ => pts_one (pt_cmpR (Vx.op_notInK (K := K) rfl) (pv 4) (pv 3) (by rfl))) (fun _ _ _ _ _ => pv 4)) (pe_lst pa_nil) (nomark _))
          (pss_one (ps_ret pe_bl)) pss_nil)
      (pss_one (ps_ret (pe_and (pe_cmpR op_eq (pe_cmpR (Vx.op_inK (K := K) rfl) pe_str (pv 3) (by rfl)) (pe_cmpR (Vx.op_inK (K := K) rfl) pe_str (pv 3) (by rfl)) (nomark _))
          (pe_one (pe_call GA hr (by rfl) gA kA bA .nil pass0 (pa_cons (pv 3) (pa_cons pe_str (pa_cons pe_str pa_nil)))))))))), ?_⟩
    refine ⟨_, rfl, ⟨z, rfl⟩, z, " ", rfl, rfl, by decide +kernel, Nat.le_trans (show z.length + 2 ≤ 502 by omega) (by decide), fun l nl => ?_⟩
    have small : (Txt.split z " ").length ≤ 502 := Nat.le_trans (PyProof.Rows.split_le z " ") (by omega)
    generalize Txt.split z " " = ws at small q
    have s1 : Same H (upd H l (.lst (ws.map V.str))) := same_upd nl
    have e1 : (upd H l (.lst (ws.map V.str))) l = some (.lst (ws.map V.str)) := upd_same
    refine ⟨_, rfl, l, rfl, ⟨_, SqL.of e1⟩, for_list (K := K) (a := l) (xs := ws.map V.str) (fun i σ H' => ∃ v, σ = [some (.str z), some (.ref n), some (.ref f), some (.ref l), v, none] ∧ Same (upd H l (.lst (ws.map V.str))) H' ∧ ∀ x ∈ ws.take i, x ∈ nd ++ fr ∧ cn x ws = 1) ⟨none, rfl, fun _ _ e => e, fun x hx => by rw [List.take_zero] at hx; cases hx⟩ (fun i σ H' _ ⟨_, _, y, _⟩ => SqL.of (y _ _ e1)) ?_ ?_⟩
    · rintro i x σ H2 hi ⟨v, rfl, s2, g2⟩
      obtain ⟨y, hy, rfl⟩ := take_str hi
      have ym : y ∈ ws := List.mem_of_getElem? hy
      have s12 := s1.trans s2
      have bad : ¬ (y ∈ nd ++ fr ∧ cn y ws = 1) → fitB ws nd fr = false := fun hb => by
        unfold fitB
        have : (ws.all fun z => decide (z ∈ nd ++ fr) && decide (cn z ws = 1)) = false := by
          rw [Bool.eq_false_iff]
          intro c
          have c2 := Bool.and_eq_true_iff.mp (List.all_eq_true.mp c y ym)
          exact hb ⟨of_decide_eq_true c2.1, of_decide_eq_true c2.2⟩
        rw [this]
        rfl
      refine ⟨_, rfl, _, rfl, _, rfl, n, f, _, _, rfl, rfl, s12 _ _ hn, s12 _ _ hf, ?_, fun p np => ?_⟩
      · rw [List.length_map, List.length_map]
        exact Nat.le_trans few (by decide)
      have s3 := same_upd (o := .lst (nd.map V.str ++ fr.map V.str)) np
      have e3 : (upd H2 p (.lst (nd.map V.str ++ fr.map V.str))) p = some (.lst ((nd ++ fr).map V.str)) := by rw [upd_same, List.map_append]
      refine ⟨p, _, rfl, .inl (SqL.of e3), rfl, flat_str _, _, rfl, ?_⟩
      rw [inV_str]
      by_cases h1 : y ∈ nd ++ fr
      · rw [decide_eq_true h1]
        refine iteF ⟨_, rfl, l, rfl, ⟨_, SqL.of ((s2.trans s3) _ _ e1)⟩, fun D hD => ?_⟩
        refine lc_list (K := K) (a := l) (xs := ws.map V.str) (fun j H4 => Same (upd H2 p (.lst (nd.map V.str ++ fr.map V.str))) H4 ∧ H4 D = some (.lst (((ws.take j).filter fun o => decide (o = y)).map V.str))) ⟨same_upd hD, upd_same⟩ (fun j H4 _ c => SqL.of ((s2.trans (s3.trans c.1)) _ _ e1)) ?_ ?_
        · rintro j x H4 hx ⟨s4, e4⟩
          obtain ⟨u, hu, rfl⟩ := take_str hx
          refine ⟨rfl, _, rfl, _, rfl, rfl, _, rfl, ?_⟩
          have ed : decide (V.str u = V.str y) = decide (u = y) := by
            by_cases c : u = y
            · rw [decide_eq_true c, decide_eq_true (by rw [c])]
            · rw [decide_eq_false c, decide_eq_false fun k => c (by injection k)]
          rw [ed]
          refine ite2 (fun hm => ?_) (fun hm => ?_)
          · refine ⟨_, rfl, _, e4, ?_, fun d o e => ?_, ?_⟩
            · rw [List.length_map]
              exact Nat.lt_of_le_of_lt (Nat.le_trans (List.length_filter_le _ _) (Nat.le_trans (by rw [List.length_take]; exact Nat.min_le_right _ _) small)) (by decide)
            · rw [upd_ne (ne_of_none e hD)]
              exact s4 _ _ e
            · rw [upd_same, filter_succ hu, if_pos hm, List.map_append]
              rfl
          · refine ⟨s4, ?_⟩
            rw [filter_succ hu, if_neg hm]
            exact e4
        · rintro H4 ⟨s4, e4⟩
          rw [List.length_map, List.take_length] at e4
          refine ⟨D, _, rfl, .inl (SqL.of e4), rfl, _, rfl, ?_⟩
          rw [List.length_map]
          have ec : (!decide (V.int (((ws.filter fun o => decide (o = y)).length : Nat) : Int) = V.int 1)) = !decide (cn y ws = 1) := by
            unfold cn
            generalize (ws.filter fun o => decide (o = y)).length = m
            by_cases c : m = 1
            · rw [decide_eq_true c, decide_eq_true (by rw [c]; rfl)]
            · rw [decide_eq_false c, decide_eq_false fun k => c (by injection k; omega)]
          rw [ec]
          have s14 := s12.trans (s3.trans s4)
          by_cases h2 : cn y ws = 1
          · rw [decide_eq_true h2]
            refine iteF ⟨_, rfl, s2.trans (s3.trans s4), fun x hx => ?_⟩
            rw [List.take_add_one, hy] at hx
            rcases List.mem_append.mp hx with m | m
            · exact g2 x m
            · rw [List.mem_singleton.mp m]
              exact ⟨h1, h2⟩
          · rw [decide_eq_false h2]
            refine iteT ?_
            have q1 := q _ s14
            rw [bad fun c => h2 c.2] at q1
            exact q1
      · rw [decide_eq_false h1]
        refine iteT (iteT ?_)
        have q1 := q _ (s12.trans s3)
        rw [bad fun c => h1 c.1] at q1
        exact q1
    · rintro σ H2 ⟨v, rfl, s2, g2⟩
      rw [List.length_map, List.take_length] at g2
      have s12 := s1.trans s2
      have hall : (ws.all fun z => decide (z ∈ nd ++ fr) && decide (cn z ws = 1)) = true := List.all_eq_true.mpr fun x hx => by
        rw [Bool.and_eq_true]
        exact ⟨decide_eq_true (g2 x hx).1, decide_eq_true (g2 x hx).2⟩
      have q2 : ∀ H', Same H H' → Q (.bl ((nd.all fun z => decide (z ∈ ws)) && ((decide (("lock" : Str) ∈ ws) == decide (("unlock" : Str) ∈ ws)) && lah ws "lock" "unlock"))) H' := fun H' s' => by
        have := q H' s'
        unfold fitB at this
        rw [hall, Bool.true_and] at this
        exact this
      refine ⟨_, rfl, n, rfl, ⟨_, SqL.of (s12 _ _ hn)⟩, fun D hD => ?_⟩
      refine lc_list (K := K) (a := n) (xs := nd.map V.str) (fun j H4 => Same H2 H4 ∧ H4 D = some (.lst (((nd.take j).filter fun o => !decide (o ∈ ws)).map V.str))) ⟨same_upd hD, upd_same⟩ (fun j H4 _ c => SqL.of ((s12.trans c.1) _ _ hn)) ?_ ?_
      · rintro j x H4 hx ⟨s4, e4⟩
        obtain ⟨u, hu, rfl⟩ := take_str hx
        refine ⟨rfl, _, rfl, _, rfl, l, _, rfl, .inl (SqL.of ((s2.trans s4) _ _ e1)), rfl, flat_str _, _, rfl, ?_⟩
        rw [inV_str]
        show if (if true = true then !decide (u ∈ ws) else decide (u ∈ ws)) = true then _ else _
        rw [if_pos rfl]
        refine ite2 (fun hm => ?_) (fun hm => ?_)
        · refine ⟨_, rfl, _, e4, ?_, fun d o e => ?_, ?_⟩
          · rw [List.length_map]
            exact Nat.lt_of_le_of_lt (Nat.le_trans (List.length_filter_le _ _) (Nat.le_trans (by rw [List.length_take]; exact Nat.min_le_right _ _) (show nd.length ≤ 100 by omega))) (by decide)
          · rw [upd_ne (ne_of_none e hD)]
            exact s4 _ _ e
          · rw [upd_same, filter_succ hu, if_pos hm, List.map_append]
            rfl
        · refine ⟨s4, ?_⟩
          rw [filter_succ hu, if_neg hm]
          exact e4
      · rintro H4 ⟨s4, e4⟩
        rw [List.length_map, List.take_length] at e4
        refine ⟨Nat.zero_le _, fun m nm => ?_⟩
        have hDm : D ≠ m := ne_of_none e4 nm
        have s5 := same_upd (o := .lst []) nm
        have e5 : (upd H4 m (.lst [])) m = some (.lst (([] : List Str).map V.str)) := upd_same
        refine ⟨_, _, dp_str (s5 _ _ e4), dp_str e5, shp_str _ (fun z hz => lay z (List.mem_filter.mp hz).1), shp_str [] (fun z hz => by cases hz), _, rfl, ?_⟩
        rw [eqv_nil]
        have s15 := s12.trans (s4.trans s5)
        have eb : (nd.all fun z => decide (z ∈ ws)) = (nd.filter fun o => !decide (o ∈ ws)).isEmpty := by
          rw [Bool.eq_iff_iff, List.all_eq_true, List.isEmpty_iff, List.filter_eq_nil_iff]
          constructor
          · intro h a ha
            rw [h a ha]
            decide
          · intro h a ha
            have := h a ha
            simpa using this
        rw [eb] at q2
        cases eq : (nd.filter fun o => !decide (o ∈ ws)).isEmpty with
        | false =>
          rw [eq] at q2
          exact iteT (q2 _ s15)
        | true =>
          rw [eq] at q2
          have hl5 := SqL.of (K := K) ((s2.trans (s4.trans s5)) _ _ e1)
          refine iteF ⟨_, rfl, l, _, rfl, .inl hl5, rfl, flat_str _, _, rfl, l, _, rfl, .inl hl5, rfl, flat_str _, ?_⟩
          rw [inV_str, inV_str]
          have q3 := q2 _ s15
          refine ⟨rfl, _, rfl, ?_⟩
          have ed : decide (V.bl (decide (("lock" : Str) ∈ ws)) = V.bl (decide (("unlock" : Str) ∈ ws))) = (decide (("lock" : Str) ∈ ws) == decide (("unlock" : Str) ∈ ws)) := by
            generalize decide (("lock" : Str) ∈ ws) = a
            generalize decide (("unlock" : Str) ∈ ws) = b
            cases a <;> cases b <;> rfl
          show if (decide (V.bl (decide (("lock" : Str) ∈ ws)) = V.bl (decide (("unlock" : Str) ∈ ws)))) = true then _ else _
          rw [ed]
          replace q3 : Q (.bl ((decide (("lock" : Str) ∈ ws) == decide (("unlock" : Str) ∈ ws)) && lah ws "lock" "unlock")) (upd H4 m (.lst [])) := q3
          cases eq2 : (decide (("lock" : Str) ∈ ws) == decide (("unlock" : Str) ∈ ws)) with
          | false =>
            rw [eq2] at q3
            exact iteF q3
          | true =>
            rw [eq2] at q3
            exact iteT ⟨_, rfl, l, ws, _, _, rfl, hl5, q3⟩
/-! ### the law's three -/
structure Fit (P : Program) (w : World) (K : PySem.W.Frag) (mg : Str → Option Value) (base : Heap) (fF fA : Addr) (dF dA : FuncData) : Prop where
  GF : FnOk P w K mg base CX0 2 fF dF ["text", "needed", "free"] spFits
  kF : PySem.W.keepIn K (.ref fF) = true
  bF : L2.Binds K dF ["text", "needed", "free"] []
  gF : mg "_law_fits" = some (.ref fF)
  GA : FnOk P w K mg base CX0 1 fA dA ["order", "one", "other"] (spLah K)
  kA : PySem.W.keepIn K (.ref fA) = true
  bA : L2.Binds K dA ["order", "one", "other"] []
  gA : mg "_law_ahead" = some (.ref fA)
def spLis (g : List Str → Bool) : Sp := fun vs H Q _ => ∃ (z : Str), vs = [.str z] ∧ z.length ≤ 500 ∧ ∀ H', Same H H' → Q (.bl (g (Txt.split z " "))) H'
theorem ok_lw {f fF fA : Addr} {fd dF dA : FuncData} (F : Fun K "_law_is_writer" "_law_is_writer" s_law_is_writer f fd) (T : Fit P w K mg base fF fA dF dA) : FnOk P w K mg base CX0 3 f fd ["text"] (spLis isW) := by
  refine F.ok sc_law_is_writer (fun vs H Q E h => ?_) (fun cdv A outer s H vs Q E hr h => ?_)
  · obtain ⟨z, rfl, _⟩ := h
    rfl
  · obtain ⟨z, rfl, hz, q⟩ := h
    have hr1 : Room 1 _ := hr.mono (by decide)
    refine ⟨_, pss_cons (ps_if (pt_not (pt_val (pe_call T.GF hr (by rfl) T.gF T.kF T.bF .nil pass0 (pa_cons (pv 0) (pa_cons (pe_lst (pa_cons pe_str (pa_cons pe_str (pa_cons pe_str pa_nil)))) (pa_cons (pe_lst (pa_cons pe_str (pa_cons pe_str (pa_cons pe_str pa_nil)))) pa_nil)))))) (pss_one (ps_ret pe_bl)) pss_nil)
      (pss_cons (ps_set (i := 1) sc_law_is_writer.nd rfl (Or.inl rfl) (pe_split (pv 0) pe_str))
      (pss_one (ps_ret (pe_and (pe_call T.GA hr1 (by rfl) T.gA T.kA T.bA .nil pass0 (pa_cons (pv 1) (pa_cons pe_str (pa_cons pe_str pa_nil)))) (pe_one (pe_call T.GA hr1 (by rfl) T.gA T.kA T.bA .nil pass0 (pa_cons (pv 1) (pa_cons pe_str (pa_cons pe_str pa_nil))))))))), ?_⟩
    refine ⟨_, rfl, (by show 3 ≤ sizeLine; decide), fun a na => ?_⟩
    have s1 := same_upd (o := .lst [V.str "change", V.str "enter", V.str "commit"]) na
    refine ⟨(by show 3 ≤ sizeLine; decide), fun b nb => ?_⟩
    have s2 := same_upd (o := .lst [V.str "clear", V.str "lock", V.str "unlock"]) nb
    refine ⟨z, a, b, ["change", "enter", "commit"], ["clear", "lock", "unlock"], rfl, hz, s2 _ _ upd_same, upd_same, by decide, by decide +kernel, fun H3 s3 => ?_⟩
    have s13 := s1.trans (s2.trans s3)
    have q2 : ∀ H', Same H H' → Q (.bl (lawW (Txt.split z " "))) H' := fun H' s' => by rw [lawW_eq]; exact q H' s'
    unfold lawW at q2
    refine ⟨_, rfl, ?_⟩
    cases c : fitB (Txt.split z " ") ["change", "enter", "commit"] ["clear", "lock", "unlock"] with
    | false =>
      rw [c] at q2
      exact iteT (q2 _ s13)
    | true =>
      rw [c] at q2
      refine iteF ⟨_, rfl, ⟨z, rfl⟩, z, " ", rfl, rfl, by decide +kernel, Nat.le_trans (show z.length + 2 ≤ 502 by omega) (by decide), fun l nl => ?_⟩
      have s4 := same_upd (o := .lst ((Txt.split z " ").map V.str)) nl
      have hl := SqL.of (K := K) (upd_same (H := H3) (a := l) (o := .lst ((Txt.split z " ").map V.str)))
      have q3 := q2 _ (s13.trans s4)
      refine ⟨_, rfl, l, _, _, _, rfl, hl, _, rfl, ?_⟩
      cases c2 : lah (Txt.split z " ") "change" "enter" with
      | false =>
        rw [c2] at q3
        exact iteF q3
      | true =>
        rw [c2] at q3
        exact iteT ⟨_, rfl, l, _, _, _, rfl, hl, q3⟩
theorem bool_eqv (a b : Bool) : decide (V.bl a = V.bl b) = (a == b) := by cases a <;> cases b <;> rfl
theorem ok_lc {f fF fA : Addr} {fd dF dA : FuncData} (F : Fun K "_law_is_cleaner" "_law_is_cleaner" s_law_is_cleaner f fd) (T : Fit P w K mg base fF fA dF dA) : FnOk P w K mg base CX0 3 f fd ["text"] (spLis isC) := by
  refine F.ok sc_law_is_cleaner (fun vs H Q E h => ?_) (fun cdv A outer s H vs Q E hr h => ?_)
  · obtain ⟨z, rfl, _⟩ := h
    rfl
  · obtain ⟨z, rfl, hz, q⟩ := h
    have hr1 : Room 1 _ := hr.mono (by decide)
    refine ⟨_, pss_cons (ps_if (pt_not (pt_val (pe_call T.GF hr (by rfl) T.gF T.kF T.bF .nil pass0 (pa_cons (pv 0) (pa_cons (pe_lst (pa_cons pe_str (pa_cons pe_str pa_nil))) (pa_cons (pe_lst (pa_cons pe_str (pa_cons pe_str (pa_cons pe_str (pa_cons pe_str pa_nil))))) pa_nil)))))) (pss_one (ps_ret pe_bl)) pss_nil)
      (pss_cons (ps_set (i := 1) sc_law_is_cleaner.nd rfl (Or.inl rfl) (pe_split (pv 0) pe_str))
      (pss_cons (ps_if (PW.pt (pw_or (pt_not (pt_val (pe_call T.GA hr1 (by rfl) T.gA T.kA T.bA .nil pass0 (pa_cons (pv 1) (pa_cons pe_str (pa_cons pe_str pa_nil)))))) (pw_or1 (pt_not (pt_val (pe_call T.GA hr1 (by rfl) T.gA T.kA T.bA .nil pass0 (pa_cons (pv 1) (pa_cons pe_str (pa_cons pe_str pa_nil))))))))) (pss_one (ps_ret pe_bl)) pss_nil)
      (pss_one (ps_ret (pe_call T.GA hr1 (by rfl) T.gA T.kA T.bA .nil pass0 (pa_cons (pv 1) (pa_cons pe_str (pa_cons pe_str pa_nil)))))))), ?_⟩
    refine ⟨_, rfl, (by show 2 ≤ sizeLine; decide), fun a na => ?_⟩
    have s1 := same_upd (o := .lst [V.str "look", V.str "set"]) na
    refine ⟨(by show 4 ≤ sizeLine; decide), fun b nb => ?_⟩
    have s2 := same_upd (o := .lst [V.str "remove", V.str "again", V.str "lock", V.str "unlock"]) nb
    refine ⟨z, a, b, ["look", "set"], ["remove", "again", "lock", "unlock"], rfl, hz, s2 _ _ upd_same, upd_same, by decide, by decide +kernel, fun H3 s3 => ?_⟩
    have s13 := s1.trans (s2.trans s3)
    have q2 : ∀ H', Same H H' → Q (.bl (lawC (Txt.split z " "))) H' := fun H' s' => by rw [lawC_eq]; exact q H' s'
    unfold lawC at q2
    refine ⟨_, rfl, ?_⟩
    cases c : fitB (Txt.split z " ") ["look", "set"] ["remove", "again", "lock", "unlock"] with
    | false =>
      rw [c] at q2
      exact iteT (q2 _ s13)
    | true =>
      rw [c] at q2
      refine iteF ⟨_, rfl, ⟨z, rfl⟩, z, " ", rfl, rfl, by decide +kernel, Nat.le_trans (show z.length + 2 ≤ 502 by omega) (by decide), fun l nl => ?_⟩
      have s4 := same_upd (o := .lst ((Txt.split z " ").map V.str)) nl
      have hl := SqL.of (K := K) (upd_same (H := H3) (a := l) (o := .lst ((Txt.split z " ").map V.str)))
      have q3 := q2 _ (s13.trans s4)
      refine ⟨_, rfl, l, _, _, _, rfl, hl, _, rfl, ?_⟩
      cases c2 : lah (Txt.split z " ") "look" "set" with
      | false =>
        rw [c2] at q3
        exact iteT (iteT q3)
      | true =>
        rw [c2] at q3
        refine iteF ⟨_, rfl, l, _, _, _, rfl, hl, _, rfl, ?_⟩
        cases c3 : lah (Txt.split z " ") "remove" "look" with
        | false =>
          rw [c3] at q3
          exact iteT q3
        | true =>
          rw [c3] at q3
          exact iteF ⟨_, rfl, l, _, _, _, rfl, hl, q3⟩
theorem ok_lr {f fF fA : Addr} {fd dF dA : FuncData} (F : Fun K "_law_is_reader" "_law_is_reader" s_law_is_reader f fd) (T : Fit P w K mg base fF fA dF dA) : FnOk P w K mg base CX0 3 f fd ["text"] (spLis isR) := by
  refine F.ok sc_law_is_reader (fun vs H Q E h => ?_) (fun cdv A outer s H vs Q E hr h => ?_)
  · obtain ⟨z, rfl, _⟩ := h
    rfl
  · obtain ⟨z, rfl, hz, q⟩ := h
    have hr1 : Room 1 _ := hr.mono (by decide)
    refine ⟨_, pss_cons (ps_if (pt_not (pt_val (pe_call T.GF hr (by rfl) T.gF T.kF T.bF .nil pass0 (pa_cons (pv 0) (pa_cons (pe_lst (pa_cons pe_str (pa_cons pe_str (pa_cons pe_str pa_nil)))) (pa_cons (pe_lst (pa_cons pe_str (pa_cons pe_str (pa_cons pe_str pa_nil)))) pa_nil)))))) (pss_one (ps_ret pe_bl)) pss_nil)
      (pss_cons (ps_set (i := 1) sc_law_is_reader.nd rfl (Or.inl rfl) (pe_split (pv 0) pe_str))
      (pss_cons (ps_if (PW.pt (pw_or (pt_cmpR op_eq (pe_cmpR (Vx.op_inK (K := K) rfl) pe_str (pv 1) (by rfl)) (pe_cmpR (Vx.op_inK (K := K) rfl) pe_str (pv 1) (by rfl)) (nomark _)) (pw_or1 (pt_cmpR op_ne (pe_cmpR (Vx.op_inK (K := K) rfl) pe_str (pv 1) (by rfl)) (pe_cmpR (Vx.op_inK (K := K) rfl) pe_str (pv 1) (by rfl)) (nomark _))))) (pss_one (ps_ret pe_bl)) pss_nil)
      (pss_one (ps_ret (pe_and (pe_cmpR op_eq (pe_ix ix_list (pv 1) (pe_un un_neg pe_int) (fun _ _ => rfl)) pe_str (nomark _)) (pe_one (pe_call T.GA hr1 (by rfl) T.gA T.kA T.bA .nil pass0 (pa_cons (pv 1) (pa_cons pe_str (pa_cons pe_str pa_nil)))))))))), ?_⟩
    refine ⟨_, rfl, (by show 3 ≤ sizeLine; decide), fun a na => ?_⟩
    have s1 := same_upd (o := .lst [V.str "entry", V.str "mark", V.str "page"]) na
    refine ⟨(by show 3 ≤ sizeLine; decide), fun b nb => ?_⟩
    have s2 := same_upd (o := .lst [V.str "hold", V.str "take", V.str "tell"]) nb
    refine ⟨z, a, b, ["entry", "mark", "page"], ["hold", "take", "tell"], rfl, hz, s2 _ _ upd_same, upd_same, by decide, by decide +kernel, fun H3 s3 => ?_⟩
    have s13 := s1.trans (s2.trans s3)
    have q2 : ∀ H', Same H H' → Q (.bl (lawR (Txt.split z " "))) H' := fun H' s' => by rw [lawR_eq]; exact q H' s'
    unfold lawR at q2
    refine ⟨_, rfl, ?_⟩
    cases c : fitB (Txt.split z " ") ["entry", "mark", "page"] ["hold", "take", "tell"] with
    | false =>
      rw [c] at q2
      exact iteT (q2 _ s13)
    | true =>
      rw [c] at q2
      refine iteF ⟨_, rfl, ⟨z, rfl⟩, z, " ", rfl, rfl, by decide +kernel, Nat.le_trans (show z.length + 2 ≤ 502 by omega) (by decide), fun l nl => ?_⟩
      have s4 := same_upd (o := .lst ((Txt.split z " ").map V.str)) nl
      have hl := SqL.of (K := K) (upd_same (H := H3) (a := l) (o := .lst ((Txt.split z " ").map V.str)))
      have q3 := q2 _ (s13.trans s4)
      generalize hws : Txt.split z " " = ws at q3 hl c s4
      obtain ⟨ini, x, rfl⟩ : ∃ ini x, ws = ini ++ [x] := by
        rcases List.eq_nil_or_concat ws with e | e
        · rw [e] at c
          exact absurd c (by decide +kernel)
        · obtain ⟨i, z, e⟩ := e
          exact ⟨i, z, by rw [e, List.concat_eq_append]⟩
      have ea : atI ((ini ++ [x]).map V.str) (-1) = some (.str x) := by
        rw [List.map_append]
        exact atI_last _ _
      have el : decide ((ini ++ [x]).getLast? = some ("page" : Str)) = decide (V.str x = V.str "page") := by
        rw [show (ini ++ [x]).getLast? = some x from by simp]
        by_cases k : x = "page"
        · rw [decide_eq_true (by rw [k]), decide_eq_true (by rw [k])]
        · rw [decide_eq_false (fun y => k (Option.some.inj y)), decide_eq_false (fun y => k (by injection y))]
      rw [el] at q3
      refine ⟨_, rfl, l, _, rfl, .inl hl, rfl, flat_str _, _, rfl, l, _, rfl, .inl hl, rfl, flat_str _, ?_⟩
      rw [inV_str, inV_str]
      refine ⟨rfl, _, rfl, ?_⟩
      show if decide (V.bl (decide (("hold" : Str) ∈ ini ++ [x])) = V.bl (decide (("take" : Str) ∈ ini ++ [x]))) = true then _ else _
      rw [bool_eqv]
      cases c2 : (decide (("hold" : Str) ∈ ini ++ [x]) == decide (("take" : Str) ∈ ini ++ [x])) with
      | true =>
        rw [c2] at q3
        exact iteT (iteT q3)
      | false =>
        rw [c2] at q3
        refine iteF ⟨_, rfl, l, _, rfl, .inl hl, rfl, flat_str _, _, rfl, l, _, rfl, .inl hl, rfl, flat_str _, ?_⟩
        rw [inV_str, inV_str]
        refine ⟨rfl, _, rfl, ?_⟩
        show if (!decide (V.bl (decide (("take" : Str) ∈ ini ++ [x])) = V.bl (decide (("tell" : Str) ∈ ini ++ [x])))) = true then _ else _
        rw [bool_eqv]
        cases c3 : (decide (("take" : Str) ∈ ini ++ [x]) == decide (("tell" : Str) ∈ ini ++ [x])) with
        | false =>
          rw [c3] at q3
          exact iteT q3
        | true =>
          rw [c3] at q3
          refine iteF ⟨_, rfl, _, rfl, l, _, _, _, rfl, rfl, hl, ea, rfl, _, rfl, ?_⟩
          cases c4 : decide (V.str x = V.str "page") with
          | false =>
            rw [c4] at q3
            exact iteF q3
          | true =>
            rw [c4] at q3
            exact iteT ⟨_, rfl, l, _, _, _, rfl, hl, q3⟩
end
end Toy
set_option Elab.async false
set_option linter.all false
set_option maxRecDepth 100000
set_option maxHeartbeats 4000000
namespace Toy
open PySem PySem.Spec PyProof.Rows L2
def strg : List Str := ["clear", "lock", "unlock", "again", "remove", "hold", "tell", "", "Lock", "page", "enter", "set"]
def Sml (us : List Str) : Prop := ∀ z ∈ us, z.length ≤ 6
theorem strg_sml : Sml strg := by
  have : strg.all (fun z => decide (z.length ≤ 6)) = true := by decide +kernel
  exact fun z hz => of_decide_eq_true (List.all_eq_true.mp this z hz)
theorem ord_of {G : Hp} {p c l : Addr} {xs : List V} {us : List Str} (_ : Same G (upd G l (.lst xs))) (e : xs = us.map V.str) (n : l ≠ p ∧ l ≠ c) : Ord (upd G l (.lst xs)) p c l us := ⟨by rw [upd_same, e], n⟩
theorem Sml.mix {us : List Str} {z : Str} (h : Sml us) (hz : z.length ≤ 6) (i j : Nat) : Sml (us.take i ++ [z] ++ us.drop j) := fun x hx => by
  rcases List.mem_append.mp hx with m | m
  · rcases List.mem_append.mp m with m | m
    · exact h x (List.mem_of_mem_take m)
    · rw [List.mem_singleton.mp m]
      exact hz
  · exact h x (List.mem_of_mem_drop m)
theorem Sml.cut {us : List Str} (h : Sml us) (i j : Nat) : Sml (us.take i ++ us.drop j) := fun x hx => by
  rcases List.mem_append.mp hx with m | m
  · exact h x (List.mem_of_mem_take m)
  · exact h x (List.mem_of_mem_drop m)
section
variable {P : Program} {w : World} {K : PySem.W.Frag} {mg : Str → Option Value} {base : Heap}
def spSpoilt : Sp := fun vs H Q _ => ∃ (p c l : Addr) (ws : List Str), vs = [.ref p, .ref l] ∧ Pot H p c ∧ Ord H p c l ws ∧ ws.length ≤ 7 ∧ Sml ws ∧
  ∀ H' l' us, Pot H' p c → Kept p c H H' → Ord H' p c l' us → us.length ≤ 10 → Sml us → Q (.ref l') H'
theorem ok_spoilt {f fD : Addr} {fd dD : FuncData} (F : Fun K "_law_spoilt" "_law_spoilt" s_law_spoilt f fd) (D : Drw P w K mg base fD dD) (ml : mg "len" = none) (mr : mg "range" = none) : FnOk P w K mg base CX0 2 f fd ["pot", "order"] spSpoilt := by
  refine F.ok sc_law_spoilt (fun vs H Q E h => ?_) (fun cdv A outer s H vs Q E hr h => ?_)
  · obtain ⟨p, c, l, ws, rfl, _⟩ := h
    rfl
  · obtain ⟨p, c, l, ws, rfl, hP, hO, h7, hs, q⟩ := h
    refine ⟨_, pss_cons (ps_set (i := 2) sc_law_spoilt.nd rfl (Or.inl rfl) (pe_lst (pa_cons pe_str (pa_cons pe_str (pa_cons pe_str (pa_cons pe_str (pa_cons pe_str (pa_cons pe_str (pa_cons pe_str (pa_cons pe_str (pa_cons pe_str (pa_cons pe_str (pa_cons pe_str (pa_cons pe_str pa_nil))))))))))))))
      (pss_cons (ps_for PassesOwn.never rfl (pi_range1 (by rfl) mr (pa_cons (pe_call D.G hr (by rfl) D.g D.k D.b .nil pass0 (pa_cons (pv 0) (pa_cons pe_int pa_nil))) pa_nil)) (pg_name (i := 3) sc_law_spoilt.nd rfl (Or.inl rfl))
        (pss_cons (ps_set (i := 4) sc_law_spoilt.nd rfl (Or.inl rfl) (pe_call D.G hr (by rfl) D.g D.k D.b .nil pass0 (pa_cons (pv 0) (pa_cons pe_int pa_nil))))
        (pss_cons (ps_set (i := 5) sc_law_spoilt.nd rfl (Or.inl rfl) (pe_call D.G hr (by rfl) D.g D.k D.b .nil pass0 (pa_cons (pv 0) (pa_cons (pe_op op_add (pe_callB call_len_seq (by rfl) ml PySem.boot_len (pa_cons (pv 1) pa_nil)) pe_int) pa_nil))))
        (pss_cons (ps_set (i := 6) sc_law_spoilt.nd rfl (Or.inl rfl) (pe_call D.G hr (by rfl) D.g D.k D.b .nil pass0 (pa_cons (pv 0) (pa_cons (pe_op op_add (pe_callB call_len_seq (by rfl) ml PySem.boot_len (pa_cons (pv 1) pa_nil)) pe_int) pa_nil))))
        (pss_one (ps_if (pt_cmpR op_eq (pv 4) pe_int (nomark _))
          (pss_one (ps_set (i := 1) sc_law_spoilt.nd rfl (Or.inl rfl) (pe_op op_cat (pe_op op_cat (pe_slice sl_list (pv 1) po_none (po_some (pv 5))) (pe_lst (pa_cons (pe_ix ix_list (pv 2) (pe_call D.G hr (by rfl) D.g D.k D.b .nil pass0 (pa_cons (pv 0) (pa_cons pe_int pa_nil))) (fun _ _ => rfl)) pa_nil))) (pe_slice sl_list (pv 1) (po_some (pv 5)) po_none))))
          (pss_one (ps_if (pt_cmpR op_eq (pv 4) pe_int (nomark _))
            (pss_one (ps_set (i := 1) sc_law_spoilt.nd rfl (Or.inl rfl) (pe_op op_cat (pe_slice sl_list (pv 1) po_none (po_some (pv 5))) (pe_slice sl_list (pv 1) (po_some (pe_op op_add (pv 5) pe_int)) po_none))))
            (pss_one (ps_if (PW.pt (pw_and (pt_cmpR op_lt (pv 5) (pe_callB call_len_seq (by rfl) ml PySem.boot_len (pa_cons (pv 1) pa_nil)) (nomark _)) (pw_and1 (pt_cmpR op_lt (pv 6) (pe_callB call_len_seq (by rfl) ml PySem.boot_len (pa_cons (pv 1) pa_nil)) (nomark _)))))
              (pss_cons (ps_set (i := 7) sc_law_spoilt.nd rfl (Or.inl rfl) (pe_ix ix_list (pv 1) (pv 5) (fun _ _ => rfl)))
              (pss_cons (ps_set (i := 1) sc_law_spoilt.nd rfl (Or.inl rfl) (pe_op op_cat (pe_op op_cat (pe_slice sl_list (pv 1) po_none (po_some (pv 5))) (pe_lst (pa_cons (pe_ix ix_list (pv 1) (pv 6) (fun _ _ => rfl)) pa_nil))) (pe_slice sl_list (pv 1) (po_some (pe_op op_add (pv 5) pe_int)) po_none)))
              (pss_one (ps_set (i := 1) sc_law_spoilt.nd rfl (Or.inl rfl) (pe_op op_cat (pe_op op_cat (pe_slice sl_list (pv 1) po_none (po_some (pv 6))) (pe_lst (pa_cons (pv 7) pa_nil))) (pe_slice sl_list (pv 1) (po_some (pe_op op_add (pv 6) pe_int)) po_none))))))
              pss_nil))))))))))
      (pss_one (ps_ret (pv 1)))), ?_⟩
    refine ⟨(by show 12 ≤ sizeLine; decide), fun s ns => ?_⟩
    have s0 := same_upd (o := .lst (strg.map V.str)) ns
    have O0 : Ord (upd H s (.lst (strg.map V.str))) p c s strg := ⟨upd_same, hP.live ns⟩
    refine ⟨_, rfl, p, c, _, rfl, hP.same s0, by decide, by decide, fun H1 r P1 k1 r0 r1 => ?_⟩
    obtain ⟨n, rfl⟩ : ∃ k : Nat, r = k := ⟨r.toNat, by omega⟩
    refine ⟨_, rfl, by omega, by omega, for_range (n := n) (fun i σ H' => ∃ l us v3 v4 v5 v6 v7, σ = [some (.ref p), some (.ref l), some (.ref s), v3, v4, v5, v6, v7] ∧ Pot H' p c ∧ Kept p c H H' ∧ Ord H' p c s strg ∧ Ord H' p c l us ∧ us.length ≤ 7 + i ∧ Sml us) ⟨l, ws, _, _, _, _, _, rfl, P1, (Kept.of_same s0).trans k1, O0.kept k1, (hO.kept (Kept.of_same s0)).kept k1, by omega, hs⟩ ?_ ?_⟩
    · rintro i σ H2 hi ⟨l, us, v3, v4, v5, v6, v7, rfl, P2, k2, S2, O2, l2, m2⟩
      refine ⟨_, rfl, p, c, _, rfl, P2, by decide, by decide, fun H3 w P3 k3 w0 w1 => ?_⟩
      have O3 := O2.kept k3
      refine ⟨_, rfl, _, rfl, l, _, rfl, .inl (SqL.of O3.1), _, _, rfl, rfl, p, c, _, rfl, P3, by omega, by rw [List.length_map]; omega, fun H4 a P4 k4 a0 a1 => ?_⟩
      have O4 := O3.kept k4
      refine ⟨_, rfl, _, rfl, l, _, rfl, .inl (SqL.of O4.1), _, _, rfl, rfl, p, c, _, rfl, P4, by omega, by rw [List.length_map]; omega, fun H5 b P5 k5 b0 b1 => ?_⟩
      have O5 := O4.kept k5
      have k25 := k2.trans (k3.trans (k4.trans k5))
      have S5 := ((S2.kept k3).kept k4).kept k5
      rw [List.length_map] at a1 b1
      obtain ⟨a, rfl⟩ : ∃ k : Nat, a = k := ⟨a.toNat, by omega⟩
      obtain ⟨b, rfl⟩ : ∃ k : Nat, b = k := ⟨b.toNat, by omega⟩
      have line : sizeLine = 16777216 := rfl
      have small : (us.map V.str).length ≤ 10 := by rw [List.length_map]; omega
      refine ⟨_, rfl, rfl, _, rfl, ?_⟩
      refine ite2 (fun _ => ?_) (fun _ => ?_)
      · -- a word put in
        refine ⟨_, rfl, _, rfl, _, rfl, l, _, rfl, SqL.of O5.1, fun p1 n1 => ?_⟩
        have s1 := same_upd (o := .lst (cutV (us.map V.str) none (some (a : Int)))) n1
        have P6 := P5.same s1
        have lv := P5.live n1
        refine ⟨_, rfl, _, rfl, p, c, _, rfl, P6, by decide, by decide, fun H7 g P7 k7 g0 g1 => ?_⟩
        obtain ⟨g, rfl⟩ : ∃ k : Nat, g = k := ⟨g.toNat, by omega⟩
        have hg : g < strg.length := by
          have : strg.length = 12 := rfl
          omega
        have S7 := (S5.kept (Kept.of_same s1)).kept k7
        have O7 := (O5.kept (Kept.of_same s1)).kept k7
        have gg : (strg.map V.str)[g]? = some (.str strg[g]) := by rw [List.getElem?_map, List.getElem?_eq_getElem hg]; rfl
        refine ⟨s, _, _, _, rfl, rfl, SqL.of S7.1, atI_nat gg, (by show 1 ≤ sizeLine; decide), fun p2 n2 => ?_⟩
        have s2 := same_upd (o := .lst [V.str strg[g]]) n2
        refine ⟨p1, p2, _, _, rfl, rfl, s2 _ _ (k7 _ _ lv.1 lv.2 upd_same), upd_same, ?_, fun p3 n3 => ?_⟩
        · have := cutV_length (us.map V.str) none (some (a : Int))
          rw [List.length_singleton]
          omega
        have s3 := same_upd (o := .lst (cutV (us.map V.str) none (some (a : Int)) ++ [V.str strg[g]])) n3
        have O9 := O7.kept (Kept.of_same (s2.trans s3))
        refine ⟨_, rfl, _, rfl, _, rfl, l, _, rfl, SqL.of O9.1, fun p4 n4 => ?_⟩
        have s4 := same_upd (o := .lst (cutV (us.map V.str) (some (a : Int)) none)) n4
        refine ⟨p3, p4, _, _, rfl, rfl, s4 _ _ upd_same, upd_same, ?_, fun p5 n5 => ?_⟩
        · have := cutV_length (us.map V.str) none (some (a : Int))
          have := cutV_length (us.map V.str) (some (a : Int)) none
          rw [List.length_append, List.length_singleton]
          omega
        have s5 := same_upd (o := .lst (cutV (us.map V.str) none (some (a : Int)) ++ [V.str strg[g]] ++ cutV (us.map V.str) (some (a : Int)) none)) n5
        have s24 := s2.trans (s3.trans s4)
        have P9 := P7.same s24
        refine ⟨p5, us.take a ++ [strg[g]] ++ us.drop a, _, _, _, _, _, rfl, P9.same s5, k25.trans ((Kept.of_same s1).trans (k7.trans (Kept.of_same (s24.trans s5)))), S7.kept (Kept.of_same (s24.trans s5)), ⟨?_, P9.live n5⟩, ?_, m2.mix (strg_sml _ (List.getElem_mem hg)) a a⟩
        · rw [upd_same, cut_to, cut_from, List.map_append, List.map_append, List.map_take, List.map_drop]
          rfl
        · rw [List.length_append, List.length_append, List.length_take, List.length_drop, List.length_singleton]
          omega
      · refine ⟨_, rfl, rfl, _, rfl, ?_⟩
        refine ite2 (fun _ => ?_) (fun _ => ?_)
        · -- a word taken out
          refine ⟨_, rfl, _, rfl, _, rfl, l, _, rfl, SqL.of O5.1, fun p1 n1 => ?_⟩
          have s1 := same_upd (o := .lst (cutV (us.map V.str) none (some (a : Int)))) n1
          have O6 := O5.kept (Kept.of_same s1)
          have ha1 : (a : Int) + 1 = ((a + 1 : Nat) : Int) := by omega
          refine ⟨_, rfl, _, rfl, _, _, rfl, rfl, _, rfl, l, _, rfl, SqL.of O6.1, fun p2 n2 => ?_⟩
          have s2 := same_upd (o := .lst (cutV (us.map V.str) (some ((a : Int) + 1)) none)) n2
          refine ⟨p1, p2, _, _, rfl, rfl, s2 _ _ upd_same, upd_same, ?_, fun p3 n3 => ?_⟩
          · have := cutV_length (us.map V.str) none (some (a : Int))
            have := cutV_length (us.map V.str) (some ((a : Int) + 1)) none
            omega
          have s3 := same_upd (o := .lst (cutV (us.map V.str) none (some (a : Int)) ++ cutV (us.map V.str) (some ((a : Int) + 1)) none)) n3
          have P7 := P5.same (s1.trans s2)
          have s13 := s1.trans (s2.trans s3)
          refine ⟨p3, us.take a ++ us.drop (a + 1), _, _, _, _, _, rfl, P7.same s3, k25.trans (Kept.of_same s13), S5.kept (Kept.of_same s13), ⟨?_, P7.live n3⟩, ?_, m2.cut a (a + 1)⟩
          · rw [upd_same, ha1, cut_to, cut_from, List.map_append, List.map_take, List.map_drop]
          · rw [List.length_append, List.length_take, List.length_drop]
            omega
        · refine ⟨_, rfl, _, rfl, l, _, rfl, .inl (SqL.of O5.1), _, _, rfl, rfl, _, rfl, ?_⟩
          refine ite2 (fun ha => ?_) (fun _ => iteF ⟨l, us, _, _, _, _, _, rfl, P5, k25, S5, O5, by omega, m2⟩)
          refine ⟨_, rfl, _, rfl, l, _, rfl, .inl (SqL.of O5.1), _, _, rfl, rfl, _, rfl, ?_⟩
          refine ite2 (fun hb => ?_) (fun _ => ⟨l, us, _, _, _, _, _, rfl, P5, k25, S5, O5, by omega, m2⟩)
          have ha2 : a < us.length := by
            have := of_decide_eq_true ha
            rw [List.length_map] at this
            omega
          have hb2 : b < us.length := by
            have := of_decide_eq_true hb
            rw [List.length_map] at this
            omega
          have ga : (us.map V.str)[a]? = some (.str us[a]) := by rw [List.getElem?_map, List.getElem?_eq_getElem ha2]; rfl
          have gb : (us.map V.str)[b]? = some (.str us[b]) := by rw [List.getElem?_map, List.getElem?_eq_getElem hb2]; rfl
          have ha1 : (a : Int) + 1 = ((a + 1 : Nat) : Int) := by omega
          have hb1 : (b : Int) + 1 = ((b + 1 : Nat) : Int) := by omega
          refine ⟨_, rfl, _, rfl, l, _, _, _, rfl, rfl, SqL.of O5.1, atI_nat ga, ?_⟩
          refine ⟨_, rfl, _, rfl, _, rfl, l, _, rfl, SqL.of O5.1, fun p1 n1 => ?_⟩
          have s1 := same_upd (o := .lst (cutV (us.map V.str) none (some (a : Int)))) n1
          have O6 := O5.kept (Kept.of_same s1)
          refine ⟨_, rfl, _, rfl, l, _, _, _, rfl, rfl, SqL.of O6.1, atI_nat gb, (by show 1 ≤ sizeLine; decide), fun p2 n2 => ?_⟩
          have s2 := same_upd (o := .lst [V.str us[b]]) n2
          refine ⟨p1, p2, _, _, rfl, rfl, s2 _ _ upd_same, upd_same, ?_, fun p3 n3 => ?_⟩
          · have := cutV_length (us.map V.str) none (some (a : Int))
            rw [List.length_singleton]
            omega
          have s3 := same_upd (o := .lst (cutV (us.map V.str) none (some (a : Int)) ++ [V.str us[b]])) n3
          have O7 := O6.kept (Kept.of_same (s2.trans s3))
          refine ⟨_, rfl, _, rfl, _, _, rfl, rfl, _, rfl, l, _, rfl, SqL.of O7.1, fun p4 n4 => ?_⟩
          have s4 := same_upd (o := .lst (cutV (us.map V.str) (some ((a : Int) + 1)) none)) n4
          refine ⟨p3, p4, _, _, rfl, rfl, s4 _ _ upd_same, upd_same, ?_, fun p5 n5 => ?_⟩
          · have := cutV_length (us.map V.str) none (some (a : Int))
            have := cutV_length (us.map V.str) (some ((a : Int) + 1)) none
            rw [List.length_append, List.length_singleton]
            omega
          have s5 := same_upd (o := .lst (cutV (us.map V.str) none (some (a : Int)) ++ [V.str us[b]] ++ cutV (us.map V.str) (some ((a : Int) + 1)) none)) n5
          have s14 := s1.trans (s2.trans (s3.trans s4))
          have s15 := s14.trans s5
          have P8 := P5.same s14
          have O8 := ord_of (us := us.take a ++ [us[b]] ++ us.drop (a + 1)) s5 (by rw [ha1, cut_to, cut_from, List.map_append, List.map_append, List.map_take, List.map_drop]; rfl) (P8.live n5)
          have m8 : Sml (us.take a ++ [us[b]] ++ us.drop (a + 1)) := m2.mix (m2 _ (List.getElem_mem hb2)) a (a + 1)
          have l8 : (us.take a ++ [us[b]] ++ us.drop (a + 1)).length = us.length := by
            rw [List.length_append, List.length_append, List.length_take, List.length_drop, List.length_singleton]
            omega
          have kz : us[a].length ≤ 6 := m2 _ (List.getElem_mem ha2)
          have P9 := P8.same s5
          have k9 := k25.trans (Kept.of_same s15)
          have S9 := S5.kept (Kept.of_same s15)
          generalize us.take a ++ [us[b]] ++ us.drop (a + 1) = u8 at O8 m8 l8
          have small8 : (u8.map V.str).length ≤ 10 := by rw [List.length_map]; omega
          refine ⟨_, rfl, _, rfl, _, rfl, p5, _, rfl, SqL.of O8.1, fun t1 n1 => ?_⟩
          have s1 := same_upd (o := .lst (cutV (u8.map V.str) none (some (b : Int)))) n1
          refine ⟨_, rfl, (by show 1 ≤ sizeLine; decide), fun t2 n2 => ?_⟩
          have s2 := same_upd (o := .lst [V.str us[a]]) n2
          refine ⟨t1, t2, _, _, rfl, rfl, s2 _ _ upd_same, upd_same, ?_, fun t3 n3 => ?_⟩
          · have := cutV_length (u8.map V.str) none (some (b : Int))
            rw [List.length_singleton]
            omega
          have s3 := same_upd (o := .lst (cutV (u8.map V.str) none (some (b : Int)) ++ [V.str us[a]])) n3
          have O9 := O8.kept (Kept.of_same (s1.trans (s2.trans s3)))
          refine ⟨_, rfl, _, rfl, _, _, rfl, rfl, _, rfl, p5, _, rfl, SqL.of O9.1, fun t4 n4 => ?_⟩
          have s4 := same_upd (o := .lst (cutV (u8.map V.str) (some ((b : Int) + 1)) none)) n4
          refine ⟨t3, t4, _, _, rfl, rfl, s4 _ _ upd_same, upd_same, ?_, fun t5 n5 => ?_⟩
          · have := cutV_length (u8.map V.str) none (some (b : Int))
            have := cutV_length (u8.map V.str) (some ((b : Int) + 1)) none
            rw [List.length_append, List.length_singleton]
            omega
          have s5 := same_upd (o := .lst (cutV (u8.map V.str) none (some (b : Int)) ++ [V.str us[a]] ++ cutV (u8.map V.str) (some ((b : Int) + 1)) none)) n5
          have s14 := s1.trans (s2.trans (s3.trans s4))
          have P10 := P9.same s14
          refine ⟨t5, u8.take b ++ [us[a]] ++ u8.drop (b + 1), _, _, _, _, _, rfl, P10.same s5, k9.trans (Kept.of_same (s14.trans s5)), S9.kept (Kept.of_same (s14.trans s5)), ⟨?_, P10.live n5⟩, ?_, m8.mix kz b (b + 1)⟩
          · rw [upd_same, hb1, cut_to, cut_from, List.map_append, List.map_append, List.map_take, List.map_drop]
            rfl
          · rw [List.length_append, List.length_append, List.length_take, List.length_drop, List.length_singleton]
            omega
    · rintro σ H2 ⟨l, us, v3, v4, v5, v6, v7, rfl, P2, k2, S2, O2, l2, m2⟩
      exact ⟨_, rfl, q H2 l us P2 k2 O2 (by omega) m2⟩
end
end Toy
set_option Elab.async false
set_option linter.all false
set_option maxRecDepth 100000
set_option maxHeartbeats 4000000
namespace Toy
open PySem PySem.Spec PyProof.Rows L2
theorem sum_le {ws : List Str} (h : Sml ws) : (ws.map (·.length)).sum ≤ 6 * ws.length := by
  induction ws with
  | nil => exact Nat.zero_le _
  | cons a r ih =>
    have ha := h a List.mem_cons_self
    have hr := ih fun z hz => h z (List.mem_cons_of_mem _ hz)
    rw [List.map_cons, List.sum_cons, List.length_cons]
    omega
theorem join_room {ws : List Str} (h : Sml ws) (n : ws.length ≤ 10) : (ws.map (·.length)).sum + ws.length * (" " : Str).length ≤ 16777216 := by
  have := sum_le h
  have e : (" " : Str).length = 1 := by decide +kernel
  rw [e]
  omega
def OddOk (K : PySem.W.Frag) (H : Hp) (v : V) : Prop := ∃ us, (∀ H', Same H H' → Val K H' v us) ∧ isW us = false ∧ isC us = false ∧ isR us = false
theorem odd_none {K : PySem.W.Frag} {H : Hp} {v : V} (h : ∀ H', Same H H' → NotStr K H' v) : OddOk K H v := ⟨[], fun H' s => .inr ⟨h H' s, rfl⟩, rfl, rfl, rfl⟩
section
variable {P : Program} {w : World} {K : PySem.W.Frag} {mg : Str → Option Value} {base : Heap}
def spLaw (K : PySem.W.Frag) : Sp := fun vs H Q _ => ∃ (a : Addr) (ns : List Int), vs = [.ref a] ∧ SqL K H a (ns.map V.int) ∧ ns.length ≤ 63 ∧ ∀ H', Q (.bl true) H'
structure Cal (P : Program) (w : World) (K : PySem.W.Frag) (mg : Str → Option Value) (base : Heap) (x : Str) (ps : List Str) (k : Nat) (sp : Sp) (f : Addr) (d : FuncData) : Prop where
  G : FnOk P w K mg base CX0 k f d ps sp
  k : PySem.W.keepIn K (.ref f) = true
  b : L2.Binds K d ps []
  g : mg x = some (.ref f)
structure Calls (P : Program) (w : World) (K : PySem.W.Frag) (mg : Str → Option Value) (base : Heap) (fP fD f1 f2 f3 f4 f5 f6 f7 f8 f9 f10 : Addr) (dP dD d1 d2 d3 d4 d5 d6 d7 d8 d9 d10 : FuncData) : Prop where
  pot : Cal P w K mg base "_law_pot" ["script"] 1 (spPot K) fP dP
  drw : Cal P w K mg base "_law_draw" ["pot", "many"] 1 spDraw fD dD
  ww : Cal P w K mg base "_law_writer_words" ["pot"] 4 (spWords WL) f1 d1
  cw : Cal P w K mg base "_law_cleaner_words" ["pot"] 4 (spWords CL) f2 d2
  rw' : Cal P w K mg base "_law_reader_words" ["pot"] 4 (spWords RL) f3 d3
  iw : Cal P w K mg base "is_writer" ["value"] 3 (spIs K isW) f4 d4
  ic : Cal P w K mg base "is_cleaner" ["value"] 3 (spIs K isC) f5 d5
  ir : Cal P w K mg base "is_reader" ["value"] 3 (spIs K isR) f6 d6
  sp : Cal P w K mg base "_law_spoilt" ["pot", "order"] 2 spSpoilt f7 d7
  lw : Cal P w K mg base "_law_is_writer" ["text"] 3 (spLis isW) f8 d8
  lc : Cal P w K mg base "_law_is_cleaner" ["text"] 3 (spLis isC) f9 d9
  lr : Cal P w K mg base "_law_is_reader" ["text"] 3 (spLis isR) f10 d10
structure Nm3 (mg : Str → Option Value) : Prop where
  range : mg "range" = none
  list : mg "list" = none
  tuple : mg "tuple" = none
theorem Cal.pe {x : Str} {ps : List Str} {k : Nat} {sp : Sp} {f : Addr} {d : FuncData} (c : Cal P w K mg base x ps k sp f d) : c = c := rfl
theorem ok_law {f fP fD f1 f2 f3 f4 f5 f6 f7 f8 f9 f10 : Addr} {fd dP dD d1 d2 d3 d4 d5 d6 d7 d8 d9 d10 : FuncData} (F : Fun K "law" "law" s_law f fd) (N : Nm3 mg) (Z : Calls P w K mg base fP fD f1 f2 f3 f4 f5 f6 f7 f8 f9 f10 dP dD d1 d2 d3 d4 d5 d6 d7 d8 d9 d10) :
    FnOk P w K mg base CX0 5 f fd ["script"] (spLaw K) := by
  refine F.ok sc_law (fun vs H Q E h => ?_) (fun cdv A outer s H vs Q E hr h => ?_)
  · obtain ⟨a, ns, rfl, _⟩ := h
    rfl
  · obtain ⟨a, ns, rfl, hS, hlen, q⟩ := h
    have hr1 : Room 1 _ := hr.mono (by decide)
    have hr2 : Room 2 _ := hr.mono (by decide)
    have hr3 : Room 3 _ := hr.mono (by decide)
    refine ⟨_, pss_cons (ps_set (i := 1) sc_law.nd rfl (Or.inl rfl) (pe_call Z.pot.G hr1 (by rfl) Z.pot.g Z.pot.k Z.pot.b .nil pass0 (pa_cons (pv 0) pa_nil)))
      (pss_cons (ps_set (i := 2) sc_law.nd rfl (Or.inl rfl) (pe_lst pa_nil))
      (pss_cons (ps_for PassesOwn.never rfl (pi_range1 (by rfl) N.range (pa_cons pe_int pa_nil)) (pg_name (i := 3) sc_law.nd rfl (Or.inl rfl))
        (pss_cons (ps_set (i := 4) sc_law.nd rfl (Or.inl rfl) (pe_call Z.drw.G hr1 (by rfl) Z.drw.g Z.drw.k Z.drw.b .nil pass0 (pa_cons (pv 1) (pa_cons pe_int pa_nil))))
        (C8.pss_cut (ps_if (pt_cmpR op_eq (pv 4) pe_int (nomark _)) (pss_one (ps_set (i := 2) sc_law.nd rfl (Or.inl rfl) (pe_call Z.ww.G hr (by rfl) Z.ww.g Z.ww.k Z.ww.b .nil pass0 (pa_cons (pv 1) pa_nil))))
          (pss_one (ps_if (pt_cmpR op_eq (pv 4) pe_int (nomark _)) (pss_one (ps_set (i := 2) sc_law.nd rfl (Or.inl rfl) (pe_call Z.cw.G hr (by rfl) Z.cw.g Z.cw.k Z.cw.b .nil pass0 (pa_cons (pv 1) pa_nil))))
            (pss_one (ps_set (i := 2) sc_law.nd rfl (Or.inl rfl) (pe_call Z.rw'.G hr (by rfl) Z.rw'.g Z.rw'.k Z.rw'.b .nil pass0 (pa_cons (pv 1) pa_nil)))))))
        (pss_cons (ps_set (i := 5) sc_law.nd rfl (Or.inl rfl) (pe_join pe_str (pv 2)))
        (C8.pss_cut (ps_if (pt_cmpR (op_neD hr.units) (pe_lst (pa_cons (pe_call Z.iw.G hr3 (by rfl) Z.iw.g Z.iw.k Z.iw.b .nil pass0 (pa_cons (pv 5) pa_nil)) (pa_cons (pe_call Z.ic.G hr3 (by rfl) Z.ic.g Z.ic.k Z.ic.b .nil pass0 (pa_cons (pv 5) pa_nil)) (pa_cons (pe_call Z.ir.G hr3 (by rfl) Z.ir.g Z.ir.k Z.ir.b .nil pass0 (pa_cons (pv 5) pa_nil)) pa_nil))))
            (pe_lst (pa_cons (pe_cmpR op_eq (pv 4) pe_int (nomark _)) (pa_cons (pe_cmpR op_eq (pv 4) pe_int (nomark _)) (pa_cons (pe_cmpR op_eq (pv 4) pe_int (nomark _)) pa_nil)))) (nomark _)) (pss_one ps_never) pss_nil)
        (pss_cons (ps_set (i := 6) sc_law.nd rfl (Or.inl rfl) (pe_join pe_str (pe_call Z.sp.G hr2 (by rfl) Z.sp.g Z.sp.k Z.sp.b .nil pass0 (pa_cons (pv 1) (pa_cons (pv 2) pa_nil)))))
        (pss_cons (ps_if (pt_cmpR op_ne (pe_call Z.iw.G hr3 (by rfl) Z.iw.g Z.iw.k Z.iw.b .nil pass0 (pa_cons (pv 6) pa_nil)) (pe_call Z.lw.G hr3 (by rfl) Z.lw.g Z.lw.k Z.lw.b .nil pass0 (pa_cons (pv 6) pa_nil)) (nomark _)) (pss_one ps_never) pss_nil)
        (pss_cons (ps_if (pt_cmpR op_ne (pe_call Z.ic.G hr3 (by rfl) Z.ic.g Z.ic.k Z.ic.b .nil pass0 (pa_cons (pv 6) pa_nil)) (pe_call Z.lc.G hr3 (by rfl) Z.lc.g Z.lc.k Z.lc.b .nil pass0 (pa_cons (pv 6) pa_nil)) (nomark _)) (pss_one ps_never) pss_nil)
        (pss_cons (ps_if (pt_cmpR op_ne (pe_call Z.ir.G hr3 (by rfl) Z.ir.g Z.ir.k Z.ir.b .nil pass0 (pa_cons (pv 6) pa_nil)) (pe_call Z.lr.G hr3 (by rfl) Z.lr.g Z.lr.k Z.lr.b .nil pass0 (pa_cons (pv 6) pa_nil)) (nomark _)) (pss_one ps_never) pss_nil)
        (pss_one (ps_if (PW.pt (pw_or (pt_val (pe_call Z.iw.G hr3 (by rfl) Z.iw.g Z.iw.k Z.iw.b .nil pass0 (pa_cons (pe_op op_add_str (pv 5) pe_str) pa_nil)))
          (pw_or (pt_val (pe_call Z.ic.G hr3 (by rfl) Z.ic.g Z.ic.k Z.ic.b .nil pass0 (pa_cons (pe_op op_add_str pe_str (pv 5)) pa_nil)))
          (pw_or (pt_val (pe_call Z.ir.G hr3 (by rfl) Z.ir.g Z.ir.k Z.ir.b .nil pass0 (pa_cons (pe_op op_add_str (pv 5) pe_str) pa_nil)))
          (pw_or1 (pt_val (pe_call Z.ir.G hr3 (by rfl) Z.ir.g Z.ir.k Z.ir.b .nil pass0 (pa_cons (pe_op op_add_str (pv 5) pe_str) pa_nil)))))))) (pss_one ps_never) pss_nil)))))))))))
      (pss_cons (ps_set (i := 7) sc_law.nd rfl (Or.inl rfl) (pe_ix ix_list (pe_lst (pa_cons pe_non (pa_cons pe_bl (pa_cons pe_int (pa_cons (pe_callTy call_list_of (by rfl) N.list (by decide +kernel) (pa_cons (pv 2) pa_nil)) (pa_cons (pe_callTy call_tuple_of (by rfl) N.tuple (by decide +kernel) (pa_cons (pv 2) pa_nil)) (pa_cons pe_str (pa_cons pe_str pa_nil))))))))
          (pe_call Z.drw.G hr1 (by rfl) Z.drw.g Z.drw.k Z.drw.b .nil pass0 (pa_cons (pv 1) (pa_cons pe_int pa_nil))) (fun _ _ => rfl)))
      (pss_one (ps_ret (pe_and (pe_not (pe_call Z.iw.G hr3 (by rfl) Z.iw.g Z.iw.k Z.iw.b .nil pass0 (pa_cons (pv 7) pa_nil))) (pe_and (pe_not (pe_call Z.ic.G hr3 (by rfl) Z.ic.g Z.ic.k Z.ic.b .nil pass0 (pa_cons (pv 7) pa_nil))) (pe_one (pe_not (pe_call Z.ir.G hr3 (by rfl) Z.ir.g Z.ir.k Z.ir.b .nil pass0 (pa_cons (pv 7) pa_nil))))))))))), ?_⟩
    refine ⟨_, rfl, a, ns, rfl, hS, hlen, fun H1 p c s1 p0 c0 P1 => ?_⟩
    refine ⟨Nat.zero_le _, fun l0 n0 => ?_⟩
    have s2 := same_upd (o := .lst []) n0
    refine ⟨4, rfl, by decide, by decide, for_range (n := 4) (fun i σ H' => ∃ l us v3 v4 v5 v6, σ = [some (.ref a), some (.ref p), some (.ref l), v3, v4, v5, v6, none] ∧ Pot H' p c ∧ Ord H' p c l us ∧ us.length ≤ 7) ⟨l0, [], _, _, _, _, rfl, P1.same s2, ⟨upd_same, P1.live n0⟩, Nat.zero_le _⟩ ?_ ?_⟩
    · rintro i σ H2 hi ⟨l, us, v3, v4, v5, v6, rfl, P2, O2, l2⟩
      refine ⟨_, rfl, p, c, _, rfl, P2, by decide, by decide, fun H3 r P3 k3 r0 r1 => ?_⟩
      refine ⟨fun σ' H' => ∃ l us, ∃ k : Nat, ∃ v3 v5 v6, σ' = [some (.ref a), some (.ref p), some (.ref l), v3, some (.int (k : Int)), v5, v6, none] ∧ k < 3 ∧ Good k us ∧ Pot H' p c ∧ Ord H' p c l us, ?_, ?_⟩
      · refine ⟨_, rfl, rfl, _, rfl, ?_⟩
        refine ite2 (fun e => ?_) (fun e => ?_)
        · have e0 : r = 0 := by
            have := of_decide_eq_true e
            injection this
          subst e0
          exact ⟨_, rfl, p, c, rfl, P3, fun H4 l4 w4 P4 k4 O4 m4 => ⟨l4, w4, 0, _, _, _, rfl, by decide, goodW _ m4, P4, O4⟩⟩
        · refine ⟨_, rfl, rfl, _, rfl, ?_⟩
          refine ite2 (fun e1 => ?_) (fun e1 => ?_)
          · have e0 : r = 1 := by
              have := of_decide_eq_true e1
              injection this
            subst e0
            exact ⟨_, rfl, p, c, rfl, P3, fun H4 l4 w4 P4 k4 O4 m4 => ⟨l4, w4, 1, _, _, _, rfl, by decide, goodC _ m4, P4, O4⟩⟩
          · have e0 : r = 2 := by
              have h0 : r ≠ 0 := fun z => e (by rw [z]; rfl)
              have h1 : r ≠ 1 := fun z => e1 (by rw [z]; rfl)
              omega
            subst e0
            exact ⟨_, rfl, p, c, rfl, P3, fun H4 l4 w4 P4 k4 O4 m4 => ⟨l4, w4, 2, _, _, _, rfl, by decide, goodR _ m4, P4, O4⟩⟩
      · rintro σ' H4 ⟨l, us, k, v3, v5, v6, rfl, hk, g, P4, O4⟩
        have len := g.len
        refine ⟨⟨_, rfl⟩, _, rfl, " ", l, us, rfl, rfl, .inl (SqL.of O4.1), join_room g.small (Nat.le_trans g.few (by decide)), ?_⟩
        rw [TL.join_eq]
        refine ⟨fun σ' H' => σ' = [some (.ref a), some (.ref p), some (.ref l), v3, some (.int (k : Int)), some (.str (Str.join " " us)), v6, none] ∧ Pot H' p c ∧ Ord H' p c l us, ?_, ?_⟩
        · have h5 : (Str.join " " us).length ≤ 500 := by omega
          refine ⟨_, rfl, _, _, rfl, .inl ⟨_, rfl, h5, rfl⟩, fun Ha sa => ⟨_, rfl, _, _, rfl, .inl ⟨_, rfl, h5, rfl⟩, fun Hb sb => ⟨_, rfl, _, _, rfl, .inl ⟨_, rfl, h5, rfl⟩, fun Hc sc => ⟨(by show 3 ≤ sizeLine; decide), fun d1 n1 => ?_⟩⟩⟩⟩
          have t1 := same_upd (o := .lst [V.bl (isW (Txt.split (Str.join " " us) " ")), V.bl (isC (Txt.split (Str.join " " us) " ")), V.bl (isR (Txt.split (Str.join " " us) " "))]) n1
          refine ⟨_, rfl, rfl, _, rfl, rfl, _, rfl, rfl, (by show 3 ≤ sizeLine; decide), fun d2 n2 => ?_⟩
          have t2 := same_upd (o := .lst [V.bl (decide (V.int (k : Int) = V.int 0)), V.bl (decide (V.int (k : Int) = V.int 1)), V.bl (decide (V.int (k : Int) = V.int 2))]) n2
          have sall := sa.trans (sb.trans (sc.trans (t1.trans t2)))
          refine ⟨.list [.bool (isW (Txt.split (Str.join " " us) " ")), .bool (isC (Txt.split (Str.join " " us) " ")), .bool (isR (Txt.split (Str.join " " us) " "))], .list [.bool (decide (V.int (k : Int) = V.int 0)), .bool (decide (V.int (k : Int) = V.int 1)), .bool (decide (V.int (k : Int) = V.int 2))],
            .lst (SqL.of (t2 _ _ upd_same)) (.cons (.bl _) (.cons (.bl _) (.cons (.bl _) .nil))), .lst (SqL.of upd_same) (.cons (.bl _) (.cons (.bl _) (.cons (.bl _) .nil))), rfl, rfl, _, rfl, ?_⟩
          have e : PyData.eqv (.list [.bool (isW (Txt.split (Str.join " " us) " ")), .bool (isC (Txt.split (Str.join " " us) " ")), .bool (isR (Txt.split (Str.join " " us) " "))]) (.list [.bool (decide (V.int (k : Int) = V.int 0)), .bool (decide (V.int (k : Int) = V.int 1)), .bool (decide (V.int (k : Int) = V.int 2))]) = true := by
            rw [g.cut, g.w, g.c, g.r]
            have hk3 : k = 0 ∨ k = 1 ∨ k = 2 := by omega
            rcases hk3 with rfl | rfl | rfl <;> rfl
          rw [e]
          exact iteF ⟨rfl, P4.same sall, O4.kept (Kept.of_same sall)⟩
        · rintro σ' H5 ⟨rfl, P5, O5⟩
          refine ⟨⟨_, rfl⟩, _, rfl, _, rfl, p, c, l, us, rfl, P5, O5, g.few, g.small, fun H6 l6 u6 P6 k6 O6 n6 m6 => ⟨" ", l6, u6, rfl, rfl, .inl (SqL.of O6.1), join_room m6 n6, ?_⟩⟩
          have O7 := O5.kept k6
          rw [TL.join_eq]
          have lz := join_len (n := 6) m6
          have hz : (Str.join " " u6).length ≤ 500 := by omega
          generalize Str.join " " u6 = z at hz
          refine ⟨_, rfl, _, _, rfl, .inl ⟨_, rfl, hz, rfl⟩, fun Ha sa => ⟨_, rfl, _, rfl, hz, fun Hb sb => ⟨rfl, _, rfl, ?_⟩⟩⟩
          rw [decide_eq_true (rfl : V.bl (isW (Txt.split z " ")) = V.bl (isW (Txt.split z " ")))]
          refine iteF ⟨_, rfl, _, _, rfl, .inl ⟨_, rfl, hz, rfl⟩, fun Hc sc => ⟨_, rfl, _, rfl, hz, fun Hd sd => ⟨rfl, _, rfl, ?_⟩⟩⟩
          rw [decide_eq_true (rfl : V.bl (isC (Txt.split z " ")) = V.bl (isC (Txt.split z " ")))]
          refine iteF ⟨_, rfl, _, _, rfl, .inl ⟨_, rfl, hz, rfl⟩, fun He se => ⟨_, rfl, _, rfl, hz, fun Hf sf => ⟨rfl, _, rfl, ?_⟩⟩⟩
          rw [decide_eq_true (rfl : V.bl (isR (Txt.split z " ")) = V.bl (isR (Txt.split z " ")))]
          have line : sizeLine = 16777216 := rfl
          have e1 : (" " : Str).length = 1 := by decide +kernel
          have e2 : ("\n" : Str).length = 1 := by decide +kernel
          have e3 : (" page" : Str).length = 5 := by decide +kernel
          refine iteF ⟨_, rfl, _, _, rfl, rfl, by omega, _, _, rfl, .inl ⟨_, rfl, by rw [app_len]; omega, rfl⟩, fun Hg sg => ⟨_, rfl, ?_⟩⟩
          rw [g.w1]
          refine iteF ⟨_, rfl, _, _, rfl, rfl, by omega, _, _, rfl, .inl ⟨_, rfl, by rw [app_len]; omega, rfl⟩, fun Hh sh => ⟨_, rfl, ?_⟩⟩
          rw [g.c1]
          refine iteF ⟨_, rfl, _, _, rfl, rfl, by omega, _, _, rfl, .inl ⟨_, rfl, by rw [app_len]; omega, rfl⟩, fun Hi si => ⟨_, rfl, ?_⟩⟩
          rw [g.r1]
          refine iteF ⟨_, rfl, _, _, rfl, rfl, by omega, _, _, rfl, .inl ⟨_, rfl, by rw [app_len]; omega, rfl⟩, fun Hj sj => ⟨_, rfl, ?_⟩⟩
          rw [g.r2]
          have sall := sa.trans (sb.trans (sc.trans (sd.trans (se.trans (sf.trans (sg.trans (sh.trans (si.trans sj))))))))
          exact iteF ⟨l, us, _, _, _, _, rfl, P6.same sall, O7.kept (Kept.of_same sall), g.few⟩
    · rintro σ H2 ⟨l, us, v3, v4, v5, v6, rfl, P2, O2, l2⟩
      refine ⟨_, rfl, l, _, rfl, .inl (SqL.of O2.1), fun q1 n1 => ?_⟩
      have t1 := same_upd (o := .lst (us.map V.str)) n1
      have O3 := O2.kept (Kept.of_same t1)
      refine ⟨_, rfl, l, _, rfl, .inl ⟨SqL.of O3.1, fun q2 n2 => ?_⟩⟩
      have t2 := same_upd (o := .tup (us.map V.str)) n2
      refine ⟨(by show 7 ≤ sizeLine; decide), fun q3 n3 => ?_⟩
      have t3 := same_upd (o := .lst [V.non, V.bl true, V.int 5, V.ref q1, V.ref q2, V.str "", V.str " "]) n3
      have P3 := P2.same (t1.trans (t2.trans t3))
      have v1 := P2.live n1
      have v2 := (P2.same t1).live n2
      have v3 := (P2.same (t1.trans t2)).live n3
      refine ⟨_, rfl, p, c, _, rfl, P3, by decide, by decide, fun H9 r P9 k9 r0 r1 => ?_⟩
      obtain ⟨k, rfl⟩ : ∃ k : Nat, r = k := ⟨r.toNat, by omega⟩
      have g1 : H9 q1 = some (.lst (us.map V.str)) := k9 _ _ v1.1 v1.2 (t3 _ _ (t2 _ _ upd_same))
      have g2 : H9 q2 = some (.tup (us.map V.str)) := k9 _ _ v2.1 v2.2 (t3 _ _ upd_same)
      have g3 : H9 q3 = some (.lst [V.non, V.bl true, V.int 5, V.ref q1, V.ref q2, V.str "", V.str " "]) := k9 _ _ v3.1 v3.2 upd_same
      obtain ⟨v, gv, ov⟩ : ∃ v, [V.non, V.bl true, V.int 5, V.ref q1, V.ref q2, V.str "", V.str " "][k]? = some v ∧ OddOk K H9 v := by
        have hk : k = 0 ∨ k = 1 ∨ k = 2 ∨ k = 3 ∨ k = 4 ∨ k = 5 ∨ k = 6 := by omega
        rcases hk with rfl | rfl | rfl | rfl | rfl | rfl | rfl
        · exact ⟨_, rfl, odd_none fun _ _ => ⟨_, .base .non, kit_ty (by decide +kernel)⟩⟩
        · exact ⟨_, rfl, odd_none fun _ _ => ⟨_, .base (.bl _), kit_ty (by decide +kernel)⟩⟩
        · exact ⟨_, rfl, odd_none fun _ _ => ⟨_, .base (.int _), kit_ty (by decide +kernel)⟩⟩
        · exact ⟨_, rfl, odd_none fun _ s => ⟨_, .base (.lst (s _ _ g1)), kit_ty (by decide +kernel)⟩⟩
        · exact ⟨_, rfl, odd_none fun _ s => ⟨_, .base (.tup (s _ _ g2)), kit_ty (by decide +kernel)⟩⟩
        · exact ⟨_, rfl, Txt.split "" " ", fun _ _ => .inl ⟨_, rfl, by decide +kernel, rfl⟩, by decide +kernel, by decide +kernel, by decide +kernel⟩
        · exact ⟨_, rfl, Txt.split " " " ", fun _ _ => .inl ⟨_, rfl, by decide +kernel, rfl⟩, by decide +kernel, by decide +kernel, by decide +kernel⟩
      obtain ⟨us, ov, o1, o2, o3⟩ := ov
      refine ⟨q3, _, _, _, rfl, rfl, SqL.of g3, atI_nat gv, ?_⟩
      refine ⟨_, rfl, v, us, rfl, ov _ (fun _ _ e => e), fun Ha sa => ⟨_, rfl, _, rfl, ?_⟩⟩
      rw [o1]
      refine iteT ⟨_, rfl, v, us, rfl, ov _ sa, fun Hb sb => ⟨_, rfl, _, rfl, ?_⟩⟩
      rw [o2]
      refine iteT ⟨_, rfl, v, us, rfl, ov _ (sa.trans sb), fun Hc sc => ⟨_, rfl, ?_⟩⟩
      rw [o3]
      exact q Hc
end
end Toy
set_option Elab.async false
set_option linter.all false
set_option maxRecDepth 100000
set_option maxHeartbeats 4000000
namespace Toy
open PySem PySem.Spec PyProof.Rows L2
theorem all_mk {l : PySem.W.OpenLaw} {w : World} {K : PySem.W.Frag} {h : Heap} {mg : Str → Option Value} {fa f_is_one_of f_split f_ahead f_locks f_is_writer f_is_cleaner f_is_reader f_law_pot f_law_draw f_law_put_in f_law_locked f_law_writer_words f_law_cleaner_words f_law_reader_words f_law_ahead f_law_fits f_law_is_writer f_law_is_cleaner f_law_is_reader f_law_spoilt f_law tW tC tR : Addr} (X : K.In h) (G : h.Ns mainGlobals mg) (hfa : mg "law" = some (.ref fa))
    {od_is_one_of an_is_one_of : Option Addr} {sl_is_one_of : Array (Option Value)} {oc_is_one_of kV_is_one_of dc_is_one_of pm_is_one_of cd_is_one_of ct_is_one_of : Value} {od_split an_split : Option Addr} {sl_split : Array (Option Value)} {oc_split kV_split dc_split pm_split cd_split ct_split : Value} {od_ahead an_ahead : Option Addr} {sl_ahead : Array (Option Value)} {oc_ahead kV_ahead dc_ahead pm_ahead cd_ahead ct_ahead : Value} {od_locks an_locks : Option Addr} {sl_locks : Array (Option Value)} {oc_locks kV_locks dc_locks pm_locks cd_locks ct_locks : Value} {od_is_writer an_is_writer : Option Addr} {sl_is_writer : Array (Option Value)} {oc_is_writer kV_is_writer dc_is_writer pm_is_writer cd_is_writer ct_is_writer : Value} {od_is_cleaner an_is_cleaner : Option Addr} {sl_is_cleaner : Array (Option Value)} {oc_is_cleaner kV_is_cleaner dc_is_cleaner pm_is_cleaner cd_is_cleaner ct_is_cleaner : Value} {od_is_reader an_is_reader : Option Addr} {sl_is_reader : Array (Option Value)} {oc_is_reader kV_is_reader dc_is_reader pm_is_reader cd_is_reader ct_is_reader : Value} {od_law_pot an_law_pot : Option Addr} {sl_law_pot : Array (Option Value)} {oc_law_pot kV_law_pot dc_law_pot pm_law_pot cd_law_pot ct_law_pot : Value} {od_law_draw an_law_draw : Option Addr} {sl_law_draw : Array (Option Value)} {oc_law_draw kV_law_draw dc_law_draw pm_law_draw cd_law_draw ct_law_draw : Value} {od_law_put_in an_law_put_in : Option Addr} {sl_law_put_in : Array (Option Value)} {oc_law_put_in kV_law_put_in dc_law_put_in pm_law_put_in cd_law_put_in ct_law_put_in : Value} {od_law_locked an_law_locked : Option Addr} {sl_law_locked : Array (Option Value)} {oc_law_locked kV_law_locked dc_law_locked pm_law_locked cd_law_locked ct_law_locked : Value} {od_law_writer_words an_law_writer_words : Option Addr} {sl_law_writer_words : Array (Option Value)} {oc_law_writer_words kV_law_writer_words dc_law_writer_words pm_law_writer_words cd_law_writer_words ct_law_writer_words : Value} {od_law_cleaner_words an_law_cleaner_words : Option Addr} {sl_law_cleaner_words : Array (Option Value)} {oc_law_cleaner_words kV_law_cleaner_words dc_law_cleaner_words pm_law_cleaner_words cd_law_cleaner_words ct_law_cleaner_words : Value} {od_law_reader_words an_law_reader_words : Option Addr} {sl_law_reader_words : Array (Option Value)} {oc_law_reader_words kV_law_reader_words dc_law_reader_words pm_law_reader_words cd_law_reader_words ct_law_reader_words : Value} {od_law_ahead an_law_ahead : Option Addr} {sl_law_ahead : Array (Option Value)} {oc_law_ahead kV_law_ahead dc_law_ahead pm_law_ahead cd_law_ahead ct_law_ahead : Value} {od_law_fits an_law_fits : Option Addr} {sl_law_fits : Array (Option Value)} {oc_law_fits kV_law_fits dc_law_fits pm_law_fits cd_law_fits ct_law_fits : Value} {od_law_is_writer an_law_is_writer : Option Addr} {sl_law_is_writer : Array (Option Value)} {oc_law_is_writer kV_law_is_writer dc_law_is_writer pm_law_is_writer cd_law_is_writer ct_law_is_writer : Value} {od_law_is_cleaner an_law_is_cleaner : Option Addr} {sl_law_is_cleaner : Array (Option Value)} {oc_law_is_cleaner kV_law_is_cleaner dc_law_is_cleaner pm_law_is_cleaner cd_law_is_cleaner ct_law_is_cleaner : Value} {od_law_is_reader an_law_is_reader : Option Addr} {sl_law_is_reader : Array (Option Value)} {oc_law_is_reader kV_law_is_reader dc_law_is_reader pm_law_is_reader cd_law_is_reader ct_law_is_reader : Value} {od_law_spoilt an_law_spoilt : Option Addr} {sl_law_spoilt : Array (Option Value)} {oc_law_spoilt kV_law_spoilt dc_law_spoilt pm_law_spoilt cd_law_spoilt ct_law_spoilt : Value} {od_law an_law : Option Addr} {sl_law : Array (Option Value)} {oc_law kV_law dc_law pm_law cd_law ct_law : Value} {tcW : Value} {toW : Option Addr} {tiW : Array Value} {tnW : Nat} {tsW : Array (Option Value)} {tcC : Value} {toC : Option Addr} {tiC : Array Value} {tnC : Nat} {tsC : Array (Option Value)} {tcR : Value} {toR : Option Addr} {tiR : Array Value} {tnR : Nat} {tsR : Array (Option Value)}
    (a_is_one_of : PySem.W.nsIn K mainGlobals "is_one_of" = some (some (.ref f_is_one_of)))
    (l_is_one_of : K.lookup f_is_one_of = some ⟨oc_is_one_of, od_is_one_of, .func (PySem.W.fnOf "is_one_of" "is_one_of" (defArgs s_is_one_of) (defBody s_is_one_of) (defScope s_is_one_of) .none kV_is_one_of dc_is_one_of pm_is_one_of an_is_one_of cd_is_one_of ct_is_one_of), sl_is_one_of⟩)
    (c_is_one_of : PySem.W.codeIn K cd_is_one_of "is_one_of" = true)
    (k_is_one_of : PySem.W.keepIn K (.ref f_is_one_of) = true)
    (a_split : PySem.W.nsIn K mainGlobals "_split" = some (some (.ref f_split)))
    (l_split : K.lookup f_split = some ⟨oc_split, od_split, .func (PySem.W.fnOf "_split" "_split" (defArgs s_split) (defBody s_split) (defScope s_split) .none kV_split dc_split pm_split an_split cd_split ct_split), sl_split⟩)
    (c_split : PySem.W.codeIn K cd_split "_split" = true)
    (k_split : PySem.W.keepIn K (.ref f_split) = true)
    (a_ahead : PySem.W.nsIn K mainGlobals "_ahead" = some (some (.ref f_ahead)))
    (l_ahead : K.lookup f_ahead = some ⟨oc_ahead, od_ahead, .func (PySem.W.fnOf "_ahead" "_ahead" (defArgs s_ahead) (defBody s_ahead) (defScope s_ahead) .none kV_ahead dc_ahead pm_ahead an_ahead cd_ahead ct_ahead), sl_ahead⟩)
    (c_ahead : PySem.W.codeIn K cd_ahead "_ahead" = true)
    (k_ahead : PySem.W.keepIn K (.ref f_ahead) = true)
    (a_locks : PySem.W.nsIn K mainGlobals "_locks" = some (some (.ref f_locks)))
    (l_locks : K.lookup f_locks = some ⟨oc_locks, od_locks, .func (PySem.W.fnOf "_locks" "_locks" (defArgs s_locks) (defBody s_locks) (defScope s_locks) .none kV_locks dc_locks pm_locks an_locks cd_locks ct_locks), sl_locks⟩)
    (c_locks : PySem.W.codeIn K cd_locks "_locks" = true)
    (k_locks : PySem.W.keepIn K (.ref f_locks) = true)
    (a_is_writer : PySem.W.nsIn K mainGlobals "is_writer" = some (some (.ref f_is_writer)))
    (l_is_writer : K.lookup f_is_writer = some ⟨oc_is_writer, od_is_writer, .func (PySem.W.fnOf "is_writer" "is_writer" (defArgs s_is_writer) (defBody s_is_writer) (defScope s_is_writer) .none kV_is_writer dc_is_writer pm_is_writer an_is_writer cd_is_writer ct_is_writer), sl_is_writer⟩)
    (c_is_writer : PySem.W.codeIn K cd_is_writer "is_writer" = true)
    (k_is_writer : PySem.W.keepIn K (.ref f_is_writer) = true)
    (a_is_cleaner : PySem.W.nsIn K mainGlobals "is_cleaner" = some (some (.ref f_is_cleaner)))
    (l_is_cleaner : K.lookup f_is_cleaner = some ⟨oc_is_cleaner, od_is_cleaner, .func (PySem.W.fnOf "is_cleaner" "is_cleaner" (defArgs s_is_cleaner) (defBody s_is_cleaner) (defScope s_is_cleaner) .none kV_is_cleaner dc_is_cleaner pm_is_cleaner an_is_cleaner cd_is_cleaner ct_is_cleaner), sl_is_cleaner⟩)
    (c_is_cleaner : PySem.W.codeIn K cd_is_cleaner "is_cleaner" = true)
    (k_is_cleaner : PySem.W.keepIn K (.ref f_is_cleaner) = true)
    (a_is_reader : PySem.W.nsIn K mainGlobals "is_reader" = some (some (.ref f_is_reader)))
    (l_is_reader : K.lookup f_is_reader = some ⟨oc_is_reader, od_is_reader, .func (PySem.W.fnOf "is_reader" "is_reader" (defArgs s_is_reader) (defBody s_is_reader) (defScope s_is_reader) .none kV_is_reader dc_is_reader pm_is_reader an_is_reader cd_is_reader ct_is_reader), sl_is_reader⟩)
    (c_is_reader : PySem.W.codeIn K cd_is_reader "is_reader" = true)
    (k_is_reader : PySem.W.keepIn K (.ref f_is_reader) = true)
    (a_law_pot : PySem.W.nsIn K mainGlobals "_law_pot" = some (some (.ref f_law_pot)))
    (l_law_pot : K.lookup f_law_pot = some ⟨oc_law_pot, od_law_pot, .func (PySem.W.fnOf "_law_pot" "_law_pot" (defArgs s_law_pot) (defBody s_law_pot) (defScope s_law_pot) .none kV_law_pot dc_law_pot pm_law_pot an_law_pot cd_law_pot ct_law_pot), sl_law_pot⟩)
    (c_law_pot : PySem.W.codeIn K cd_law_pot "_law_pot" = true)
    (k_law_pot : PySem.W.keepIn K (.ref f_law_pot) = true)
    (a_law_draw : PySem.W.nsIn K mainGlobals "_law_draw" = some (some (.ref f_law_draw)))
    (l_law_draw : K.lookup f_law_draw = some ⟨oc_law_draw, od_law_draw, .func (PySem.W.fnOf "_law_draw" "_law_draw" (defArgs s_law_draw) (defBody s_law_draw) (defScope s_law_draw) .none kV_law_draw dc_law_draw pm_law_draw an_law_draw cd_law_draw ct_law_draw), sl_law_draw⟩)
    (c_law_draw : PySem.W.codeIn K cd_law_draw "_law_draw" = true)
    (k_law_draw : PySem.W.keepIn K (.ref f_law_draw) = true)
    (a_law_put_in : PySem.W.nsIn K mainGlobals "_law_put_in" = some (some (.ref f_law_put_in)))
    (l_law_put_in : K.lookup f_law_put_in = some ⟨oc_law_put_in, od_law_put_in, .func (PySem.W.fnOf "_law_put_in" "_law_put_in" (defArgs s_law_put_in) (defBody s_law_put_in) (defScope s_law_put_in) .none kV_law_put_in dc_law_put_in pm_law_put_in an_law_put_in cd_law_put_in ct_law_put_in), sl_law_put_in⟩)
    (c_law_put_in : PySem.W.codeIn K cd_law_put_in "_law_put_in" = true)
    (k_law_put_in : PySem.W.keepIn K (.ref f_law_put_in) = true)
    (a_law_locked : PySem.W.nsIn K mainGlobals "_law_locked" = some (some (.ref f_law_locked)))
    (l_law_locked : K.lookup f_law_locked = some ⟨oc_law_locked, od_law_locked, .func (PySem.W.fnOf "_law_locked" "_law_locked" (defArgs s_law_locked) (defBody s_law_locked) (defScope s_law_locked) .none kV_law_locked dc_law_locked pm_law_locked an_law_locked cd_law_locked ct_law_locked), sl_law_locked⟩)
    (c_law_locked : PySem.W.codeIn K cd_law_locked "_law_locked" = true)
    (k_law_locked : PySem.W.keepIn K (.ref f_law_locked) = true)
    (a_law_writer_words : PySem.W.nsIn K mainGlobals "_law_writer_words" = some (some (.ref f_law_writer_words)))
    (l_law_writer_words : K.lookup f_law_writer_words = some ⟨oc_law_writer_words, od_law_writer_words, .func (PySem.W.fnOf "_law_writer_words" "_law_writer_words" (defArgs s_law_writer_words) (defBody s_law_writer_words) (defScope s_law_writer_words) .none kV_law_writer_words dc_law_writer_words pm_law_writer_words an_law_writer_words cd_law_writer_words ct_law_writer_words), sl_law_writer_words⟩)
    (c_law_writer_words : PySem.W.codeIn K cd_law_writer_words "_law_writer_words" = true)
    (k_law_writer_words : PySem.W.keepIn K (.ref f_law_writer_words) = true)
    (a_law_cleaner_words : PySem.W.nsIn K mainGlobals "_law_cleaner_words" = some (some (.ref f_law_cleaner_words)))
    (l_law_cleaner_words : K.lookup f_law_cleaner_words = some ⟨oc_law_cleaner_words, od_law_cleaner_words, .func (PySem.W.fnOf "_law_cleaner_words" "_law_cleaner_words" (defArgs s_law_cleaner_words) (defBody s_law_cleaner_words) (defScope s_law_cleaner_words) .none kV_law_cleaner_words dc_law_cleaner_words pm_law_cleaner_words an_law_cleaner_words cd_law_cleaner_words ct_law_cleaner_words), sl_law_cleaner_words⟩)
    (c_law_cleaner_words : PySem.W.codeIn K cd_law_cleaner_words "_law_cleaner_words" = true)
    (k_law_cleaner_words : PySem.W.keepIn K (.ref f_law_cleaner_words) = true)
    (a_law_reader_words : PySem.W.nsIn K mainGlobals "_law_reader_words" = some (some (.ref f_law_reader_words)))
    (l_law_reader_words : K.lookup f_law_reader_words = some ⟨oc_law_reader_words, od_law_reader_words, .func (PySem.W.fnOf "_law_reader_words" "_law_reader_words" (defArgs s_law_reader_words) (defBody s_law_reader_words) (defScope s_law_reader_words) .none kV_law_reader_words dc_law_reader_words pm_law_reader_words an_law_reader_words cd_law_reader_words ct_law_reader_words), sl_law_reader_words⟩)
    (c_law_reader_words : PySem.W.codeIn K cd_law_reader_words "_law_reader_words" = true)
    (k_law_reader_words : PySem.W.keepIn K (.ref f_law_reader_words) = true)
    (a_law_ahead : PySem.W.nsIn K mainGlobals "_law_ahead" = some (some (.ref f_law_ahead)))
    (l_law_ahead : K.lookup f_law_ahead = some ⟨oc_law_ahead, od_law_ahead, .func (PySem.W.fnOf "_law_ahead" "_law_ahead" (defArgs s_law_ahead) (defBody s_law_ahead) (defScope s_law_ahead) .none kV_law_ahead dc_law_ahead pm_law_ahead an_law_ahead cd_law_ahead ct_law_ahead), sl_law_ahead⟩)
    (c_law_ahead : PySem.W.codeIn K cd_law_ahead "_law_ahead" = true)
    (k_law_ahead : PySem.W.keepIn K (.ref f_law_ahead) = true)
    (a_law_fits : PySem.W.nsIn K mainGlobals "_law_fits" = some (some (.ref f_law_fits)))
    (l_law_fits : K.lookup f_law_fits = some ⟨oc_law_fits, od_law_fits, .func (PySem.W.fnOf "_law_fits" "_law_fits" (defArgs s_law_fits) (defBody s_law_fits) (defScope s_law_fits) .none kV_law_fits dc_law_fits pm_law_fits an_law_fits cd_law_fits ct_law_fits), sl_law_fits⟩)
    (c_law_fits : PySem.W.codeIn K cd_law_fits "_law_fits" = true)
    (k_law_fits : PySem.W.keepIn K (.ref f_law_fits) = true)
    (a_law_is_writer : PySem.W.nsIn K mainGlobals "_law_is_writer" = some (some (.ref f_law_is_writer)))
    (l_law_is_writer : K.lookup f_law_is_writer = some ⟨oc_law_is_writer, od_law_is_writer, .func (PySem.W.fnOf "_law_is_writer" "_law_is_writer" (defArgs s_law_is_writer) (defBody s_law_is_writer) (defScope s_law_is_writer) .none kV_law_is_writer dc_law_is_writer pm_law_is_writer an_law_is_writer cd_law_is_writer ct_law_is_writer), sl_law_is_writer⟩)
    (c_law_is_writer : PySem.W.codeIn K cd_law_is_writer "_law_is_writer" = true)
    (k_law_is_writer : PySem.W.keepIn K (.ref f_law_is_writer) = true)
    (a_law_is_cleaner : PySem.W.nsIn K mainGlobals "_law_is_cleaner" = some (some (.ref f_law_is_cleaner)))
    (l_law_is_cleaner : K.lookup f_law_is_cleaner = some ⟨oc_law_is_cleaner, od_law_is_cleaner, .func (PySem.W.fnOf "_law_is_cleaner" "_law_is_cleaner" (defArgs s_law_is_cleaner) (defBody s_law_is_cleaner) (defScope s_law_is_cleaner) .none kV_law_is_cleaner dc_law_is_cleaner pm_law_is_cleaner an_law_is_cleaner cd_law_is_cleaner ct_law_is_cleaner), sl_law_is_cleaner⟩)
    (c_law_is_cleaner : PySem.W.codeIn K cd_law_is_cleaner "_law_is_cleaner" = true)
    (k_law_is_cleaner : PySem.W.keepIn K (.ref f_law_is_cleaner) = true)
    (a_law_is_reader : PySem.W.nsIn K mainGlobals "_law_is_reader" = some (some (.ref f_law_is_reader)))
    (l_law_is_reader : K.lookup f_law_is_reader = some ⟨oc_law_is_reader, od_law_is_reader, .func (PySem.W.fnOf "_law_is_reader" "_law_is_reader" (defArgs s_law_is_reader) (defBody s_law_is_reader) (defScope s_law_is_reader) .none kV_law_is_reader dc_law_is_reader pm_law_is_reader an_law_is_reader cd_law_is_reader ct_law_is_reader), sl_law_is_reader⟩)
    (c_law_is_reader : PySem.W.codeIn K cd_law_is_reader "_law_is_reader" = true)
    (k_law_is_reader : PySem.W.keepIn K (.ref f_law_is_reader) = true)
    (a_law_spoilt : PySem.W.nsIn K mainGlobals "_law_spoilt" = some (some (.ref f_law_spoilt)))
    (l_law_spoilt : K.lookup f_law_spoilt = some ⟨oc_law_spoilt, od_law_spoilt, .func (PySem.W.fnOf "_law_spoilt" "_law_spoilt" (defArgs s_law_spoilt) (defBody s_law_spoilt) (defScope s_law_spoilt) .none kV_law_spoilt dc_law_spoilt pm_law_spoilt an_law_spoilt cd_law_spoilt ct_law_spoilt), sl_law_spoilt⟩)
    (c_law_spoilt : PySem.W.codeIn K cd_law_spoilt "_law_spoilt" = true)
    (k_law_spoilt : PySem.W.keepIn K (.ref f_law_spoilt) = true)
    (a_law : PySem.W.nsIn K mainGlobals "law" = some (some (.ref f_law)))
    (l_law : K.lookup f_law = some ⟨oc_law, od_law, .func (PySem.W.fnOf "law" "law" (defArgs s_law) (defBody s_law) (defScope s_law) .none kV_law dc_law pm_law an_law cd_law ct_law), sl_law⟩)
    (c_law : PySem.W.codeIn K cd_law "law" = true)
    (k_law : PySem.W.keepIn K (.ref f_law) = true)
    (gW : PySem.W.nsIn K mainGlobals "WRITER_WORDS" = some (some (.ref tW)))
    (lkW : K.lookup tW = some ⟨tcW, toW, .seq tiW tnW, tsW⟩)
    (clW : tcW = .type "tuple")
    (szW : tiW.size ≤ sizeLine)
    (vlW : Vals (WW.map V.str) tiW.toList)
    (gC : PySem.W.nsIn K mainGlobals "CLEANER_WORDS" = some (some (.ref tC)))
    (lkC : K.lookup tC = some ⟨tcC, toC, .seq tiC tnC, tsC⟩)
    (clC : tcC = .type "tuple")
    (szC : tiC.size ≤ sizeLine)
    (vlC : Vals (CW.map V.str) tiC.toList)
    (gR : PySem.W.nsIn K mainGlobals "READER_WORDS" = some (some (.ref tR)))
    (lkR : K.lookup tR = some ⟨tcR, toR, .seq tiR tnR, tsR⟩)
    (clR : tcR = .type "tuple")
    (szR : tiR.size ≤ sizeLine)
    (vlR : Vals (RW.map V.str) tiR.toList)
    (z_len : PySem.W.nsIn K mainGlobals "len" = some none)
    (z_int : PySem.W.nsIn K mainGlobals "int" = some none)
    (z_isinstance : PySem.W.nsIn K mainGlobals "isinstance" = some none)
    (z_range : PySem.W.nsIn K mainGlobals "range" = some none)
    (z_list : PySem.W.nsIn K mainGlobals "list" = some none)
    (z_tuple : PySem.W.nsIn K mainGlobals "tuple" = some none)
    (z_str : PySem.W.nsIn K mainGlobals "str" = some none)
    (z_all : PySem.W.nsIn K mainGlobals "all" = some none)
    (z_set : PySem.W.nsIn K mainGlobals "set" = some none) :
    ∃ fd : FuncData, (∀ (s : Shared) (v : Value), BindsTo s fd ⟨[v], []⟩ [("script", v)]) ∧ ∀ base : Heap, K.In base → base.Ns mainGlobals mg → FnOk l.prog w K mg base CX0 5 fa fd ["script"] (spLaw K) := by
  have e := hfa.symm.trans (PySem.W.mg_of X G a_law)
  cases e
  have hWW : ∀ H, SqT K H tW (WW.map V.str) := fun H => .inr ⟨_, _, _, lkW, clW, rfl, szW, vlW⟩
  have hCW : ∀ H, SqT K H tC (CW.map V.str) := fun H => .inr ⟨_, _, _, lkC, clC, rfl, szC, vlC⟩
  have hRW : ∀ H, SqT K H tR (RW.map V.str) := fun H => .inr ⟨_, _, _, lkR, clR, rfl, szR, vlR⟩
  have N1 : Nms mg := ⟨PySem.W.mg_none_of X G z_isinstance, PySem.W.mg_none_of X G z_str, PySem.W.mg_none_of X G z_all, PySem.W.mg_none_of X G z_len, PySem.W.mg_none_of X G z_set⟩
  have N2 : Nm2 mg tW tC tR f_is_one_of f_split f_ahead f_locks := ⟨PySem.W.mg_of X G a_is_one_of, PySem.W.mg_of X G a_split, PySem.W.mg_of X G a_ahead, PySem.W.mg_of X G a_locks, PySem.W.mg_of X G gW, PySem.W.mg_of X G gC, PySem.W.mg_of X G gR⟩
  have N3 : Nm3 mg := ⟨PySem.W.mg_none_of X G z_range, PySem.W.mg_none_of X G z_list, PySem.W.mg_none_of X G z_tuple⟩
  have ml := PySem.W.mg_none_of X G z_len
  have mi := PySem.W.mg_none_of X G z_int
  have F_is_one_of := fun_mk (st := s_is_one_of) l_is_one_of c_is_one_of k_is_one_of
  have b_is_one_of := F_is_one_of.binds (ps := ["value", "known"]) fun _ _ _ _ _ _ us hl => match us, hl with | [_, _], _ => rfl
  have F_split := fun_mk (st := s_split) l_split c_split k_split
  have b_split := F_split.binds (ps := ["value", "known"]) fun _ _ _ _ _ _ us hl => match us, hl with | [_, _], _ => rfl
  have F_ahead := fun_mk (st := s_ahead) l_ahead c_ahead k_ahead
  have b_ahead := F_ahead.binds (ps := ["words", "first", "second"]) fun _ _ _ _ _ _ us hl => match us, hl with | [_, _, _], _ => rfl
  have F_locks := fun_mk (st := s_locks) l_locks c_locks k_locks
  have b_locks := F_locks.binds (ps := ["words"]) fun _ _ _ _ _ _ us hl => match us, hl with | [_], _ => rfl
  have F_is_writer := fun_mk (st := s_is_writer) l_is_writer c_is_writer k_is_writer
  have b_is_writer := F_is_writer.binds (ps := ["value"]) fun _ _ _ _ _ _ us hl => match us, hl with | [_], _ => rfl
  have F_is_cleaner := fun_mk (st := s_is_cleaner) l_is_cleaner c_is_cleaner k_is_cleaner
  have b_is_cleaner := F_is_cleaner.binds (ps := ["value"]) fun _ _ _ _ _ _ us hl => match us, hl with | [_], _ => rfl
  have F_is_reader := fun_mk (st := s_is_reader) l_is_reader c_is_reader k_is_reader
  have b_is_reader := F_is_reader.binds (ps := ["value"]) fun _ _ _ _ _ _ us hl => match us, hl with | [_], _ => rfl
  have F_law_pot := fun_mk (st := s_law_pot) l_law_pot c_law_pot k_law_pot
  have b_law_pot := F_law_pot.binds (ps := ["script"]) fun _ _ _ _ _ _ us hl => match us, hl with | [_], _ => rfl
  have F_law_draw := fun_mk (st := s_law_draw) l_law_draw c_law_draw k_law_draw
  have b_law_draw := F_law_draw.binds (ps := ["pot", "many"]) fun _ _ _ _ _ _ us hl => match us, hl with | [_, _], _ => rfl
  have F_law_put_in := fun_mk (st := s_law_put_in) l_law_put_in c_law_put_in k_law_put_in
  have b_law_put_in := F_law_put_in.binds (ps := ["pot", "order", "word", "least"]) fun _ _ _ _ _ _ us hl => match us, hl with | [_, _, _, _], _ => rfl
  have F_law_locked := fun_mk (st := s_law_locked) l_law_locked c_law_locked k_law_locked
  have b_law_locked := F_law_locked.binds (ps := ["pot", "order"]) fun _ _ _ _ _ _ us hl => match us, hl with | [_, _], _ => rfl
  have F_law_writer_words := fun_mk (st := s_law_writer_words) l_law_writer_words c_law_writer_words k_law_writer_words
  have b_law_writer_words := F_law_writer_words.binds (ps := ["pot"]) fun _ _ _ _ _ _ us hl => match us, hl with | [_], _ => rfl
  have F_law_cleaner_words := fun_mk (st := s_law_cleaner_words) l_law_cleaner_words c_law_cleaner_words k_law_cleaner_words
  have b_law_cleaner_words := F_law_cleaner_words.binds (ps := ["pot"]) fun _ _ _ _ _ _ us hl => match us, hl with | [_], _ => rfl
  have F_law_reader_words := fun_mk (st := s_law_reader_words) l_law_reader_words c_law_reader_words k_law_reader_words
  have b_law_reader_words := F_law_reader_words.binds (ps := ["pot"]) fun _ _ _ _ _ _ us hl => match us, hl with | [_], _ => rfl
  have F_law_ahead := fun_mk (st := s_law_ahead) l_law_ahead c_law_ahead k_law_ahead
  have b_law_ahead := F_law_ahead.binds (ps := ["order", "one", "other"]) fun _ _ _ _ _ _ us hl => match us, hl with | [_, _, _], _ => rfl
  have F_law_fits := fun_mk (st := s_law_fits) l_law_fits c_law_fits k_law_fits
  have b_law_fits := F_law_fits.binds (ps := ["text", "needed", "free"]) fun _ _ _ _ _ _ us hl => match us, hl with | [_, _, _], _ => rfl
  have F_law_is_writer := fun_mk (st := s_law_is_writer) l_law_is_writer c_law_is_writer k_law_is_writer
  have b_law_is_writer := F_law_is_writer.binds (ps := ["text"]) fun _ _ _ _ _ _ us hl => match us, hl with | [_], _ => rfl
  have F_law_is_cleaner := fun_mk (st := s_law_is_cleaner) l_law_is_cleaner c_law_is_cleaner k_law_is_cleaner
  have b_law_is_cleaner := F_law_is_cleaner.binds (ps := ["text"]) fun _ _ _ _ _ _ us hl => match us, hl with | [_], _ => rfl
  have F_law_is_reader := fun_mk (st := s_law_is_reader) l_law_is_reader c_law_is_reader k_law_is_reader
  have b_law_is_reader := F_law_is_reader.binds (ps := ["text"]) fun _ _ _ _ _ _ us hl => match us, hl with | [_], _ => rfl
  have F_law_spoilt := fun_mk (st := s_law_spoilt) l_law_spoilt c_law_spoilt k_law_spoilt
  have b_law_spoilt := F_law_spoilt.binds (ps := ["pot", "order"]) fun _ _ _ _ _ _ us hl => match us, hl with | [_, _], _ => rfl
  have F_law := fun_mk (st := s_law) l_law c_law k_law
  refine ⟨PySem.W.fnOf "law" "law" (defArgs s_law) (defBody s_law) (defScope s_law) .none kV_law dc_law pm_law an_law cd_law ct_law, fun s v => .of_eq rfl, fun base _ _ => ?_⟩
  have GO : FnOk l.prog w K mg base CX0 1 f_is_one_of _ ["value", "known"] (spOneK K) := ok_one_of F_is_one_of N1
  have GS : FnOk l.prog w K mg base CX0 2 f_split _ ["value", "known"] (spSplit K) := ok_split F_split N1 GO k_is_one_of b_is_one_of N2.o
  have GA : FnOk l.prog w K mg base CX0 1 f_ahead _ ["words", "first", "second"] (spAhead K) := ok_ahead F_ahead
  have GL : FnOk l.prog w K mg base CX0 2 f_locks _ ["words"] (spLocks K) := ok_locks F_locks GA k_ahead b_ahead N2.a
  have T := Three.mk GS k_split b_split GA k_ahead b_ahead GL k_locks b_locks
  have GD : FnOk l.prog w K mg base CX0 1 f_law_draw _ ["pot", "many"] spDraw := ok_draw F_law_draw mi ml
  have D := Drw.mk GD k_law_draw b_law_draw (PySem.W.mg_of X G a_law_draw)
  have GP : FnOk l.prog w K mg base CX0 2 f_law_put_in _ ["pot", "order", "word", "least"] spPut := ok_put F_law_put_in D ml
  have GK : FnOk l.prog w K mg base CX0 3 f_law_locked _ ["pot", "order"] spLocked := ok_locked F_law_locked D GP k_law_put_in b_law_put_in (PySem.W.mg_of X G a_law_put_in)
  have U := Put.mk GP k_law_put_in b_law_put_in (PySem.W.mg_of X G a_law_put_in) GK k_law_locked b_law_locked (PySem.W.mg_of X G a_law_locked)
  have GH : FnOk l.prog w K mg base CX0 1 f_law_ahead _ ["order", "one", "other"] (spLah K) := ok_lah F_law_ahead
  have GF : FnOk l.prog w K mg base CX0 2 f_law_fits _ ["text", "needed", "free"] spFits := ok_fits F_law_fits GH k_law_ahead b_law_ahead (PySem.W.mg_of X G a_law_ahead) ml
  have Y := Fit.mk GF k_law_fits b_law_fits (PySem.W.mg_of X G a_law_fits) GH k_law_ahead b_law_ahead (PySem.W.mg_of X G a_law_ahead)
  exact ok_law F_law N3 ⟨⟨ok_pot F_law_pot mi, k_law_pot, b_law_pot, PySem.W.mg_of X G a_law_pot⟩,
    ⟨GD, k_law_draw, b_law_draw, PySem.W.mg_of X G a_law_draw⟩,
    ⟨ok_wwords F_law_writer_words D U, k_law_writer_words, b_law_writer_words, PySem.W.mg_of X G a_law_writer_words⟩,
    ⟨ok_cwords F_law_cleaner_words D U, k_law_cleaner_words, b_law_cleaner_words, PySem.W.mg_of X G a_law_cleaner_words⟩,
    ⟨ok_rwords F_law_reader_words D U, k_law_reader_words, b_law_reader_words, PySem.W.mg_of X G a_law_reader_words⟩,
    ⟨ok_is_writer F_is_writer T N2 hWW, k_is_writer, b_is_writer, PySem.W.mg_of X G a_is_writer⟩,
    ⟨ok_is_cleaner F_is_cleaner T N2 hCW, k_is_cleaner, b_is_cleaner, PySem.W.mg_of X G a_is_cleaner⟩,
    ⟨ok_is_reader F_is_reader T N2 hRW, k_is_reader, b_is_reader, PySem.W.mg_of X G a_is_reader⟩,
    ⟨ok_spoilt F_law_spoilt D ml N3.range, k_law_spoilt, b_law_spoilt, PySem.W.mg_of X G a_law_spoilt⟩,
    ⟨ok_lw F_law_is_writer Y, k_law_is_writer, b_law_is_writer, PySem.W.mg_of X G a_law_is_writer⟩,
    ⟨ok_lc F_law_is_cleaner Y, k_law_is_cleaner, b_law_is_cleaner, PySem.W.mg_of X G a_law_is_cleaner⟩,
    ⟨ok_lr F_law_is_reader Y, k_law_is_reader, b_law_is_reader, PySem.W.mg_of X G a_law_is_reader⟩⟩
theorem walk {l : PySem.W.OpenLaw} {q : Program} {loose : List Str} {XP : (Str → Option Value) → Heap → Prop} {YP : World → Heap → Prop} {d : DefRec} {K : Params → PySem.W.Frag} (hn : l.most = some 63) (hdf : d.params.defaults = [])
    (hY : ∀ (w : World) (h : Heap), YP w h → (K w.params).In h)
    (F : ∀ (w : World) (mg : Str → Option Value) (fa : Addr) (h : Heap), (K w.params).In h → h.Ns mainGlobals mg → mg d.name = some (.ref fa) →
      ∃ fd : FuncData, (∀ (s : Shared) (u : Value), BindsTo s fd ⟨[u], []⟩ [("script", u)]) ∧ ∀ base : Heap, (K w.params).In base → base.Ns mainGlobals mg → FnOk l.prog w (K w.params) mg base CX0 5 fa fd ["script"] (spLaw (K w.params))) :
    PySem.W.WalkO q loose XP YP l.row.toRowW d [] (fun f vs => PySem.call f vs) :=
  L2.walk_of (n := 63) (k := 5) (x := "script") (CX := fun _ => CX0) (sp := fun w => spLaw (K w.params)) hn (by decide) hdf ⟨rfl, by decide, by decide⟩ hY F (fun _ _ a ns hl _ hS => ⟨a, ns, rfl, hS, hl, fun _ => rfl⟩) fun _ _ _ _ _ z => z
end Toy
open PySem PySem.W PyProof.Rows in
set_option maxRecDepth 100000 in
set_option maxHeartbeats 0 in
theorem PySem.Challenge.cw_trustedpages_k14_orders_of_words_holds : PySem.Challenge.rw_trustedpages_k14_orders_of_words.Holds := by
  w_on; o_law; k_head; (case hw => w_witness2)
  k_fill
  refine Toy.walk (l := PySem.Challenge.rw_trustedpages_k14_orders_of_words) rfl rfl (fun w h Y => PySem.W.kIn_of Y) ?F
  case F =>
    intro w mg fa h KX G hmg
    refine' Toy.all_mk KX G hmg ?a_is_one_of ?l_is_one_of ?c_is_one_of ?k_is_one_of ?a_split ?l_split ?c_split ?k_split ?a_ahead ?l_ahead ?c_ahead ?k_ahead ?a_locks ?l_locks ?c_locks ?k_locks ?a_is_writer ?l_is_writer ?c_is_writer ?k_is_writer ?a_is_cleaner ?l_is_cleaner ?c_is_cleaner ?k_is_cleaner ?a_is_reader ?l_is_reader ?c_is_reader ?k_is_reader ?a_law_pot ?l_law_pot ?c_law_pot ?k_law_pot ?a_law_draw ?l_law_draw ?c_law_draw ?k_law_draw ?a_law_put_in ?l_law_put_in ?c_law_put_in ?k_law_put_in ?a_law_locked ?l_law_locked ?c_law_locked ?k_law_locked ?a_law_writer_words ?l_law_writer_words ?c_law_writer_words ?k_law_writer_words ?a_law_cleaner_words ?l_law_cleaner_words ?c_law_cleaner_words ?k_law_cleaner_words ?a_law_reader_words ?l_law_reader_words ?c_law_reader_words ?k_law_reader_words ?a_law_ahead ?l_law_ahead ?c_law_ahead ?k_law_ahead ?a_law_fits ?l_law_fits ?c_law_fits ?k_law_fits ?a_law_is_writer ?l_law_is_writer ?c_law_is_writer ?k_law_is_writer ?a_law_is_cleaner ?l_law_is_cleaner ?c_law_is_cleaner ?k_law_is_cleaner ?a_law_is_reader ?l_law_is_reader ?c_law_is_reader ?k_law_is_reader ?a_law_spoilt ?l_law_spoilt ?c_law_spoilt ?k_law_spoilt ?a_law ?l_law ?c_law ?k_law ?gW ?lkW ?clW ?szW ?vlW ?gC ?lkC ?clC ?szC ?vlC ?gR ?lkR ?clR ?szR ?vlR ?z_len ?z_int ?z_isinstance ?z_range ?z_list ?z_tuple ?z_str ?z_all ?z_set
    (case a_is_one_of => k_is)
    (case l_is_one_of => k_is)
    (case c_is_one_of => k_is)
    (case k_is_one_of => k_is)
    (case a_split => k_is)
    (case l_split => k_is)
    (case c_split => k_is)
    (case k_split => k_is)
    (case a_ahead => k_is)
    (case l_ahead => k_is)
    (case c_ahead => k_is)
    (case k_ahead => k_is)
    (case a_locks => k_is)
    (case l_locks => k_is)
    (case c_locks => k_is)
    (case k_locks => k_is)
    (case a_is_writer => k_is)
    (case l_is_writer => k_is)
    (case c_is_writer => k_is)
    (case k_is_writer => k_is)
    (case a_is_cleaner => k_is)
    (case l_is_cleaner => k_is)
    (case c_is_cleaner => k_is)
    (case k_is_cleaner => k_is)
    (case a_is_reader => k_is)
    (case l_is_reader => k_is)
    (case c_is_reader => k_is)
    (case k_is_reader => k_is)
    (case a_law_pot => k_is)
    (case l_law_pot => k_is)
    (case c_law_pot => k_is)
    (case k_law_pot => k_is)
    (case a_law_draw => k_is)
    (case l_law_draw => k_is)
    (case c_law_draw => k_is)
    (case k_law_draw => k_is)
    (case a_law_put_in => k_is)
    (case l_law_put_in => k_is)
    (case c_law_put_in => k_is)
    (case k_law_put_in => k_is)
    (case a_law_locked => k_is)
    (case l_law_locked => k_is)
    (case c_law_locked => k_is)
    (case k_law_locked => k_is)
    (case a_law_writer_words => k_is)
    (case l_law_writer_words => k_is)
    (case c_law_writer_words => k_is)
    (case k_law_writer_words => k_is)
    (case a_law_cleaner_words => k_is)
    (case l_law_cleaner_words => k_is)
    (case c_law_cleaner_words => k_is)
    (case k_law_cleaner_words => k_is)
    (case a_law_reader_words => k_is)
    (case l_law_reader_words => k_is)
    (case c_law_reader_words => k_is)
    (case k_law_reader_words => k_is)
    (case a_law_ahead => k_is)
    (case l_law_ahead => k_is)
    (case c_law_ahead => k_is)
    (case k_law_ahead => k_is)
    (case a_law_fits => k_is)
    (case l_law_fits => k_is)
    (case c_law_fits => k_is)
    (case k_law_fits => k_is)
    (case a_law_is_writer => k_is)
    (case l_law_is_writer => k_is)
    (case c_law_is_writer => k_is)
    (case k_law_is_writer => k_is)
    (case a_law_is_cleaner => k_is)
    (case l_law_is_cleaner => k_is)
    (case c_law_is_cleaner => k_is)
    (case k_law_is_cleaner => k_is)
    (case a_law_is_reader => k_is)
    (case l_law_is_reader => k_is)
    (case c_law_is_reader => k_is)
    (case k_law_is_reader => k_is)
    (case a_law_spoilt => k_is)
    (case l_law_spoilt => k_is)
    (case c_law_spoilt => k_is)
    (case k_law_spoilt => k_is)
    (case a_law => k_is)
    (case l_law => k_is)
    (case c_law => k_is)
    (case k_law => k_is)
    (case gW => k_is)
    (case lkW => k_is)
    (case clW => rfl)
    (case szW => decide)
    (case vlW => exact .cons ⟨_, rfl⟩ (.cons ⟨_, rfl⟩ (.cons ⟨_, rfl⟩ (.cons ⟨_, rfl⟩ (.cons ⟨_, rfl⟩ (.cons ⟨_, rfl⟩ .nil))))))
    (case gC => k_is)
    (case lkC => k_is)
    (case clC => rfl)
    (case szC => decide)
    (case vlC => exact .cons ⟨_, rfl⟩ (.cons ⟨_, rfl⟩ (.cons ⟨_, rfl⟩ (.cons ⟨_, rfl⟩ (.cons ⟨_, rfl⟩ (.cons ⟨_, rfl⟩ .nil))))))
    (case gR => k_is)
    (case lkR => k_is)
    (case clR => rfl)
    (case szR => decide)
    (case vlR => exact .cons ⟨_, rfl⟩ (.cons ⟨_, rfl⟩ (.cons ⟨_, rfl⟩ (.cons ⟨_, rfl⟩ (.cons ⟨_, rfl⟩ (.cons ⟨_, rfl⟩ .nil))))))
    (case z_len => k_is)
    (case z_int => k_is)
    (case z_isinstance => k_is)
    (case z_range => k_is)
    (case z_list => k_is)
    (case z_tuple => k_is)
    (case z_str => k_is)
    (case z_all => k_is)
    (case z_set => k_is)
