import PyProof.Rows.All
import Wide.All
import OpenK.AllK
import Wide.FinOn
import PyProof.EqAt
import PyProof.EqKinds
import PyProof.TupleCall
import KE.KOpsOwn
import HandS.ForMost
import HandS.OwnEq
import HandS.Star
import HandS.ClsMeth
import HandS.IsInst
import HandS.Codes
import HandS.Flow
import HandS.Wide
import PySem.Challenge.RW_trustedpages_k12_marks_joined_and_cut
import KE.KExcIs
import HandS.ExcInit
import HandS.ExcField
import HandS.ExcIs
import HandS.ExcOwn
import HandS.MakeKw
import HandS.MakeKwOnly
import HandS.Defaults
import HandS.Property
import HandS.WordsExc
import PyProof.ReprRoads
import PyProof.CallFns
import HandS.Ends
import HandS.Walk
import Open.Row
import KE.RegKIsAll
set_option Elab.async false
set_option linter.all false
set_option maxRecDepth 100000
set_option maxHeartbeats 2000000
/-! own operators, static methods, an own class called with a star -/
namespace Vx
open PySem PySem.Spec PyProof.Rows L2
section
variable {P : Program} {w : World} {K : PySem.W.Frag} {mg : Str → Option Value} {base : Heap} {CX : CXT} {k : Nat} {f : Addr} {fd : FuncData} {ps : List Str} {sp : Sp}
theorem fnR (F : FnOk P w K mg base CX k f fd ps sp) (hb : L2.Binds K fd ps []) : FnR P w K mg base CX k f sp := by
  intro A outer s H us vs Q E hr e0 r hsp
  have hl := F.len _ _ _ _ hsp
  have KX : K.In s.heap := e0.mod.kin.keeps fun b o e => (e0.bs b o e).1
  refine F.run A outer s H ⟨us, []⟩ us vs Q E hr e0 ?_ r hsp
  have := hb s us KX (by rw [List.append_nil, ← r.length]; exact hl)
  simpa using this
end
section
variable {X : Cx} {CX : CXT} {k : Nat} {C f : Addr} {sp : Sp} {E : XK} {pins : List (Addr × Obj)} {σ : L2.St} {H : Hp} {s : Shared} {Q : VK}
theorem cmpBack_of {v : Value} {s' : Shared} (h : EP X pins σ Q v s') : PySem.W.CmpBack (EP X pins σ Q) v s' := by
  cases v with
  | notImplemented =>
    obtain ⟨v', H', I', r, q⟩ := h
    cases v' with
    | int i => obtain ⟨t, e⟩ := r; cases e
    | str i => obtain ⟨t, e⟩ := r; cases e
    | byt i => obtain ⟨t, e⟩ := r; cases e
    | flt i => obtain ⟨t, e⟩ := r; cases e
    | non => cases r
    | bl b => cases r
    | ref a => cases r
    | ty n => cases r
  | _ => exact h
theorem call_cmp {us : List Value} {vs : List V} (F : FnR X.prog X.w X.K X.mg X.base CX k f sp) (hr : Room k X.A) (hx : Passes CX X E) (I : L2.Inv X pins σ H s) (r : Vals vs us) (h : sp vs H Q E) :
    wpAny (model X.prog X.w) X.A (call (.ref f) us) (PySem.W.CmpBack (EP X pins σ Q)) X.xe s :=
  wpAny_mono (wpAny_call (run_fnR F hr hx I r h)) (fun _ _ z => cmpBack_of z) fun _ _ z => z
/-- o op y by the own method of o's class; y of the same class, or an int -/
def rOwn (C : Addr) (sp : Sp) (E : XK) : R2 := fun x y H Q => (∃ a dx fs, x = .ref a ∧ H a = some (.ins C dx fs)) ∧ ((∃ b dy gs, y = .ref b ∧ H b = some (.ins C dy gs)) ∨ ∃ i, y = .int i) ∧ sp [x, y] H Q E
/-- what the text says of an operator of the class at C -/
structure OpF (K : PySem.W.Frag) (C f : Addr) (op : Operator) : Prop where
  sf : PySem.W.selfFirst K C = true
  at_ : PySem.W.findIn K (.ref C) (PySem.dunder op.info.2) = some (some (.ref f))
  fn : PySem.W.isFn K (.ref f) = true
  rf : ∃ rc, PySem.W.findIn K (.ref C) (PySem.dunderR op.info.2) = some rc ∧ (rc = none ∨ ∃ g : Addr, rc = some (.ref g))
  i1 : ∃ fo, PySem.W.findIn K (.type "int") (PySem.dunder op.info.2) = some fo
  i2 : ∃ ro, PySem.W.findIn K (.type "int") (PySem.dunderR op.info.2) = some ro
  sub : PySem.W.subIn K (.type "int") (.ref C) = some false
theorem op_own {op : Operator} (O : OpF X.K C f op) (F : FnR X.prog X.w X.K X.mg X.base CX k f sp) (hr : Room k X.A) (hx : Passes CX X E) : OpR X (binaryOp op) (rOwn C sp E) := by
  intro pins s σ H x y v u Q I rx ry hq
  obtain ⟨⟨a, dx, fs, rfl, ha⟩, hy, hsp⟩ := hq
  have ev : v = Value.ref a := rx
  have cl := call_cmp F hr hx I (us := [v, u]) (vs := [V.ref a, y]) (.cons rx (.cons ry .nil)) hsp
  subst ev
  obtain ⟨mA, J, _⟩ := ins_get I.hok ha
  obtain ⟨od, J, _⟩ := J.look
  obtain ⟨m, hF⟩ := I.fr
  rcases hy with ⟨b, dy, gs, rfl, hb⟩ | ⟨i, rfl⟩
  · have eu : u = Value.ref b := ry
    subst eu
    obtain ⟨mB, J', _⟩ := ins_get I.hok hb
    obtain ⟨od', J', _⟩ := J'.look
    exact PySem.W.binop_K hF I.ok.mod.kin J J'.type O.sf O.at_ O.fn cl
  · obtain ⟨t, rfl⟩ := ry
    obtain ⟨rc, r1, r2⟩ := O.rf
    obtain ⟨fo, i1⟩ := O.i1
    obtain ⟨ro, i2⟩ := O.i2
    exact PySem.W.ksp_binT (T := "int") hF I.ok.mod.kin J rfl O.sf O.at_ O.fn r1 r2 i1 i2 O.sub cl
/-- o cmp y by the own method, y of the same class -/
def rCmp (C : Addr) (sp : Sp) (E : XK) : R2 := fun x y H Q => (∃ a dx fs, x = .ref a ∧ H a = some (.ins C dx fs)) ∧ (∃ b dy gs, y = .ref b ∧ H b = some (.ins C dy gs)) ∧ sp [x, y] H Q E
theorem op_cmpOwn {op : CmpOp} (hc : ∀ v u, compareOp op v u = richCompare op v u) (nf : PySem.W.notFirst X.K C (.ref C) = true) (at_ : PySem.W.findIn X.K (.ref C) (cmpInfo op).2.1 = some (some (.ref f))) (fn : PySem.W.isFn X.K (.ref f) = true)
    (F : FnR X.prog X.w X.K X.mg X.base CX k f sp) (hr : Room k X.A) (hx : Passes CX X E) : OpR X (compareOp op) (rCmp C sp E) := by
  intro pins s σ H x y v u Q I rx ry hq
  obtain ⟨⟨a, dx, fs, rfl, ha⟩, ⟨b, dy, gs, rfl, hb⟩, hsp⟩ := hq
  have ev : v = Value.ref a := rx
  have eu : u = Value.ref b := ry
  have cl := call_cmp F hr hx I (us := [v, u]) (vs := [V.ref a, V.ref b]) (.cons rx (.cons ry .nil)) hsp
  subst ev eu
  obtain ⟨mA, J, _⟩ := ins_get I.hok ha
  obtain ⟨od, J, _⟩ := J.look
  obtain ⟨mB, J', _⟩ := ins_get I.hok hb
  obtain ⟨od', J', _⟩ := J'.look
  obtain ⟨m, hF⟩ := I.fr
  rw [hc]
  exact PySem.W.cmp_K hr.units0 hF I.ok.mod.kin J J'.type nf at_ fn cl
/-- x in o by the own method -/
def rInOwn (C : Addr) (sp : Sp) (E : XK) (neg : Bool) : R2 := fun x y H Q => (∃ a dx fs, y = .ref a ∧ H a = some (.ins C dx fs)) ∧ sp [y, x] H (fun v H' => ∃ b, v = .bl b ∧ Q (.bl (if neg then !b else b)) H') E
theorem op_inOwn (at_ : PySem.W.findIn X.K (.ref C) "__contains__" = some (some (.ref f))) (fn : PySem.W.isFn X.K (.ref f) = true)
    (F : FnR X.prog X.w X.K X.mg X.base CX k f sp) (hr : Room k X.A) (hx : Passes CX X E) : OpR X (compareOp .In) (rInOwn C sp E false) := by
  intro pins s σ H x y v u Q I rx ry hq
  obtain ⟨⟨a, dx, fs, rfl, ha⟩, hsp⟩ := hq
  have eu : u = Value.ref a := ry
  have cl := wpAny_call (run_fnR (us := [u, v]) (vs := [V.ref a, x]) F hr hx I (.cons ry (.cons rx .nil)) hsp)
  subst eu
  obtain ⟨mA, J, _⟩ := ins_get I.hok ha
  obtain ⟨od, J, _⟩ := J.look
  obtain ⟨m, hF⟩ := I.fr
  refine PySem.W.in_K hF I.ok.mod.kin J at_ fn (wpAny_mono cl (fun r s' z => ?_) fun _ _ z => z)
  obtain ⟨v', H', I', rv, b, rfl, q⟩ := z
  have er : r = Value.bool b := rv
  subst er
  exact wpAny_truthy_bool ⟨.bl b, H', I', rfl, q⟩
end
/-! static methods -/
structure SMet (K : PySem.W.Frag) (C : Addr) (mc : Value) (m : Str) (p g : Addr) : Prop where
  at_ : PySem.W.findCls K (.ref C) mc m = some (.get (.builtin "staticmethod.__get__") (.ref p) .none (.ref C))
  rc : ∃ rest, PySem.W.recIn K p "staticmethod" = some (.ref g :: rest)
  kp : PySem.W.keepIn K (.ref g) = true
def tSMeth (C : Addr) (sp : Sp) (E : XK) (ta : TE) (t : TA) : TE := fun σ H Q => ta σ H fun x H1 => x = .ref C ∧ t σ H1 fun vs H2 => sp vs H2 Q E
section
variable {X : Cx} {CX : CXT} {k : Nat} {C p g : Addr} {mc : Value} {sp : Sp} {E : XK} {o e : Expr} {es : List Expr} {m : Str} {pos apos : Pos} {ta : TE} {t : TA} {pl : Sem Bool}
theorem pe_smeth (he : PE X o ta) (r : ClX.CRead X.K C mc) (c : SMet X.K C mc m p g) (F : FnR X.prog X.w X.K X.mg X.base CX k g sp) (hr : Room k X.A) (hx : Passes CX X E) (ha : PA X (e :: es) t)
    (hst : starEach (e :: es) X.env = (false, eval e X.env) :: starEach es X.env := by rfl) (hpl : (backTo pos (starEach es X.env)).any (·.1) = false := by rfl)
    (ht : eval (.Call (.Attribute o m apos) (e :: es) [] pos) X.env = (do
      let ov ← eval o X.env
      standAt apos.atName
      let (f, first) ← holding [ov] (getMethod ov m pl)
      callWith pos f first (backTo pos (starEach (e :: es) X.env)) (backToKw pos (keywordEach [] X.env))) := by rfl) :
    PE X (.Call (.Attribute o m apos) (e :: es) [] pos) (tSMeth C sp E ta t) := by
  refine ⟨fun pins s σ H Q I h => ?_⟩
  refine PySem.W.methodCall_KW (pl := pl) (thn (he.run pins s σ H _ I h) fun u s1 ⟨x, H1, I1, rx, ex, q⟩ => ?_) ht
  subst ex
  obtain rfl : u = Value.ref C := rx
  obtain ⟨rest, hp⟩ := c.rc
  refine PySem.W.method_cls I1.kIn r.ga (PySem.W.cls_bind I1.kIn r.rd c.at_ (wpAny_call (PySem.W.sm_get (s := { s1 with toks := s1.toks + 1 }) I1.kIn hp (PySem.W.handed_on rfl ?_))))
  have I2 : L2.Inv X pins σ H1 { s1 with toks := s1.toks + 1 } := I1.tok _
  refine PySem.W.callWith_K (h₀ := X.base) I2.ok.mod.kin c.kp (thn (ha.run pos pins _ σ H1 _ I2 q) fun us s3 ⟨vs, H2, I3, rv, q2⟩ => ⟨I3.kIn, ?_⟩) hst hpl
  exact wpAny_call (run_fnR F hr hx I3 rv q2)
end
/-! C(*xs) -/
section
variable {X : Cx} {CX : CXT} {k : Nat} {f C : Addr} {sp : Sp} {E : XK} {x : Str} {e : Expr} {te : TE} {p pos sp_ : Pos}
def tMakeS (K : PySem.W.Frag) (C : Addr) (sp : Sp) (E : XK) (te : TE) : TE := fun σ H Q => te σ H fun y H1 => ∃ a xs, y = V.ref a ∧ (SqT K H1 a xs ∨ SqL K H1 a xs) ∧ ∀ x dx, H1 x = Option.none → H1 dx = Option.none → dx ≠ x →
  sp (V.ref x :: xs) (upd (upd H1 dx (.own x)) x (.ins C dx [])) (fun v H2 => v = .non ∧ Q (.ref x) H2) E
theorem pe_makeS (M : Mk X.K C f) (F : FnR X.prog X.w X.K X.mg X.base CX k f sp) (hr : Room (k + 1) X.A) (hg : Gl X x) (hm : X.mg x = some (.ref C)) (hx : Passes CX X E) (he : PE X e te) (hd : (x == ("__debug__" : Str)) = false := by decide)
    (hst : starEach [.Starred e sp_] X.env = [(true, eval e X.env)] := by rfl) :
    PE X (.Call (.Name x p) [.Starred e sp_] [] pos) (tMakeS X.K C sp E te) := by
  refine ⟨fun pins s σ H Q I h => ?_⟩
  refine wpAny_Call_Name_kw (ld_glob I hg hm ?_ hd)
  refine PySem.W.callWith_S (h₀ := X.base) I.ok.mod.kin M.kp (thn (he.run pins s σ H _ I h) fun v s1 ⟨y, H1, I1, ry, a, xs, ey, hxs, q⟩ => ?_) hst
  subst ey
  obtain rfl : v = Value.ref a := ry
  exact StX.star_any I1 hxs fun us s2 I2 rv => ⟨I2.kIn, StX.run_makeR M F hr hx I2 rv q⟩
def tMakeZ (C : Addr) (sp : Sp) (E : XK) : TE := fun _ H Q => ∀ x dx, H x = Option.none → H dx = Option.none → dx ≠ x →
  sp [V.ref x] (upd (upd H dx (.own x)) x (.ins C dx [])) (fun v H2 => v = .non ∧ Q (.ref x) H2) E
end
end Vx
set_option Elab.async false
set_option linter.all false
set_option maxRecDepth 100000
namespace Toy
open PySem PySem.Spec PyProof.Rows L2
def topS (i : Nat) : Stmt := PySem.Challenge.pw_trustedpages_k12_marks_joined_and_cut.main.body.getD i (.Pass ⟨0, 0, 0, 0⟩)
abbrev s_wall : Stmt := topS 0
theorem sc_wall : FnScope ["k"] ["k"] (defScope s_wall) := ⟨rfl, rfl, rfl, by decide +kernel, rfl, by decide +kernel, by decide +kernel⟩
-- wall cells []
abbrev s_BadBytes_init : Stmt := inClass (topS 3) 0
theorem sc_BadBytes_init : FnScope ["self", "at"] ["self", "at"] (defScope s_BadBytes_init) := ⟨rfl, rfl, rfl, by decide +kernel, rfl, by decide +kernel, by decide +kernel⟩
-- BadBytes_init cells []
abbrev s_BadMarks_init : Stmt := inClass (topS 4) 0
theorem sc_BadMarks_init : FnScope ["self", "at"] ["self", "at"] (defScope s_BadMarks_init) := ⟨rfl, rfl, rfl, by decide +kernel, rfl, by decide +kernel, by decide +kernel⟩
-- BadMarks_init cells []
abbrev s_is_whole : Stmt := topS 6
theorem sc_is_whole : FnScope ["value"] ["value"] (defScope s_is_whole) := ⟨rfl, rfl, rfl, by decide +kernel, rfl, by decide +kernel, by decide +kernel⟩
-- is_whole cells []
abbrev s_is_between : Stmt := topS 7
theorem sc_is_between : FnScope ["value", "low", "high"] ["value", "low", "high"] (defScope s_is_between) := ⟨rfl, rfl, rfl, by decide +kernel, rfl, by decide +kernel, by decide +kernel⟩
-- is_between cells []
abbrev s_Made_init : Stmt := inClass (topS 10) 0
theorem sc_Made_init : FnScope ["self", "flags"] ["self", "flags"] (defScope s_Made_init) := ⟨rfl, rfl, rfl, by decide +kernel, rfl, by decide +kernel, by decide +kernel⟩
-- Made_init cells []
abbrev s_pairs : Stmt := topS 11
theorem sc_pairs : FnScope ["one", "other", "k"] ["one", "other"] (defScope s_pairs) := ⟨rfl, rfl, rfl, by decide +kernel, rfl, by decide +kernel, by decide +kernel⟩
-- pairs cells ['one', 'other']
abbrev s_either : Stmt := topS 12
theorem sc_either : FnScope ["one", "other", "a", "b"] ["one", "other"] (defScope s_either) := ⟨rfl, rfl, rfl, by decide +kernel, rfl, by decide +kernel, by decide +kernel⟩
-- either cells []
abbrev s_both : Stmt := topS 13
theorem sc_both : FnScope ["one", "other", "a", "b"] ["one", "other"] (defScope s_both) := ⟨rfl, rfl, rfl, by decide +kernel, rfl, by decide +kernel, by decide +kernel⟩
-- both cells []
abbrev s_Marks_init : Stmt := inClass (topS 14) 0
theorem sc_Marks_init : FnScope ["self", "many"] ["self", "many"] (defScope s_Marks_init) := ⟨rfl, rfl, rfl, by decide +kernel, rfl, by decide +kernel, by decide +kernel⟩
-- Marks_init cells []
abbrev s_Marks_read : Stmt := inClass (topS 14) 1
theorem sc_Marks_read : FnScope ["many", "data", "marks", "number", "k"] ["many", "data"] (defScope s_Marks_read) := ⟨rfl, rfl, rfl, by decide +kernel, rfl, by decide +kernel, by decide +kernel⟩
-- Marks_read cells []
abbrev s_Marks_raw : Stmt := inClass (topS 14) 2
theorem sc_Marks_raw : FnScope ["self"] ["self"] (defScope s_Marks_raw) := ⟨rfl, rfl, rfl, by decide +kernel, rfl, by decide +kernel, by decide +kernel⟩
-- Marks_raw cells []
abbrev s_Marks_pages : Stmt := inClass (topS 14) 3
theorem sc_Marks_pages : FnScope ["self", "k", "flag"] ["self"] (defScope s_Marks_pages) := ⟨rfl, rfl, rfl, by decide +kernel, rfl, by decide +kernel, by decide +kernel⟩
-- Marks_pages cells []
abbrev s_Marks_twin : Stmt := inClass (topS 14) 4
theorem sc_Marks_twin : FnScope ["self"] ["self"] (defScope s_Marks_twin) := ⟨rfl, rfl, rfl, by decide +kernel, rfl, by decide +kernel, by decide +kernel⟩
-- Marks_twin cells []
abbrev s_Marks_len : Stmt := inClass (topS 14) 5
theorem sc_Marks_len : FnScope ["self"] ["self"] (defScope s_Marks_len) := ⟨rfl, rfl, rfl, by decide +kernel, rfl, by decide +kernel, by decide +kernel⟩
-- Marks_len cells []
abbrev s_Marks_iter : Stmt := inClass (topS 14) 6
theorem sc_Marks_iter : FnScope ["self"] ["self"] (defScope s_Marks_iter) := ⟨rfl, rfl, rfl, by decide +kernel, rfl, by decide +kernel, by decide +kernel⟩
-- Marks_iter cells []
abbrev s_Marks_getitem : Stmt := inClass (topS 14) 7
theorem sc_Marks_getitem : FnScope ["self", "at"] ["self", "at"] (defScope s_Marks_getitem) := ⟨rfl, rfl, rfl, by decide +kernel, rfl, by decide +kernel, by decide +kernel⟩
-- Marks_getitem cells []
abbrev s_Marks_setitem : Stmt := inClass (topS 14) 8
theorem sc_Marks_setitem : FnScope ["self", "at", "value"] ["self", "at", "value"] (defScope s_Marks_setitem) := ⟨rfl, rfl, rfl, by decide +kernel, rfl, by decide +kernel, by decide +kernel⟩
-- Marks_setitem cells []
abbrev s_Marks_or : Stmt := inClass (topS 14) 9
theorem sc_Marks_or : FnScope ["self", "other"] ["self", "other"] (defScope s_Marks_or) := ⟨rfl, rfl, rfl, by decide +kernel, rfl, by decide +kernel, by decide +kernel⟩
-- Marks_or cells []
abbrev s_Marks_and : Stmt := inClass (topS 14) 10
theorem sc_Marks_and : FnScope ["self", "other"] ["self", "other"] (defScope s_Marks_and) := ⟨rfl, rfl, rfl, by decide +kernel, rfl, by decide +kernel, by decide +kernel⟩
-- Marks_and cells []
abbrev s_Marks_ior : Stmt := inClass (topS 14) 11
theorem sc_Marks_ior : FnScope ["self", "other"] ["self", "other"] (defScope s_Marks_ior) := ⟨rfl, rfl, rfl, by decide +kernel, rfl, by decide +kernel, by decide +kernel⟩
-- Marks_ior cells []
abbrev s_Marks_iand : Stmt := inClass (topS 14) 12
theorem sc_Marks_iand : FnScope ["self", "other"] ["self", "other"] (defScope s_Marks_iand) := ⟨rfl, rfl, rfl, by decide +kernel, rfl, by decide +kernel, by decide +kernel⟩
-- Marks_iand cells []
abbrev s_Marks_eq : Stmt := inClass (topS 14) 13
theorem sc_Marks_eq : FnScope ["self", "other"] ["self", "other"] (defScope s_Marks_eq) := ⟨rfl, rfl, rfl, by decide +kernel, rfl, by decide +kernel, by decide +kernel⟩
-- Marks_eq cells []
abbrev s_Marks_le : Stmt := inClass (topS 14) 14
theorem sc_Marks_le : FnScope ["self", "other", "a", "b"] ["self", "other"] (defScope s_Marks_le) := ⟨rfl, rfl, rfl, by decide +kernel, rfl, by decide +kernel, by decide +kernel⟩
-- Marks_le cells []
abbrev s_law_pot : Stmt := topS 16
theorem sc_law_pot : FnScope ["script", "cell"] ["script"] (defScope s_law_pot) := ⟨rfl, rfl, rfl, by decide +kernel, rfl, by decide +kernel, by decide +kernel⟩
-- law_pot cells []
abbrev s_law_draw : Stmt := topS 17
theorem sc_law_draw : FnScope ["pot", "many", "cells", "at", "cell"] ["pot", "many"] (defScope s_law_draw) := ⟨rfl, rfl, rfl, by decide +kernel, rfl, by decide +kernel, by decide +kernel⟩
-- law_draw cells []
abbrev s_law_marks : Stmt := topS 18
theorem sc_law_marks : FnScope ["truths", "marks", "at", "truth"] ["truths"] (defScope s_law_marks) := ⟨rfl, rfl, rfl, by decide +kernel, rfl, by decide +kernel, by decide +kernel⟩
-- law_marks cells []
abbrev s_law_truths : Stmt := topS 19
theorem sc_law_truths : FnScope ["marks", "at"] ["marks"] (defScope s_law_truths) := ⟨rfl, rfl, rfl, by decide +kernel, rfl, by decide +kernel, by decide +kernel⟩
-- law_truths cells ['marks']
abbrev s_law_refused : Stmt := topS 20
theorem sc_law_refused : FnScope ["one", "other", "word", "told", "e"] ["one", "other", "word"] (defScope s_law_refused) := ⟨rfl, rfl, rfl, by decide +kernel, rfl, by decide +kernel, by decide +kernel⟩
-- law_refused cells []
abbrev s_law_in_place : Stmt := topS 21
theorem sc_law_in_place : FnScope ["one", "other", "a", "b", "joined", "cut", "same", "mate", "given"] ["one", "other", "a", "b", "joined", "cut"] (defScope s_law_in_place) := ⟨rfl, rfl, rfl, by decide +kernel, rfl, by decide +kernel, by decide +kernel⟩
-- law_in_place cells []
abbrev s_law : Stmt := topS 22
theorem sc_law : FnScope ["script", "pot", "many", "a", "b", "one", "other", "inside", "word", "joined", "cut", "both", "common", "k"] ["script"] (defScope s_law) := ⟨rfl, rfl, rfl, by decide +kernel, rfl, by decide +kernel, by decide +kernel⟩
-- law cells ['pot', 'a', 'b']
end Toy
set_option Elab.async false
set_option linter.all false
set_option maxRecDepth 100000
set_option maxHeartbeats 2000000
namespace Toy
open PySem PySem.Spec PyProof.Rows L2
/-! ### heaps -/
theorem same_upd {H : Hp} {p : Addr} {o : HO} (h : H p = none) : Same H (upd H p o) := fun b x e => by
  rw [upd_ne (ne_of_none e h)]
  exact e
/-! ### moments as numbers -/
def mo (n : Nat) : List (Str × V) := [("_number", .int n)]
def MoAt (C : Addr) (H : Hp) (p : Addr) (n : Nat) : Prop := n < 2147483648 ∧ ∃ dx, H p = some (.ins C dx (mo n))
theorem MoAt.same {C : Addr} {H H' : Hp} {p : Addr} {n : Nat} (h : MoAt C H p n) (s : Same H H') : MoAt C H' p n := ⟨h.1, h.2.imp fun _ e => s _ _ e⟩
def vi (k : Nat) : V := .int k
def bits (n : Nat) : List Nat := (List.range 31).filter fun k => n.testBit k
/-- what the text says of the class and the names -/
structure Txt (K : PySem.W.Frag) (mg : Str → Option Value) (C : Addr) : Prop where
  cl : Cls K C
  nN : NoAttr K C "_number"
  mgC : mg "Moment" = some (.ref C)
  len : mg "len" = none
  int : mg "int" = none
  bool : mg "bool" = none
  isi : mg "isinstance" = none
  range : mg "range" = none
  sum : mg "sum" = none
  list : mg "list" = none
  cC : PySem.W.findIn K (.ref C) "__class__" = some (some (.builtin "object.__class__"))
  cG : PySem.W.specialIn K (.builtin "object.__class__") "__get__" = some (some (.builtin "getset_descriptor.__get__"))
  cT : PySem.W.takesIn K (.builtin "object.__class__") = some true
  cM : PySem.W.mroIn K C (.type "object") = some true
  kCC : PySem.W.kitOne K (.ref C) (.ref C) = some true
  kIC : PySem.W.kitOne K (.type "int") (.ref C) = some false
  lw : ∃ t, mg "LAST_WRITER" = some (.int 30 t)
  ln : ∃ t, mg "LAST_NUMBER" = some (.int 2147483647 t)
section
variable {P : Program} {w : World} {K : PySem.W.Frag} {mg : Str → Option Value} {base : Heap} {C : Addr}
/-! ### is_whole -/
def spWhole : Sp := fun vs H Q _ => ∃ i : Int, vs = [.int i] ∧ Q (.bl true) H
theorem ok_is_whole {f : Addr} {fd : FuncData} (F : Fun K "is_whole" "is_whole" s_is_whole f fd) (T : Txt K mg C) : FnOk P w K mg base CX0 1 f fd ["value"] spWhole := by
  refine F.ok sc_is_whole (fun vs H Q E h => ?_) (fun cdv A outer s H vs Q E hr h => ?_)
  · obtain ⟨i, rfl, _⟩ := h
    rfl
  · obtain ⟨i, rfl, q⟩ := h
    refine ⟨_, pss_one (ps_ret (pe_and (pe_callB call_isi (by rfl) T.isi (by decide +kernel) (pa_cons (pv 0) (pa_cons (pe_bltn (v := .ty "int") (by rfl) T.int (by decide +kernel) rfl) pa_nil)))
      (pe_one (pe_not (pe_callB call_isi (by rfl) T.isi (by decide +kernel) (pa_cons (pv 0) (pa_cons (pe_bltn (v := .ty "bool") (by rfl) T.bool (by decide +kernel) rfl) pa_nil))))))), ?_⟩
    refine ⟨_, rfl, .int i, .ty "int", _, _, true, rfl, .ty _, .base (.int i), kit_ty (by decide +kernel), true, rfl, iteT ?_⟩
    exact ⟨_, rfl, .int i, .ty "bool", _, _, false, rfl, .ty _, .base (.int i), kit_ty (by decide +kernel), false, rfl, q⟩
/-! ### is_between -/
def spBetw : Sp := fun vs H Q _ => ∃ i l h : Int, vs = [.int i, .int l, .int h] ∧ Q (.bl (decide (l ≤ i ∧ i ≤ h))) H
theorem ok_is_between {f fW : Addr} {fd fdW : FuncData} (F : Fun K "is_between" "is_between" s_is_between f fd) (T : Txt K mg C) (FW : Fun K "is_whole" "is_whole" s_is_whole fW fdW) (bW : L2.Binds K fdW ["value"] []) (gW : mg "is_whole" = some (.ref fW)) :
    FnOk P w K mg base CX0 2 f fd ["value", "low", "high"] spBetw := by
  have GW : FnOk P w K mg base CX0 1 fW fdW ["value"] spWhole := ok_is_whole FW T
  refine F.ok sc_is_between (fun vs H Q E h => ?_) (fun cdv A outer s H vs Q E hr h => ?_)
  · obtain ⟨i, l, h, rfl, _⟩ := h
    rfl
  · obtain ⟨i, l, u, rfl, q⟩ := h
    refine ⟨_, pss_one (ps_ret (pe_and (pe_call GW hr (by rfl) gW FW.kp bW .nil pass0 (pa_cons (pv 0) pa_nil)) (pe_one (pe_chain op_le op_le (pv 1) (pv 0) (pv 2))))), ?_⟩
    refine ⟨_, rfl, i, rfl, true, rfl, iteT ?_⟩
    refine ⟨_, rfl, _, rfl, l, i, rfl, rfl, decide (l ≤ i), rfl, ?_⟩
    by_cases h1 : l ≤ i
    · rw [decide_eq_true h1]
      refine iteT ⟨_, rfl, i, u, rfl, rfl, ?_⟩
      have e : decide (l ≤ i ∧ i ≤ u) = decide (i ≤ u) := by by_cases h2 : i ≤ u <;> simp [h1, h2]
      rw [e] at q
      exact q
    · rw [decide_eq_false h1]
      have e : decide (l ≤ i ∧ i ≤ u) = false := by simp [h1]
      rw [e] at q
      exact iteF q
end
end Toy
set_option Elab.async false
set_option linter.all false
set_option maxRecDepth 100000
set_option maxHeartbeats 2000000
namespace Toy
open PySem PySem.Spec PyProof.Rows L2
/-! ### the mathematics of bits -/
theorem bits_succ (p : Nat → Bool) (i : Nat) : (List.range (i + 1)).filter p = if p i = true then (List.range i).filter p ++ [i] else (List.range i).filter p := by
  rw [List.range_succ, List.filter_append]
  by_cases h : p i = true
  · rw [if_pos h, List.filter_cons_of_pos h]
    rfl
  · rw [if_neg h, List.filter_cons_of_neg h, List.filter_nil, List.append_nil]
theorem mod_succ (n i : Nat) : n % 2 ^ (i + 1) = n % 2 ^ i + (if n.testBit i = true then 2 ^ i else 0) := by
  rw [Nat.pow_succ, Nat.mod_mul, Nat.testBit_eq_decide_div_mod_eq]
  by_cases h : n / 2 ^ i % 2 = 1
  · rw [h, if_pos (by decide), Nat.mul_one]
  · have h0 : n / 2 ^ i % 2 = 0 := by omega
    rw [h0, if_neg (by decide), Nat.mul_zero]
theorem sum_bits (n : Nat) : ∀ i : Nat, (((List.range i).filter fun k => n.testBit k).map fun k => ((2 ^ k : Nat) : Int)).sum = ((n % 2 ^ i : Nat) : Int)
  | 0 => by simp [Nat.mod_one]
  | i + 1 => by
    have ih := sum_bits n i
    rw [bits_succ, mod_succ]
    by_cases h : n.testBit i = true
    · rw [if_pos h, if_pos h, List.map_append, List.sum_append, ih]
      simp
    · rw [if_neg h, if_neg h, ih]
      simp
theorem mem_bits {n k : Nat} : k ∈ bits n ↔ k < 31 ∧ n.testBit k = true := by
  unfold bits
  rw [List.mem_filter, List.mem_range]
theorem inV_vi (k : Nat) (ws : List Nat) : inV (vi k) (ws.map vi) = decide (k ∈ ws) := by
  unfold inV
  induction ws with
  | nil => rfl
  | cons a r ih =>
    rw [List.map_cons, List.any_cons, ih]
    show ((((a : Nat) : Int) == ((k : Nat) : Int)) || decide (k ∈ r)) = decide (k ∈ a :: r)
    by_cases h : a = k
    · subst h
      simp
    · have h1 : (((a : Nat) : Int) == ((k : Nat) : Int)) = false := by
        simp
        omega
      rw [h1]
      have h2 : k ≠ a := fun e => h e.symm
      simp [h2]
theorem flat_vi (ws : List Nat) : (ws.map vi).all flatV = true := by
  rw [List.all_map]
  simp [Function.comp, vi, flatV]
theorem filter_bits_mem (n : Nat) (i : Nat) (hi : i ≤ 31) : (List.range i).filter (fun k => decide (k ∈ bits n)) = (List.range i).filter (fun k => n.testBit k) := by
  apply List.filter_congr
  intro k hk
  have h : k < 31 := Nat.lt_of_lt_of_le (List.mem_range.mp hk) hi
  by_cases b : n.testBit k = true
  · rw [b]
    exact decide_eq_true (mem_bits.mpr ⟨h, b⟩)
  · have b' : n.testBit k = false := by simpa using b
    rw [b']
    exact decide_eq_false fun z => b (mem_bits.mp z).2
theorem bit_test (n k : Nat) : ((Builtin.bitAnd ((n : Int) / 2 ^ k) 1 : Int) != 0) = n.testBit k := by
  have e : ((n : Int) / 2 ^ k) = ((n / 2 ^ k : Nat) : Int) := by simp
  rw [e, bitAnd_pp (Int.natCast_nonneg _) (by decide), Int.toNat_natCast]
  show (((n / 2 ^ k &&& 1 : Nat) : Int) != 0) = _
  rw [Nat.testBit_eq_decide_div_mod_eq, Nat.and_one_is_mod]
  by_cases h : n / 2 ^ k % 2 = 1
  · rw [h]
    decide
  · have h0 : n / 2 ^ k % 2 = 0 := by omega
    rw [h0]
    decide
end Toy
set_option Elab.async false
set_option linter.all false
set_option maxRecDepth 100000
set_option maxHeartbeats 2000000
namespace Toy
open PySem PySem.Spec PyProof.Rows L2
/-! ### the pot of drawn numbers -/
def Pot (H : Hp) (p c : Addr) : Prop := ∃ (cs : List Int) (at_ : Nat) (x : Int), H p = some (.lst [.ref c, .int at_, .int x]) ∧ H c = some (.lst (cs.map V.int)) ∧ cs.length ≤ 63 ∧ 0 ≤ x ∧ x < 2147483647
theorem Pot.ne {H : Hp} {p c : Addr} (h : Pot H p c) : p ≠ c := by
  obtain ⟨cs, a, x, h1, h2, _⟩ := h
  intro e
  rw [e, h2] at h1
  injection h1 with h1
  injection h1 with h1
  cases cs with
  | nil => cases h1
  | cons y r => injection h1 with z; cases z
theorem Pot.same {H H' : Hp} {p c : Addr} (h : Pot H p c) (s : Same H H') : Pot H' p c := by
  obtain ⟨cs, a, x, h1, h2, r⟩ := h
  exact ⟨cs, a, x, s _ _ h1, s _ _ h2, r⟩
/-- all but the pot stays -/
def Kept (p c : Addr) (H H' : Hp) : Prop := ∀ b o, b ≠ p → b ≠ c → H b = some o → H' b = some o
theorem Kept.rfl' {p c : Addr} {H : Hp} : Kept p c H H := fun _ _ _ _ e => e
theorem Kept.trans {p c : Addr} {H H1 H2 : Hp} (a : Kept p c H H1) (b : Kept p c H1 H2) : Kept p c H H2 := fun x o n m e => b x o n m (a x o n m e)
theorem Kept.of_same {p c : Addr} {H H' : Hp} (s : Same H H') : Kept p c H H' := fun b o _ _ e => s b o e
theorem ixN_nat {n k : Nat} (h : k < n) : ixN n (k : Int) = some k := by
  unfold ixN
  rw [if_pos (Int.natCast_nonneg _), if_pos (by omega), Int.toNat_natCast]
theorem cut63 {xs : List V} (h : xs.length ≤ 63) : cutV xs none (some 63) = xs := by
  unfold cutV
  rw [HT.sIx_none, show HT.sIx xs.length xs.length (some 63) = min 63 xs.length from HT.sIx_nat xs.length xs.length 63, List.drop_zero, Nat.sub_zero]
  exact List.take_of_length_le (by omega)
section
variable {P : Program} {w : World} {K : PySem.W.Frag} {mg : Str → Option Value} {base : Heap} {C : Addr}
def spPot (K : PySem.W.Frag) : Sp := fun vs H Q _ => ∃ (a : Addr) (ns : List Int), vs = [.ref a] ∧ SqL K H a (ns.map V.int) ∧ ns.length ≤ 63 ∧ ∀ H' p c, Same H H' → H p = none → H c = none → Pot H' p c → Q (.ref p) H'
theorem ok_pot {f : Addr} {fd : FuncData} (F : Fun K "_law_pot" "_law_pot" s_law_pot f fd) (mi : mg "int" = none) : FnOk P w K mg base CX0 1 f fd ["script"] (spPot K) := by
  refine F.ok sc_law_pot (fun vs H Q E h => ?_) (fun cdv A outer s H vs Q E hr h => ?_)
  · obtain ⟨a, ns, rfl, _⟩ := h
    rfl
  · obtain ⟨a, ns, rfl, hS, hn, q⟩ := h
    refine ⟨_, pss_one (ps_ret (pe_lst (pa_cons (pe_lc (own := [("cell", 1)]) (g := gName 1) (tt := tYes) rfl sc_law_pot.nd (pi_list (pe_slice sl_list (pv 0) po_none (po_some pe_int)))
        (blkOk_by (own := [("cell", 1)]) (N := ["script", "cell"]) (sc := defScope s_law_pot) (by decide +kernel)) (fun _ _ _ _ _ => pg_name (i := 1) sc_law_pot.nd rfl (Or.inl rfl))
        (fun _ _ _ _ _ => pts_nil) (fun _ _ _ _ _ => pe_callTy call_int1 (by rfl) mi (by decide +kernel) (pa_cons (pv 1) pa_nil))) (pa_cons pe_int (pa_cons pe_int pa_nil))))), ?_⟩
    refine ⟨.ref a, rfl, 63, rfl, a, _, rfl, hS, fun b nb => ?_⟩
    rw [cut63 (by rw [List.length_map]; exact hn)]
    refine ⟨b, rfl, ⟨_, SqL.of upd_same⟩, fun D hD => ?_⟩
    have hb : (upd H b (.lst (ns.map V.int))) b = some (.lst (ns.map V.int)) := upd_same
    have s1 : Same H (upd H b (.lst (ns.map V.int))) := same_upd nb
    have hD0 : H D = none := s1.free hD
    refine lc_list (K := K) (a := b) (xs := ns.map V.int) (fun i H2 => Same (upd H b (.lst (ns.map V.int))) H2 ∧ H2 D = some (.lst ((ns.take i).map V.int))) ⟨same_upd hD, upd_same⟩ (fun i H2 _ z => SqL.of (z.1 _ _ hb)) ?_ ?_
    · rintro i x H2 hx ⟨s2, e2⟩
      obtain ⟨n, hi, rfl⟩ : ∃ n, ns[i]? = some n ∧ x = V.int n := by
        rw [List.getElem?_map] at hx
        cases e : ns[i]? with
        | none => rw [e] at hx; cases hx
        | some n => rw [e] at hx; exact ⟨n, rfl, (Option.some.inj hx).symm⟩
      refine ⟨rfl, ?_⟩
      refine ⟨_, rfl, .inl ⟨n, rfl, _, e2, ?_, fun d o e => ?_, ?_⟩⟩
      · rw [List.length_map, List.length_take]
        exact Nat.lt_of_le_of_lt (Nat.le_trans (Nat.min_le_right _ _) hn) (by decide)
      · rw [upd_ne (ne_of_none e hD)]
        exact s2 _ _ e
      · rw [upd_same, List.take_add_one, hi, List.map_append]
        rfl
    · rintro H2 ⟨s2, e2⟩
      rw [List.length_map, List.take_length] at e2
      refine ⟨(by show 3 ≤ sizeLine; decide), fun p np => ?_⟩
      have s3 : Same H (upd H2 p (.lst [.ref D, .int 0, .int 7])) := s1.trans (s2.trans (same_upd np))
      have hDp : D ≠ p := ne_of_none e2 np
      refine q _ p D s3 ((s1.trans s2).free np) hD0 ⟨ns, 0, 7, upd_same, by rw [upd_ne hDp]; exact e2, hn, by decide, by decide⟩
/-! ### a draw -/
def spDraw : Sp := fun vs H Q _ => ∃ (p c : Addr) (m : Int), vs = [.ref p, .int m] ∧ Pot H p c ∧ 0 < m ∧ m ≤ 1000000000000 ∧ ∀ H' r, Pot H' p c → Kept p c H H' → 0 ≤ r → r < m → Q (.int r) H'
theorem fmod_lt {a m : Int} (h : 0 < m) : 0 ≤ a.fmod m ∧ a.fmod m < m := by
  rw [Int.fmod_eq_emod_of_nonneg _ (Int.le_of_lt h)]
  exact ⟨Int.emod_nonneg _ (by omega), Int.emod_lt_of_pos _ h⟩
def nxt (x cell : Int) : Int := (x * 48271 + cell * 69621 + 11).fmod 2147483647
theorem ok_draw {f : Addr} {fd : FuncData} (F : Fun K "_law_draw" "_law_draw" s_law_draw f fd) (mi : mg "int" = none) (ml : mg "len" = none) : FnOk P w K mg base CX0 1 f fd ["pot", "many"] spDraw := by
  refine F.ok sc_law_draw (fun vs H Q E h => ?_) (fun cdv A outer s H vs Q E hr h => ?_)
  · obtain ⟨p, c, m, rfl, _⟩ := h
    rfl
  · obtain ⟨p, c, m, rfl, hP, hm, hm2, q⟩ := h
    refine ⟨_, pss_cons (ps_set (i := 2) sc_law_draw.nd rfl (Or.inl rfl) (pe_ix ix_list (pv 0) pe_int (fun _ _ => rfl)))
      (pss_cons (ps_set (i := 3) sc_law_draw.nd rfl (Or.inl rfl) (pe_ix ix_list (pv 0) pe_int (fun _ _ => rfl)))
      (pss_cons (ps_set (i := 4) sc_law_draw.nd rfl (Or.inl rfl) pe_int)
      (C8.pss_cut (ps_if (pt_cmpR op_lt (pv 3) (pe_callB call_len_seq (by rfl) ml PySem.boot_len (pa_cons (pv 2) pa_nil)) (nomark _))
        (pss_cons (ps_set (i := 4) sc_law_draw.nd rfl (Or.inl rfl) (pe_ix ix_list (pv 2) (pv 3) (fun _ _ => rfl)))
        (pss_cons (ps_if (pt_cmpR op_ge (pv 4) (pe_op op_pow pe_int pe_int) (nomark _))
          (pss_cons (ps_asg (pe_op op_fdivW (pv 4) (pv 1)) (pg_sub (pv 2) (pv 3) set_list))
          (pss_one (ps_ret (pe_op op_modN (pe_callTy call_int1 (by rfl) mi (by decide +kernel) (pa_cons (pv 4) pa_nil)) (pv 1))))) pss_nil)
        (pss_one (ps_asg (pe_op op_add (pv 3) pe_int) (pg_sub (pv 0) pe_int set_list))))) pss_nil)
      (pss_cons (ps_asg (pe_op op_modN (pe_callTy call_int1 (by rfl) mi (by decide +kernel) (pa_cons (pe_op op_add (pe_op op_add (pe_op op_mul (pe_ix ix_list (pv 0) pe_int (fun _ _ => rfl)) pe_int) (pe_op op_mul (pv 4) pe_int)) pe_int) pa_nil)) pe_int) (pg_sub (pv 0) pe_int set_list))
      (pss_one (ps_ret (pe_op op_modN (pe_callTy call_int1 (by rfl) mi (by decide +kernel) (pa_cons (pe_op op_add (pe_op op_fdivN (pe_op op_mul (pe_ix ix_list (pv 0) pe_int (fun _ _ => rfl)) pe_int) pe_int) (pe_ix ix_list (pv 0) pe_int (fun _ _ => rfl))) pa_nil)) (pv 1)))))))), ?_⟩
    have pc : p ≠ c := hP.ne
    obtain ⟨cs, at_, x, h1, h2, hl, x0, x1⟩ := hP
    refine ⟨_, rfl, p, _, _, _, rfl, rfl, SqL.of h1, rfl, ?_⟩
    refine ⟨_, rfl, p, _, _, _, rfl, rfl, SqL.of h1, rfl, ?_⟩
    refine ⟨fun σ' H' => ∃ (a : Nat) (cell : Int), σ' = [some (.ref p), some (.int m), some (.ref c), some (.int at_), some (.int cell)] ∧ H' p = some (.lst [.ref c, .int a, .int x]) ∧ H' c = some (.lst (cs.map V.int)) ∧ Kept p c H H', ?_, ?_⟩
    · refine ⟨_, rfl, _, rfl, c, _, rfl, .inl (SqL.of h2), _, _, rfl, rfl, _, rfl, ?_⟩
      rw [List.length_map]
      refine ite2 (fun hlt => ?_) (fun _ => ⟨at_, 0, rfl, h1, h2, Kept.rfl'⟩)
      have hi : at_ < cs.length := by have := of_decide_eq_true hlt; omega
      have hg : (cs.map V.int)[at_]? = some (.int cs[at_]) := by rw [List.getElem?_map, List.getElem?_eq_getElem hi]; rfl
      refine ⟨_, rfl, _, rfl, c, _, _, _, rfl, rfl, SqL.of h2, atI_nat hg, ?_⟩
      refine ⟨_, rfl, 10, 18, rfl, rfl, ⟨by decide, by decide, by decide⟩, _, _, rfl, rfl, _, rfl, ?_⟩
      refine ite2 (fun _ => ?_) (fun _ => ?_)
      · refine ⟨_, rfl, _, rfl, _, _, rfl, rfl, wide_div (b := 42) hm (by omega) (by decide) (by decide), _, rfl, _, rfl, c, _, _, at_, rfl, rfl, h2, ixN_nat (by rw [List.length_map]; exact hi), ?_⟩
        refine ⟨_, rfl, .inl ⟨_, rfl, _, rfl, _, _, rfl, rfl, by omega, ?_⟩⟩
        have f := fmod_lt (a := cs[at_]) hm
        refine q _ _ ⟨cs.set at_ (cs[at_] / m), at_, x, by rw [upd_ne pc]; exact h1, ?_, by rw [List.length_set]; exact hl, x0, x1⟩ (fun b o n1 n2 e => ?_) f.1 f.2
        · rw [upd_same, List.map_set]
        · rw [upd_ne n2]
          exact e
      · refine ⟨_, rfl, _, _, rfl, rfl, _, rfl, p, _, _, 1, rfl, rfl, h1, rfl, ?_⟩
        refine ⟨at_ + 1, cs[at_], rfl, ?_, by rw [upd_ne pc.symm]; exact h2, fun b o n1 n2 e => ?_⟩
        · rw [upd_same]
          rfl
        · rw [upd_ne n1]
          exact e
    · rintro σ' H1 ⟨a, cell, rfl, g1, g2, kp⟩
      refine ⟨_, rfl, p, _, _, _, rfl, rfl, SqL.of g1, rfl, _, _, rfl, rfl, .inl ⟨by omega, by omega⟩, _, rfl, _, _, rfl, rfl, .inr ⟨by decide, by decide⟩, _, _, rfl, rfl, _, _, rfl, rfl, .inl ⟨_, rfl, _, _, rfl, rfl, (show (2147483647 : Int) ≠ 0 by decide), _, rfl, p, _, _, 2, rfl, rfl, g1, rfl, ?_⟩⟩
      have fy : 0 ≤ nxt x cell ∧ nxt x cell < 2147483647 := fmod_lt (by decide)
      have g3 : (upd H1 p (.lst ([V.ref c, V.int a, V.int x].set 2 (V.int (nxt x cell))))) p = some (.lst [V.ref c, V.int a, V.int (nxt x cell)]) := upd_same
      refine ⟨_, rfl, p, _, _, _, rfl, rfl, SqL.of g3, rfl, _, _, rfl, rfl, .inl ⟨by omega, by omega⟩, _, _, rfl, rfl, ⟨by decide, by decide⟩, _, rfl, p, _, _, _, rfl, rfl, SqL.of g3, rfl, _, _, rfl, rfl, .inl ⟨_, rfl, _, rfl, _, _, rfl, rfl, by omega, ?_⟩⟩
      have f := fmod_lt (a := (nxt x cell * 16807).fdiv 128 + nxt x cell) hm
      refine q _ _ ⟨cs, a, nxt x cell, g3, by rw [upd_ne pc.symm]; exact g2, hl, fy.1, fy.2⟩ (fun b o n1 n2 e => ?_) f.1 f.2
      rw [upd_ne n1]
      exact kp b o n1 n2 e
end
end Toy
set_option Elab.async false
set_option linter.all false
set_option maxRecDepth 100000
set_option maxHeartbeats 2000000
namespace Vx
open PySem PySem.Spec PyProof.Rows L2
section
variable {X : Cx} {CX : CXT} {k : Nat} {C f : Addr} {sp : Sp} {E : XK} {pins : List (Addr × Obj)} {σ : L2.St} {H : Hp} {s : Shared} {Q : VK} {A : Around}
/-- a def called somewhere below the running body -/
theorem run_in {us : List Value} {vs : List V} (sb : Sub X k A) (F : FnR X.prog X.w X.K X.mg X.base CX k f sp) (hx : Passes CX X E) (I : L2.Inv X pins σ H s) (r : Vals vs us) (h : sp vs H Q E) :
    codeAny (model X.prog X.w) A (.call (.ref f) ⟨us, []⟩) (fun r s' => match r with | .ok (.ret v) => EP X pins σ Q v s' | .ok _ => False | .error e => X.xe e s') s := by
  have e0 : Env0 X.prog X.w X.K X.mg X.base A X.stack s H := by
    have e := I.env0
    exact ⟨by rw [sb.fr]; exact e.frames, e.mod, e.bs, e.bsz, e.funs, e.frf, e.hok, e.bare⟩
  refine codeAny_mono (F A X.stack s H us vs Q E sb.room e0 r h) fun r s' hq => ?_
  cases r with
  | error e => exact hx pins σ H s e s' I hq
  | ok fl =>
    cases fl with
    | ret u => exact I.after hq
    | next => exact False.elim hq
    | brk => exact False.elim hq
    | cont => exact False.elim hq
end
section
variable {prog : Program} {w : World} {A : Around} {E : Value → Shared → Prop} {s : Shared} {K : PySem.W.Frag} {x C L f : Addr} {h₀ : Heap} {m : Str → Option Value} {ox : Obj} {od : Option Obj} {b : Value}
open PySem.W in
theorem ne_body (hu : A.units < cLine) (X : K.In s.heap) (I : InstAt s.heap x ox C od) (he : findIn K (.ref C) "__eq__" = some (some (.ref f))) (hf : isFn K (.ref f) = true) {Q : Value → Shared → Prop}
    (h : wpAny (model prog w) A (call (.ref f) [.ref x, b]) (fun v s' => ∃ r, v = .bool r ∧ Q (.bool (!r)) s') E s) :
    wpAny (model prog w) A (Builtin.«object.__ne__» ⟨[.ref x, b], []⟩) (fun fin s' => ∃ v, fin = .done (.ret v) ∧ Q v s') E s := by
  unfold Builtin.«object.__ne__»
  obtain ⟨hh, g, d, t, os⟩ := s
  have st : wpAny (model prog w) A (callSpecialIfBound? (.ref x) "__eq__" [b]) (fun r s' => ∃ v, r = some (.bool v) ∧ Q (.bool (!v)) s') E ⟨hh, g, d, t, os⟩ :=
    ifBound_K X I he hf (wpAny_mono h (fun v s' hv => by obtain ⟨r, rfl, q⟩ := hv; exact ⟨r, rfl, q⟩) fun _ _ z => z)
  repeat (first | with_reducible refine wpAny_cRoomFor hu ?_ | with_reducible refine wpAny_bind (wpAny_mono st (fun r s' hr => ?_) fun _ _ z => z) | wp_step)
  obtain ⟨v, rfl, q⟩ := hr
  refine wpAny_bind (wpAny_truthy_bool ?_)
  exact wpAny_pure ⟨_, rfl, q⟩
open PySem.W in
theorem ne_K {Q : Value → Shared → Prop} {tb : Value} (hu : A.units + 1 < cLine) (F : Fr h₀ L s.heap m) (X₀ : K.In h₀) (I : InstAt s.heap x ox C od) (hb : Looks (model prog w) s.heap (typeOf b) tb) (hn : notFirst K C tb = true)
    (hs : findIn K (.ref C) "__ne__" = some (some (.builtin "object.__ne__"))) (he : findIn K (.ref C) "__eq__" = some (some (.ref f))) (hf : isFn K (.ref f) = true) (ho : mroIn K C (.type "object") = some true)
    (h : wpAny (model prog w) A.in1 (call (.ref f) [.ref x, b]) (fun v s' => ∃ r, v = .bool r ∧ Q (.bool (!r)) s') E s) : wpAny (model prog w) A (richCompare .NotEq (.ref x) b) Q E s := by
  have X := X₀.keeps F.keep
  have hu0 : A.units < cLine := Nat.lt_trans (Nat.lt_succ_self _) hu
  have cb : wpAny (model prog w) A (call (.builtin "object.__ne__") ([.ref x] ++ [b])) (fun v s' => ∃ r, v = .bool r ∧ Q v s') E s := by
    refine wpAny_call (codeAny_call_builtin PySem.F.cmp_object.ne.plain PySem.F.cmpEntry_ne (check_slot PySem.F.cmpKind_ne PySem.F.cmpSplit_ne (I.type.andThen (looks_mroIn X ho)) (PySem.F.cmpArgs_ne _ _) ?_))
    have z : wpAny (model prog w) A.in1 (Builtin.«object.__ne__» ⟨[.ref x, b], []⟩) (fun fin s' => ∃ v, fin = .done (.ret v) ∧ ∃ r, v = .bool r ∧ Q v s') E s :=
      ne_body (Q := fun v s' => ∃ r, v = .bool r ∧ Q v s') (A := A.in1) hu X I he hf (wpAny_mono h (fun v s' hv => by obtain ⟨r, rfl, q⟩ := hv; exact ⟨r, rfl, _, rfl, q⟩) fun _ _ z => z)
    refine wpAny_mono z (fun fin s' hv => ?_) fun _ _ y => y
    obtain ⟨v, rfl, r, rfl, q⟩ := hv
    exact ⟨r, rfl, q⟩
  have one : wpAny (model prog w) A (tryCompare (.ref x) "__ne__" b) (fun r s' => ∃ v, r = some v ∧ Q v s') E s := by
    unfold tryCompare
    refine wpAny_bind ?_
    simp only [callSpecialIfBound?, bindSpecialIfBound?]
    refine wpAny_holding (wpAny_bind (wpAny_bind (wpAny_bind (I.type.here ((looks_findIn X hs).here ?_)))))
    simp only [PySem.F.cmp_object.ne.bind]
    refine wpAny_bind (wpAny_askSetting (wpAny_ite ?_))
    have fin : wpAny (model prog w) A (call (.builtin "object.__ne__") ([.ref x] ++ [b]) >>= fun v => pure (some v)) (fun r s' => ∃ v, r = some (.bool v) ∧ Q (.bool v) s') E s :=
      wpAny_bind (wpAny_mono cb (fun v s' h' => by obtain ⟨r, rfl, q⟩ := h'; exact wpAny_pure ⟨r, rfl, q⟩) fun _ _ h' => h')
    have fin2 := wpAny_mono fin (Q' := fun r s' => wpAny (model prog w) A (match r with | some .notImplemented => pure none | none => pure none | some v => pure (some v)) (fun r s' => ∃ v, r = some v ∧ Q v s') E s') (fun r s' h' => by obtain ⟨v, rfl, q⟩ := h'; exact wpAny_pure ⟨_, rfl, q⟩) fun _ _ z => z
    split
    · exact wpAny_bind (wpAny_pure (wpAny_pure fin2))
    · exact wpAny_tryCatch (wpAny_bind (wpAny_pure (wpAny_pure fin2)))
  unfold richCompare
  simp only [oneThing_ref]
  refine wpAny_holding (wpAny_bind (wpAny_cRoomFor hu0 ?_))
  refine wpAny_bind (I.type.here (wpAny_bind (hb.here ?_)))
  split
  · rename_i q
    have e : subIn K tb (.ref C) = some false := by
      rcases Bool.or_eq_true_iff.mp hn with e | e
      · rw [beq_iff_eq.mp e] at q; simp at q
      · exact beq_iff_eq.mp e
    refine wpAny_bind ((looks_subIn X e).here ?_)
    simp only [Bool.false_eq_true, if_false]
    refine wpAny_bind (wpAny_mono one (fun r s' z => ?_) fun _ _ e => e)
    obtain ⟨v, rfl, hq⟩ := z
    exact wpAny_pure hq
  · refine wpAny_bind (wpAny_pure ?_)
    simp only [Bool.false_eq_true, if_false]
    refine wpAny_bind (wpAny_mono one (fun r s' z => ?_) fun _ _ e => e)
    obtain ⟨v, rfl, hq⟩ := z
    exact wpAny_pure hq
end
section
variable {X : Cx} {CX : CXT} {k : Nat} {C f : Addr} {sp : Sp} {E : XK}
/-- o != y: not o == y, by the own == -/
def rNeOwn (C : Addr) (sp : Sp) (E : XK) : R2 := fun x y H Q => (∃ a dx fs, x = .ref a ∧ H a = some (.ins C dx fs)) ∧ (∃ b dy gs, y = .ref b ∧ H b = some (.ins C dy gs)) ∧ sp [x, y] H (fun v H' => ∃ r, v = .bl r ∧ Q (.bl (!r)) H') E
theorem op_neOwn (nf : PySem.W.notFirst X.K C (.ref C) = true) (hs : PySem.W.findIn X.K (.ref C) "__ne__" = some (some (.builtin "object.__ne__"))) (he : PySem.W.findIn X.K (.ref C) "__eq__" = some (some (.ref f))) (fn : PySem.W.isFn X.K (.ref f) = true)
    (ho : PySem.W.mroIn X.K C (.type "object") = some true) (F : FnR X.prog X.w X.K X.mg X.base CX k f sp) (hr : Room (k + 1) X.A) (hx : Passes CX X E) : OpR X (compareOp .NotEq) (rNeOwn C sp E) := by
  intro pins s σ H x y v u Q I rx ry hq
  obtain ⟨⟨a, dx, fs, rfl, ha⟩, ⟨b, dy, gs, rfl, hb⟩, hsp⟩ := hq
  have ev : v = Value.ref a := rx
  have eu : u = Value.ref b := ry
  have sb : Sub X k X.A.in1 := (⟨hr, rfl⟩ : Sub X (k + 1) X.A).in1
  have cl := wpAny_call (run_in (us := [v, u]) (vs := [V.ref a, V.ref b]) sb F hx I (.cons rx (.cons ry .nil)) hsp)
  subst ev eu
  obtain ⟨mA, J, _⟩ := ins_get I.hok ha
  obtain ⟨od, J, _⟩ := J.look
  obtain ⟨mB, J', _⟩ := ins_get I.hok hb
  obtain ⟨od', J', _⟩ := J'.look
  obtain ⟨m, hF⟩ := I.fr
  show wpAny (model X.prog X.w) X.A (richCompare .NotEq (.ref a) (.ref b)) (EP X pins σ Q) X.xe s
  refine ne_K (hu_of hr) hF I.ok.mod.kin J J'.type nf hs he fn ho (wpAny_mono cl (fun v s' hv => ?_) fun _ _ z => z)
  obtain ⟨v', H', I', rv, r, rfl, q⟩ := hv
  exact ⟨r, rv, .bl (!r), H', I', rfl, q⟩
end
end Vx
set_option Elab.async false
set_option linter.all false
set_option maxRecDepth 100000
set_option maxHeartbeats 2000000
/-! own errors: a base's __init__ said by the base's name; isinstance of what was caught; makings that may raise, within a try -/
namespace Vx
open PySem PySem.Spec PyProof.Rows L2
/-- the class at D, above an own error, whose __init__ is ValueError's -/
structure UpC (K : PySem.W.Frag) (D : Addr) (mc : Value) : Prop where
  rd : ClX.CRead K D mc
  ini : PySem.W.findCls K (.ref D) mc "__init__" = some (.val (.builtin "ValueError.__init__"))
def tUp (K : PySem.W.Frag) (D : Addr) (ta : TE) (t : TA) : TE := fun σ H Q => ta σ H fun x H1 => x = .ref D ∧ tVeI K t σ H1 Q
section
variable {X : Cx} {D : Addr} {mc : Value} {o e : Expr} {es : List Expr} {pos apos : Pos} {ta : TE} {t : TA} {pl : Sem Bool}
theorem pe_up (hO : PE X o ta) (U : UpC X.K D mc) (hA : PA X (e :: es) t) (h1 : starEach (e :: es) X.env = (false, eval e X.env) :: starEach es X.env := by rfl) (h2 : (backTo pos (starEach es X.env)).any (·.1) = false := by rfl)
    (hW : eval (.Call (.Attribute o "__init__" apos) (e :: es) [] pos) X.env = (do
      let ov ← eval o X.env
      standAt apos.atName
      let (f, first) ← holding [ov] (getMethod ov "__init__" pl)
      callWith pos f first (backTo pos (starEach (e :: es) X.env)) (backToKw pos (keywordEach [] X.env))) := by rfl) : PE X (.Call (.Attribute o "__init__" apos) (e :: es) [] pos) (tUp X.K D ta t) := by
  refine ⟨fun pn s σ H Q I h => PySem.W.methodCall_KW (pl := pl) (thn (hO.run pn s σ H _ I h) fun u s1 hh => ?_) hW⟩
  obtain ⟨x, H1, I1, rx, ex, q⟩ := hh
  subst ex
  obtain rfl : u = Value.ref D := rx
  refine PySem.W.method_cls I1.kIn U.rd.ga (PySem.W.cls_value I1.kIn U.rd.rd U.ini rfl ?_)
  refine PyProof.Rows.callWith_method1 (thn (hA.run pos pn _ σ H1 _ (I1.tok _) q) fun us s2 hh => ?_) h1 h2
  obtain ⟨vs, H2, I2, r2, a, C, ws, ev, hl, T, ea, q2⟩ := hh
  subst ev
  cases r2 with
  | @cons _ u0 _ ur ra rb =>
    obtain rfl : u0 = Value.ref a := ra
    exact oinit_ok T I2 ea (by rw [← Paired.length rb, sizeLine_eq]; omega) fun s3 J => ⟨.non, H2, J, rfl, q2⟩
end
/-! isinstance(e, c), e a caught error with its dict -/
structure ExcX (K : PySem.W.Frag) (C : Addr) : Prop where
  cl : (PySem.W.clsIn K C).isSome = true
  ga : PySem.W.findIn K (.ref C) "__getattribute__" = some (some (.builtin "BaseException.__getattribute__"))
  gt : PySem.W.findIn K (.ref C) "__getattr__" = some none
  sb : PySem.W.subIn K (.ref C) (.type "BaseException") = some true
  ac : PySem.W.findIn K (.ref C) "__class__" = some (some (.builtin "object.__class__"))
  gn : PySem.W.specialIn K (.builtin "object.__class__") "__get__" = some (some (.builtin "getset_descriptor.__get__"))
  tk : PySem.W.takesIn K (.builtin "object.__class__") = some true
  mo : PySem.W.mroIn K C (.type "object") = some true
def rIsX (K : PySem.W.Frag) (C a : Addr) (cls : Value) (d : Option Addr) : List V → Hp → VK → Prop := fun xs H Q => cls = .ref C ∧ ∃ (dd : Addr) (fs : List (Str × V)) (c : V) (cv : Value) (b : Bool), d = some dd ∧ H dd = some (.xd fs) ∧ xs = [.ref a, c] ∧ (∀ u, RelV c u → u = cv) ∧ PySem.W.kitOne K (.ref C) cv = some b ∧ Q (.bl b) H
theorem call_isX {X : Cx} {a C : Addr} {oe : Obj} {cls : Value} {d : Option Addr} {pn : List (Addr × Obj)} (T : ExcX X.K C) (hz : Zc cls d oe) (hf : ∃ vs, oe.data = .fields vs) : CallR (X.suite a ((a, oe) :: pn)) (.builtin "isinstance") (rIsX X.K C a cls d) := by
  intro pins s σ H xs us Q I r h
  obtain ⟨ec, dd, fs, c, cv, b, ed, hd, ex, hcv, e, q⟩ := h
  subst ec ed ex
  cases r with
  | cons rx rr =>
    cases rr with
    | cons rt rn =>
      cases rn
      cases rx
      obtain rfl := hcv _ rt
      obtain ⟨hget, _⟩ := I.pin (a, oe) (List.mem_append.mpr (.inl List.mem_cons_self))
      obtain ⟨vs, hv⟩ := hf
      have hx : ObjOk X.prog X.w H s.heap dd (.xd fs) := I.hok dd _ hd
      obtain ⟨mA, hns, _⟩ := hx
      obtain ⟨od, ho, _⟩ := lookIn_ns hns
      have J : PySem.W.InstAt s.heap a oe C (some od) := ⟨hget, hz.1, by unfold PySem.W.notCls; rw [hv] <;> rfl, by rw [hz.2]; exact ho⟩
      exact PySem.W.kia_one (PySem.W.kitx_exc T.cl T.ga T.gt T.sb T.ac T.gn T.tk T.mo) I.kIn J e (fun z => nomatch z) fun tk => ⟨.bl b, H, I.kept (t' := tk) fun _ _ z => z, rfl, q⟩
/-! makings and static calls that may raise, the wish at the caller's slots -/
section
variable {X : Cx} {CX : CXT} {k n : Nat} {f C : Addr} {fd : FuncData} {ps ks : List Str} {sp : Sp} {E : L2.St → XK} {x : Str} {p pos : Pos} {e : Expr} {es : List Expr} {kws : List Keyword} {t tk : TA} {g : List Value → List Value → List Value} {gV : List V → List V → List V}
def tMakeNS (C : Addr) (n m : Nat) (sp : Sp) (gV : List V → List V → List V) (E : L2.St → XK) (t tk : TA) : TE := fun σ H Q => t σ H fun vs H1 => tk σ H1 fun zs H2 => vs.length = n ∧ zs.length = m ∧
  ∀ y dy, H2 y = none → H2 dy = none → dy ≠ y → sp (gV (.ref y :: vs) zs) (upd (upd H2 dy (.own y)) y (.ins C dy [])) (fun v H3 => v = .non ∧ Q (.ref y) H3) (E σ)
theorem run_makeNS {pn : List (Addr × Obj)} {σ : L2.St} {H : Hp} {s : Shared} {Q : VK} {us ws : List Value} {vs zs : List V} (M : Mk X.K C f) (F : FnOk X.prog X.w X.K X.mg X.base CX k f fd ps sp) (hr : Room (k + 1) X.A) (hb : KBn X.K fd ps (n + 1) ks g gV)
    (hx : PassesAt CX X σ (E σ)) (I : L2.Inv X pn σ H s) (ru : Vals vs us) (rw_ : Vals zs ws) (e1 : vs.length = n) (e2 : zs.length = ks.length)
    (h : ∀ y dy, H y = none → H dy = none → dy ≠ y → sp (gV (.ref y :: vs) zs) (upd (upd H dy (.own y)) y (.ins C dy [])) (fun v H3 => v = .non ∧ Q (.ref y) H3) (E σ)) : wpAny (model X.prog X.w) X.A (call (.ref C) us (ks.zip ws)) (EP X pn σ Q) X.xe s := by
  have J : L2.Inv X pn σ _ _ := L2.Inv.made (C := C) I
  have r1 : Vals (V.ref (s.heap.objs.size + 1) :: vs) (Value.ref (s.heap.objs.size + 1) :: us) := Paired.cons rfl ru
  have z1 : (Value.ref (s.heap.objs.size + 1) :: us).length = n + 1 := r1.length.symm.trans (congrArg (· + 1) e1)
  have z2 : ws.length = ks.length := rw_.length.symm.trans e2
  have hq := h (s.heap.objs.size + 1) s.heap.objs.size (I.hok.fresh (Nat.le_succ _)) (I.hok.fresh Nat.le.refl) (Nat.ne_of_lt (Nat.lt_succ_self _))
  have run := F.run _ X.stack _ _ ⟨Value.ref (s.heap.objs.size + 1) :: us, ks.zip ws⟩ (g (Value.ref (s.heap.objs.size + 1) :: us) ws) _ _ (E σ) (hr.make C us (ks.zip ws)) (J.env0.make C us (ks.zip ws)) (hb.to _ _ ws J.kIn z1 z2) (hb.rel r1 rw_) hq
  refine wpAny_call (make_map (f := f) I.kIn M.makes M.init (beq_iff_eq.mp M.fn) (codeAny_mono run fun r s2 z => ?_))
  match r, z with
  | .error er, z => exact hx pn _ _ er s2 J z
  | .ok (.ret u), z =>
    obtain ⟨v, H3, J3, rv, ev, q⟩ := J.after z
    subst ev
    exact ⟨rv, .ref (s.heap.objs.size + 1), H3, J3, rfl, q⟩
theorem pe_makeNS (M : Mk X.K C f) (F : FnOk X.prog X.w X.K X.mg X.base CX k f fd ps sp) (hr : Room (k + 1) X.A) (hg : Gl X x) (hm : X.mg x = some (.ref C)) (hb : KBn X.K fd ps (n + 1) ks g gV) (hx : ∀ σ, PassesAt CX X σ (E σ)) (hA : PA X (e :: es) t) (hK : PK X kws tk)
    (h1 : (backToKw pos (keywordEach kws X.env)).all (·.1.isSome) = true := by rfl) (h2 : (backToKw pos (keywordEach kws X.env)).filterMap (·.1) = ks := by rfl) (h3 : (x == ("__debug__" : Str)) = false := by decide)
    (h4 : starEach (e :: es) X.env = (false, eval e X.env) :: starEach es X.env := by rfl) (h5 : ((backTo pos (starEach (e :: es) X.env)).any (·.1) || (backToKw pos (keywordEach kws X.env)).any (·.1.isNone)) = false := by rfl) :
    PE X (.Call (.Name x p) (e :: es) kws pos) (tMakeNS C n ks.length sp gV E t tk) := by
  refine ⟨fun pn s σ H Q I h => wpAny_Call_Name_kw (ld_glob I hg hm ?_ h3)⟩
  refine PySem.W.callWith_KW (h₀ := X.base) I.ok.mod.kin M.kp h1 (thn (hA.run pos pn s σ H _ I h) fun us s1 hh => ?_) h5 h4
  obtain ⟨vs, H1, I1, r1, q⟩ := hh
  refine thn (hK.run pos pn s1 σ H1 _ I1 q) fun ws s2 hh => ?_
  obtain ⟨zs, H2, I2, r2, l1, l2, q2⟩ := hh
  refine ⟨I2.kIn, ?_⟩
  rw [h2]
  exact run_makeNS M F hr hb (hx σ) I2 r1 r2 l1 l2 q2
end
section
variable {X : Cx} {CX : CXT} {k : Nat} {f C : Addr} {sp : Sp} {E : L2.St → XK}
theorem run_fnRS {pn : List (Addr × Obj)} {σ : L2.St} {H : Hp} {s : Shared} {Q : VK} {us : List Value} {vs : List V} (F : FnR X.prog X.w X.K X.mg X.base CX k f sp) (hr : Room k X.A) (hx : PassesAt CX X σ (E σ)) (I : L2.Inv X pn σ H s) (r : Vals vs us) (h : sp vs H Q (E σ)) :
    wpAny (model X.prog X.w) X.A (call (.ref f) us) (EP X pn σ Q) X.xe s := by
  refine wpAny_call (codeAny_mono (F X.A X.stack s H us vs Q (E σ) hr I.env0 r h) fun z s2 y => ?_)
  match z, y with
  | .error er, y => exact hx pn H s er s2 I y
  | .ok (.ret u), y => exact I.after y
theorem run_makeRS {pn : List (Addr × Obj)} {σ : L2.St} {H : Hp} {s : Shared} {Q : VK} {us : List Value} {vs : List V} (M : Mk X.K C f) (F : FnR X.prog X.w X.K X.mg X.base CX k f sp) (hr : Room (k + 1) X.A) (hx : PassesAt CX X σ (E σ)) (I : L2.Inv X pn σ H s) (r : Vals vs us)
    (h : ∀ y dy, H y = Option.none → H dy = Option.none → dy ≠ y → sp (V.ref y :: vs) (upd (upd H dy (.own y)) y (.ins C dy [])) (fun v H2 => v = .non ∧ Q (.ref y) H2) (E σ)) : wpAny (model X.prog X.w) X.A (call (.ref C) us) (EP X pn σ Q) X.xe s := by
  have J : L2.Inv X pn σ _ _ := L2.Inv.made (C := C) I
  have r1 : Vals (V.ref (s.heap.objs.size + 1) :: vs) (Value.ref (s.heap.objs.size + 1) :: us) := Paired.cons rfl r
  have hq := h (s.heap.objs.size + 1) s.heap.objs.size (I.hok.fresh (Nat.le_succ _)) (I.hok.fresh Nat.le.refl) (Nat.ne_of_lt (Nat.lt_succ_self _))
  refine wpAny_call (make_map (f := f) I.kIn M.makes M.init (beq_iff_eq.mp M.fn) (codeAny_mono (F _ X.stack _ _ (Value.ref (s.heap.objs.size + 1) :: us) _ _ (E σ) (hr.make C us []) (J.env0.make C us []) r1 hq) fun z s2 y => ?_))
  match z, y with
  | .error er, y => exact hx pn _ _ er s2 J y
  | .ok (.ret u), y =>
    obtain ⟨v, H3, J3, rv, ev, q⟩ := J.after y
    subst ev
    exact ⟨rv, .ref (s.heap.objs.size + 1), H3, J3, rfl, q⟩
def tMethE (C : Addr) (m : Str) (sp : Sp) (E : L2.St → XK) (ta : TE) (t : TA) : TE := fun σ H Q => ta σ H fun x H1 => ∃ a dx fs, x = .ref a ∧ H1 a = some (.ins C dx fs) ∧ fs.lookup m = Option.none ∧ t σ H1 fun vs H2 => sp (.ref a :: vs) H2 Q (E σ)
theorem pe_methE {o e : Expr} {es : List Expr} {m : Str} {pos apos : Pos} {ta : TE} {t : TA} {pl : Sem Bool} (hO : PE X o ta) (c : Cls X.K C) (hm : Meth X.K C m f) (F : FnR X.prog X.w X.K X.mg X.base CX k f sp) (hr : Room k X.A) (hx : ∀ σ, PassesAt CX X σ (E σ)) (hA : PA X (e :: es) t)
    (h1 : starEach (e :: es) X.env = (false, eval e X.env) :: starEach es X.env := by rfl) (h2 : (backTo pos (starEach es X.env)).any (·.1) = false := by rfl)
    (hW : eval (.Call (.Attribute o m apos) (e :: es) [] pos) X.env = (do
      let ov ← eval o X.env
      standAt apos.atName
      let (f, first) ← holding [ov] (getMethod ov m pl)
      callWith pos f first (backTo pos (starEach (e :: es) X.env)) (backToKw pos (keywordEach [] X.env))) := by rfl) : PE X (.Call (.Attribute o m apos) (e :: es) [] pos) (tMethE C m sp E ta t) := by
  refine ⟨fun pn s σ H Q I h => PySem.W.methodCall_KW (pl := pl) (thn (hO.run pn s σ H _ I h) fun u s1 hh => ?_) hW⟩
  obtain ⟨x, H1, I1, rx, a, dx, fs, ex, ea, l, q⟩ := hh
  subst ex
  obtain rfl : u = Value.ref a := rx
  refine getmeth_ok I1 ea c hm l (PySem.W.callWith_K (first := [.ref a]) (h₀ := X.base) I.ok.mod.kin hm.kp (thn (hA.run pos pn s1 σ H1 _ I1 q) fun us s2 hh => ?_) h1 h2)
  obtain ⟨vs, H2, I2, r, q2⟩ := hh
  exact ⟨I2.kIn, run_fnRS (us := .ref a :: us) (vs := .ref a :: vs) F hr (hx σ) I2 (.cons rfl r) q2⟩
def tSMethE (C : Addr) (sp : Sp) (E : L2.St → XK) (ta : TE) (t : TA) : TE := fun σ H Q => ta σ H fun x H1 => x = .ref C ∧ t σ H1 fun vs H2 => sp vs H2 Q (E σ)
theorem pe_smethE {o e : Expr} {es : List Expr} {m : Str} {g q : Addr} {mc : Value} {pos apos : Pos} {ta : TE} {t : TA} {pl : Sem Bool} (hO : PE X o ta) (cr : ClX.CRead X.K C mc) (c : SMet X.K C mc m q g) (F : FnR X.prog X.w X.K X.mg X.base CX k g sp) (hr : Room k X.A) (hx : ∀ σ, PassesAt CX X σ (E σ)) (hA : PA X (e :: es) t)
    (h1 : starEach (e :: es) X.env = (false, eval e X.env) :: starEach es X.env := by rfl) (h2 : (backTo pos (starEach es X.env)).any (·.1) = false := by rfl)
    (hW : eval (.Call (.Attribute o m apos) (e :: es) [] pos) X.env = (do
      let ov ← eval o X.env
      standAt apos.atName
      let (f, first) ← holding [ov] (getMethod ov m pl)
      callWith pos f first (backTo pos (starEach (e :: es) X.env)) (backToKw pos (keywordEach [] X.env))) := by rfl) : PE X (.Call (.Attribute o m apos) (e :: es) [] pos) (tSMethE C sp E ta t) := by
  refine ⟨fun pn s σ H Q I h => PySem.W.methodCall_KW (pl := pl) (thn (hO.run pn s σ H _ I h) fun u s1 hh => ?_) hW⟩
  obtain ⟨x, H1, I1, rx, ex, y⟩ := hh
  subst ex
  obtain rfl : u = Value.ref C := rx
  obtain ⟨rest, hp⟩ := c.rc
  refine PySem.W.method_cls I1.kIn cr.ga (PySem.W.cls_bind I1.kIn cr.rd c.at_ (wpAny_call (PySem.W.sm_get (s := { s1 with toks := s1.toks + 1 }) I1.kIn hp (PySem.W.handed_on rfl ?_))))
  have I2 : L2.Inv X pn σ H1 { s1 with toks := s1.toks + 1 } := I1.tok _
  refine PySem.W.callWith_K (h₀ := X.base) I2.ok.mod.kin c.kp (thn (hA.run pos pn _ σ H1 _ I2 y) fun us s3 hh => ?_) h1 h2
  obtain ⟨vs, H2, I3, rv, q2⟩ := hh
  exact ⟨I3.kIn, run_fnRS F hr (hx σ) I3 rv q2⟩
end
end Vx
set_option Elab.async false
set_option linter.all false
set_option maxRecDepth 100000
set_option maxHeartbeats 4000000
namespace L2
open PySem PySem.Spec PyProof.Rows
theorem FnOk.imp' {P : Program} {w : World} {K : PySem.W.Frag} {mg : Str → Option Value} {base : Heap} {CX : CXT} {k : Nat} {f : Addr} {fd : FuncData} {ps : List Str} {sp sp' : Sp} (F : FnOk P w K mg base CX k f fd ps sp) (h : ∀ vs H Q E, sp' vs H Q E → sp vs H Q E) : FnOk P w K mg base CX k f fd ps sp' :=
  ⟨fun vs H Q E z => F.len vs H Q E (h _ _ _ _ z), fun A outer s H args us vs Q E hr e0 b r z => F.run A outer s H args us vs Q E hr e0 b r (h _ _ _ _ z)⟩
end L2
namespace Toy
open PySem PySem.Spec PyProof.Rows L2
theorem TyX.same {K : PySem.W.Frag} {H H' : Hp} {v : V} {t : Value} (h : TyX K H v t) (s : Same H H') : TyX K H' v t := by
  cases h with
  | base h =>
    cases h with
    | non => exact .base .non
    | bl x => exact .base (.bl x)
    | int x => exact .base (.int x)
    | str x => exact .base (.str x)
    | flt x => exact .base (.flt x)
    | lst e => exact .base (.lst (s _ _ e))
    | frz e => exact .base (.frz (s _ _ e))
    | tup e => exact .base (.tup (s _ _ e))
    | dK e => exact .base (.dK (s _ _ e))
    | dT e => exact .base (.dT (s _ _ e))
    | ins e cl a b c d => exact .base (.ins (s _ _ e) cl a b c d)
  | byt b => exact .byt b
  | set e => exact .set (s _ _ e)
  | kList e c => exact .kList e c
  | kTuple e c => exact .kTuple e c
  | kDict e c => exact .kDict e c
  | fTuple e => exact .fTuple (s _ _ e)
  | fDict e => exact .fDict (s _ _ e)
/-- what a value is as a number: a number, or none (a truth value is none) -/
inductive NV (K : PySem.W.Frag) (H : Hp) : V → Option Int → Prop
  | int (i : Int) : NV K H (.int i) (some i)
  | bl (b : Bool) : NV K H (.bl b) none
  | oth {v : V} {t : Value} (h : TyX K H v t) (k : PySem.W.kitOne K t (.type "int") = some false) (kb : PySem.W.kitOne K t (.type "bool") = some false) (n : ∀ i, v ≠ .int i) : NV K H v none
theorem NV.same {K : PySem.W.Frag} {H H' : Hp} {v : V} {o : Option Int} (h : NV K H v o) (s : Same H H') : NV K H' v o := by
  cases h with
  | int i => exact .int i
  | bl b => exact .bl b
  | oth h k kb n => exact .oth (TyX.same h s) k kb n
theorem NV.non {K : PySem.W.Frag} {H : Hp} : NV K H .non none := .oth (t := .type "NoneType") (.base .non) (kit_ty (by decide +kernel)) (kit_ty (by decide +kernel)) (fun _ z => nomatch z)
theorem NV.str {K : PySem.W.Frag} {H : Hp} (z : Str) : NV K H (.str z) none := .oth (t := .type "str") (.base (.str z)) (kit_ty (by decide +kernel)) (kit_ty (by decide +kernel)) (fun _ z => nomatch z)
theorem NV.lst {K : PySem.W.Frag} {H : Hp} {a : Addr} {xs : List V} (h : H a = some (.lst xs)) : NV K H (.ref a) none := .oth (t := .type "list") (.base (.lst h)) (kit_ty (by decide +kernel)) (kit_ty (by decide +kernel)) (fun _ z => nomatch z)
theorem NV.tup {K : PySem.W.Frag} {H : Hp} {a : Addr} {xs : List V} (h : H a = some (.tup xs)) : NV K H (.ref a) none := .oth (t := .type "tuple") (.base (.tup h)) (kit_ty (by decide +kernel)) (kit_ty (by decide +kernel)) (fun _ z => nomatch z)
def btw (o : Option Int) (l h : Int) : Bool := match o with
  | some i => decide (l ≤ i ∧ i ≤ h)
  | none => false
structure NmI (mg : Str → Option Value) : Prop where
  isi : mg "isinstance" = none
  int : mg "int" = none
  bool : mg "bool" = none
section
variable {P : Program} {w : World} {K : PySem.W.Frag} {mg : Str → Option Value} {base : Heap}
def spWholeG (K : PySem.W.Frag) : Sp := fun vs H Q _ => ∃ (v : V) (o : Option Int), vs = [v] ∧ NV K H v o ∧ Q (.bl o.isSome) H
theorem ok_wholeG {f : Addr} {fd : FuncData} (F : Fun K "is_whole" "is_whole" s_is_whole f fd) (T : NmI mg) : FnOk P w K mg base CX0 1 f fd ["value"] (spWholeG K) := by
  refine F.ok sc_is_whole (fun vs H Q E h => ?_) (fun cdv A outer s H vs Q E hr h => ?_)
  · obtain ⟨v, o, rfl, _⟩ := h
    rfl
  · obtain ⟨v, o, rfl, hv, q⟩ := h
    refine ⟨_, pss_one (ps_ret (pe_and (pe_callB call_isi (by rfl) T.isi (by decide +kernel) (pa_cons (pv 0) (pa_cons (pe_bltn (v := .ty "int") (by rfl) T.int (by decide +kernel) rfl) pa_nil)))
      (pe_one (pe_not (pe_callB call_isi (by rfl) T.isi (by decide +kernel) (pa_cons (pv 0) (pa_cons (pe_bltn (v := .ty "bool") (by rfl) T.bool (by decide +kernel) rfl) pa_nil))))))), ?_⟩
    cases hv with
    | int i => exact ⟨_, rfl, .int i, .ty "int", _, _, true, rfl, .ty _, .base (.int i), kit_ty (by decide +kernel), true, rfl, iteT ⟨_, rfl, .int i, .ty "bool", _, _, false, rfl, .ty _, .base (.int i), kit_ty (by decide +kernel), false, rfl, q⟩⟩
    | bl b => exact ⟨_, rfl, .bl b, .ty "int", _, _, true, rfl, .ty _, .base (.bl b), kit_ty (by decide +kernel), true, rfl, iteT ⟨_, rfl, .bl b, .ty "bool", _, _, true, rfl, .ty _, .base (.bl b), kit_ty (by decide +kernel), true, rfl, q⟩⟩
    | oth ht k kb n => exact ⟨_, rfl, v, .ty "int", _, _, false, rfl, .ty _, ht, k, false, rfl, iteF q⟩
def spBetwG (K : PySem.W.Frag) : Sp := fun vs H Q _ => ∃ (v : V) (o : Option Int) (l h : Int), vs = [v, .int l, .int h] ∧ NV K H v o ∧ Q (.bl (btw o l h)) H
theorem NV.some_eq {H : Hp} {v : V} {i : Int} (h : NV K H v (some i)) : v = .int i := by
  cases h
  rfl
theorem ok_betwG {f fW : Addr} {fd fdW : FuncData} (F : Fun K "is_between" "is_between" s_is_between f fd) (GW : FnOk P w K mg base CX0 1 fW fdW ["value"] (spWholeG K)) (kW : PySem.W.keepIn K (.ref fW) = true) (bW : L2.Binds K fdW ["value"] []) (gW : mg "is_whole" = some (.ref fW)) :
    FnOk P w K mg base CX0 2 f fd ["value", "low", "high"] (spBetwG K) := by
  refine F.ok sc_is_between (fun vs H Q E h => ?_) (fun cdv A outer s H vs Q E hr h => ?_)
  · obtain ⟨v, o, l, h, rfl, _⟩ := h
    rfl
  · obtain ⟨v, o, l, u, rfl, hv, q⟩ := h
    refine ⟨_, pss_one (ps_ret (pe_and (pe_call GW hr (by rfl) gW kW bW .nil pass0 (pa_cons (pv 0) pa_nil)) (pe_one (pe_chain op_le op_le (pv 1) (pv 0) (pv 2))))), ?_⟩
    refine ⟨_, rfl, v, o, rfl, hv, o.isSome, rfl, ?_⟩
    cases o with
    | none => exact iteF q
    | some i =>
      obtain rfl := hv.some_eq
      refine iteT ⟨_, rfl, _, rfl, l, i, rfl, rfl, decide (l ≤ i), rfl, ?_⟩
      by_cases h1 : l ≤ i
      · rw [decide_eq_true h1]
        refine iteT ⟨_, rfl, i, u, rfl, rfl, ?_⟩
        have e : btw (some i) l u = decide (i ≤ u) := by by_cases h2 : i ≤ u <;> simp [btw, h1, h2]
        rw [e] at q
        exact q
      · rw [decide_eq_false h1]
        have e : btw (some i) l u = false := by simp [btw, h1]
        rw [e] at q
        exact iteF q
end
end Toy
set_option Elab.async false
set_option linter.all false
set_option maxRecDepth 100000
set_option maxHeartbeats 4000000
namespace Gd
open PySem PySem.Spec PyProof.Rows L2
/-! promises that are kept where no repr is under way: what repr of a list or a tuple asks -/
abbrev Calm0 (A : Around) : Prop := A.guards = some []
def FnG (P : Program) (w : World) (K : PySem.W.Frag) (mg : Str → Option Value) (base : Heap) (CX : CXT) (k : Nat) (f : Addr) (sp : Sp) : Prop :=
  ∀ (A : Around) (outer : List Env) (s : Shared) (H : Hp) (us : List Value) (vs : List V) (Q : VK) (E : XK), Calm0 A → Room k A → Env0 P w K mg base A outer s H → Vals vs us → sp vs H Q E →
    codeAny (model P w) A (.call (.ref f) ⟨us, []⟩) (CR CX outer P w H s Q E) s
section
variable {P : Program} {w : World} {K : PySem.W.Frag} {mg : Str → Option Value} {base : Heap} {k : Nat} {f : Addr} {fd : FuncData} {x qual : Str} {st : Stmt} {N ps : List Str} {sp : Sp}
theorem FnG.of {CX : CXT} (F : FnR P w K mg base CX k f sp) : FnG P w K mg base CX k f sp := fun A o s H us vs Q E _ hr e r h => F A o s H us vs Q E hr e r h
/-- a def by its body, run where no repr is under way -/
theorem fnG_ok (F : Fun K x qual st f fd) (S : FnScope N ps (defScope st)) (B : L2.Binds K fd ps []) (len : ∀ vs H Q E, sp vs H Q E → vs.length = ps.length)
    (body : ∀ (cdv : Value) (A : Around) (outer : List Env) (s : Shared) (H : Hp) (vs : List V) (Q : VK) (E : XK), Calm0 A → Room k (A.deeper (envOfC qual (defScope st) s.heap.objs.size f cdv)) → sp vs H Q E →
      ∃ t, PSs (cxOf CX0 P w K mg base N qual (defScope st) f cdv A outer s H E).nox (defBody st) t ∧ t { nx := fun _ G => Q .non G, rt := Q } (start N vs) H) : FnG P w K mg base CX0 (k + 1) f sp := by
  obtain ⟨oc, od, kV, doc, pm, an, cdv, ct, osl, rfl, lk, hcd⟩ := F.ex
  intro A outer s H us vs Q E g room e r h
  have n1 : vs.length = ps.length := len vs H Q E h
  have inH : K.In s.heap := e.mod.kin.keeps (fun b o z => (e.bs b o z).left)
  have nolim : s.heap.NoLimit := e.mod.nolimit.keeps (fun b o z => (e.bs b o z).left)
  have bd := B s us inH (by rw [List.append_nil, ← r.length]; exact n1)
  rw [List.append_nil] at bd
  have kinds : ∀ q ∈ ps.zip us, (defScope st).names.lookup q.1 = some .local ∨ ((defScope st).names.lookup q.1 = some .cell ∧ ((cellsFrom (s.heap.objs.size + 1) (defScope st).names []).lookup q.1).isSome = true) := by
    rintro ⟨n, v⟩ hq
    cases S.par n (List.of_mem_zip hq).1 with
    | inl z => exact Or.inl z
    | inr z => exact Or.inr ⟨z, PySem.W.cellsFrom_some _ _ _ (Or.inl z)⟩
  obtain ⟨t, ht, q⟩ := body cdv A outer s H vs Q E g (room.deeper _) h
  apply codeAny_call_function room.depth (inH _ _ lk) rfl S.co S.gen rfl (PySem.W.codeRec_of inH hcd) (bd _ _ _ _ _)
  apply wpAny_newFunctionEnv_cells S.kind kinds
  intro env he s1 z
  subst he
  refine And.intro (nolim.keeps z.toInCall.keep) (codeAny_func ?_)
  have I := inv_start (CX := CX0) (E := E) S room.hd e n1 r z
  apply wpAny_mono (ht.nox.run [] s1 (start N vs) H _ I q) (fun fl s2 hs => ?_) (fun _ _ hs => hs)
  cases fl with
  | ret u => obtain ⟨v, σ2, H2, J, rv, z2⟩ := hs; exact ⟨v, H2, J.os, J.bare, J.base, J.hok, rv, z2⟩
  | next => obtain ⟨σ2, H2, J, z2⟩ := hs; exact ⟨V.non, H2, J.os, J.bare, J.base, J.hok, rfl, z2⟩
  | brk => exact hs.elim fun _ z2 => z2.elim fun _ z3 => z3.2.elim
  | cont => exact hs.elim fun _ z2 => z2.elim fun _ z3 => z3.2.elim
end
section
variable {X : Cx} {CX : CXT} {k : Nat} {f : Addr} {sp : Sp} {E : XK} {x : Str} {p pos : Pos} {e : Expr} {es : List Expr} {t : TA}
theorem pe_callG (F : FnG X.prog X.w X.K X.mg X.base CX k f sp) (g : Calm0 X.A) (hr : Room k X.A) (hg : Gl X x) (hm : X.mg x = some (.ref f)) (hk : PySem.W.keepIn X.K (.ref f) = true) (hx : Passes CX X E)
    (ha : PA X (e :: es) t) (hdb : (x == ("__debug__" : Str)) = false := by decide) (he : starEach (e :: es) X.env = (false, eval e X.env) :: starEach es X.env := by rfl) (hpl : (backTo pos (starEach es X.env)).any (·.1) = false := by rfl) :
    PE X (.Call (.Name x p) (e :: es) [] pos) (tCall sp [] E t) := by
  constructor
  intro pins s σ H Q I h
  apply wpAny_Call_Name_kw (ld_glob I hg hm ?_ hdb)
  apply PySem.W.callWith_K (h₀ := X.base) I.ok.mod.kin hk (thn (ha.run pos pins s σ H _ I h) fun us s1 ⟨vs, H1, I1, r, q⟩ => ⟨I1.kIn, ?_⟩) he hpl
  have q : sp vs H1 Q E := by
    have z : sp (vs ++ []) H1 Q E := q
    rwa [List.append_nil] at z
  refine wpAny_call (codeAny_mono (F _ _ _ _ _ _ _ _ g hr I1.env0 r q) fun z s2 hq => ?_)
  match z, hq with
  | .error u, hq => exact hx pins σ H1 s1 u s2 I1 hq
  | .ok (.ret u), hq => exact I1.after hq
end
/-! repr of data -/
def okShow : PyData → Bool
  | .int i => decide (i.natAbs.log2 < 1920)
  | d => d.showable && !d.hasDict && decide (d.depth ≤ 8) && decide (d.shown.length ≤ 1000000)
theorem show_of {d : PyData} (n : ∀ i, d ≠ .int i) (h : okShow d = true) : d.showable = true ∧ d.hasDict = false ∧ d.depth ≤ 8 ∧ d.shown.length ≤ sizeLine := by
  cases d with
  | int i => exact (n i rfl).elim
  | _ =>
    simp only [okShow, Bool.and_eq_true, decide_eq_true_eq, Bool.not_eq_true'] at h
    exact ⟨h.1.1.1, h.1.1.2, h.1.2, Nat.le_trans h.2 (by decide)⟩
theorem call_reprD {X : Cx} (g : Calm0 X.A) (hu : X.A.units + 64 < cLine) : CallR X (.builtin "repr") (fun xs H Q => ∃ v d, xs = [v] ∧ Dp X.K H v d ∧ okShow d = true ∧ Q (.str d.shown) H) := by
  intro pins s σ H xs us Q I r ⟨v, d, e, hd, ok, q⟩
  subst e
  obtain ⟨u, rfl, ru⟩ := vals1 r
  cases hd with
  | non => cases ru; exact PySem.P.repr_of_none ⟨.str _, H, I.tok _, ⟨_, rfl⟩, q⟩
  | bl b => cases ru; exact PySem.P.repr_of_bool ⟨.str _, H, I.tok _, ⟨_, rfl⟩, q⟩
  | int i => obtain ⟨t, rfl⟩ := ru; exact PySem.P.repr_of_int (of_decide_eq_true ok) ⟨.str _, H, I.tok _, ⟨_, rfl⟩, q⟩
  | str z => obtain ⟨t, rfl⟩ := ru; exact PySem.P.repr_of_str ⟨.str _, H, I.tok _, ⟨_, rfl⟩, q⟩ (show_of (by intro i e; cases e) ok).2.2.2
  | lst h1 h2 =>
    obtain ⟨o1, o2, o3, o5⟩ := show_of (by intro i e; cases e) ok
    obtain ⟨as, rd⟩ := Dp.reads I _ _ _ (Dp.lst h1 h2) ru
    cases ru
    exact repr_of_reads' rd o1 (fun z => by rw [o2] at z; cases z) g (by omega) (fun _ _ z => z) (fun h' u tk hk => ⟨.str _, H, I.kept hk, ⟨_, rfl⟩, q⟩) o5
  | tup h1 h2 =>
    obtain ⟨o1, o2, o3, o5⟩ := show_of (by intro i e; cases e) ok
    obtain ⟨as, rd⟩ := Dp.reads I _ _ _ (Dp.tup h1 h2) ru
    cases ru
    exact repr_of_reads' rd o1 (fun z => by rw [o2] at z; cases z) g (by omega) (fun _ _ z => z) (fun h' u tk hk => ⟨.str _, H, I.kept hk, ⟨_, rfl⟩, q⟩) o5
/-! the head of a law that is kept where no repr is under way -/
section
variable {P : Program} {w : World} {K : PySem.W.Frag} {mg mb : Str → Option Value} {k : Nat} {fa a : Addr} {sp : Sp} {s : Shared} {vs : List Value} {ns : List Int}
/-- what the law's run is to give -/
abbrev Gives (s : Shared) (r : Result) (s2 : Shared) : Prop := r = .ok (.ret (.bool true)) ∧ OldK s.heap s2.heap ∧ s2.os = s.os ∧ AllBare s2.gens
/-- the ground of a heap H that tracks at most the script -/
theorem ground_of {H : Hp} (inH : K.In s.heap) (g : s.heap.Ns mainGlobals mg) (b : s.heap.Ns builtinsNs mb) (bb : ∀ x : Str, x ≠ "__name__" → mb x = bootBuiltins x) (nl : s.heap.NoLimit) (ng : s.gens = #[])
    (sc : s.heap.get? a = some { cls := .type "list", data := .seq vs.toArray }) (ok : HOk P w H s.heap) (one : ∀ b u, H b = some u → b = a ∧ K.lookup a = none) :
    K.In (hidT s.heap H) ∧ (hidT s.heap H).Ns mainGlobals mg ∧ Env0 P w K mg (hidT s.heap H) callerA [] s H := by
  have open_ : ∀ {b : Addr} {o : Obj}, s.heap.get? b = some o → b ≠ a → (hidT s.heap H).get? b = some o := fun {b o} e n => hidT_get e (by
    cases z : H b with
    | none => rfl
    | some u => exact (n (one b u z).1).elim)
  have names : ∀ {b : Addr} {m : Str → Option Value}, s.heap.Ns b m → (hidT s.heap H).Ns b m := by
    rintro b m ⟨o, es, ep, e, d, r⟩
    refine ⟨o, es, ep, open_ e ?_, d, r⟩
    rintro rfl
    rw [e] at sc
    cases sc
    cases d
  have inG : K.In (hidT s.heap H) := fun b o e => by
    by_cases z : b = a
    · subst z
      refine hidT_get (inH b o e) ?_
      cases y : H b with
      | none => rfl
      | some u => rw [(one b u y).2] at e; cases e
    · exact open_ (inH b o e) z
  obtain ⟨mc, l1, l2⟩ := nl
  exact ⟨inG, names g, ⟨rfl, ⟨inG, names g, ⟨mb, names b, bb⟩, ⟨mc, names l1, l2⟩⟩, fun b o e => of_hidT e, Nat.le_of_eq (hidT_size _ _), trivial, fun b hb => (nomatch hb), ok, .of_eq ng⟩⟩
theorem law_runG (inH : K.In s.heap) (g : s.heap.Ns mainGlobals mg) (b : s.heap.Ns builtinsNs mb) (bb : ∀ x : Str, x ≠ "__name__" → mb x = bootBuiltins x) (nl : s.heap.NoLimit) (ng : s.gens = #[])
    (sc : s.heap.get? a = some { cls := .type "list", data := .seq vs.toArray }) (hi : IntsAre vs ns) (hl : ns.length ≤ sizeLine) (hr : Room k callerA)
    (F : ∀ base : Heap, K.In base → base.Ns mainGlobals mg → FnG P w K mg base CX0 k fa sp) (hsp : ∀ H : Hp, SqL K H a (ns.map V.int) → sp [.ref a] H (fun v _ => v = .bl true) fun _ _ _ => False) :
    codeAny (model P w) callerA (.call (.ref fa) ⟨[.ref a], []⟩) (Gives s) s := by
  have rv := vals_ints hi
  have small : (ns.map V.int).length ≤ sizeLine := by rw [List.length_map]; exact hl
  have way : ∀ H : Hp, (∀ b u, H b = some u → ∃ o xs, u = .frz o (.lst xs)) → SqL K H a (ns.map V.int) → HOk P w H s.heap → (∀ b u, H b = some u → b = a ∧ K.lookup a = none) → codeAny (model P w) callerA (.call (.ref fa) ⟨[.ref a], []⟩) (Gives s) s := by
    intro H fz S ok one
    obtain ⟨g1, g2, g3⟩ := ground_of inH g b bb nl ng sc ok one
    refine codeAny_mono (F _ g1 g2 callerA [] s H [.ref a] [V.ref a] _ _ rfl hr g3 (.cons rfl .nil) (hsp H S)) fun r s2 h => ?_
    match r, h with
    | .ok (.ret u), ⟨v, H2, os, bare, un, ok2, ru, q⟩ =>
      have q : v = .bl true := q
      subst q
      have ru : u = Value.bool true := ru
      subst ru
      refine ⟨rfl, OldK.of_keep fun c o e => ?_, os, bare⟩
      cases z : H c with
      | none => exact un.keep c o e z (by intro y; cases y) (by simp)
      | some u =>
        obtain ⟨ob, xs, rfl⟩ := fz c u z
        have e1 := (ok c _ z).1
        rw [e] at e1
        cases e1
        exact (ok2 c _ (un.frzs c o _ z)).1
  cases own : K.lookup a with
  | some o =>
    have e := inH a o own
    rw [sc] at e
    cases e
    exact way (fun _ => none) (fun _ _ z => nomatch z) (.inr ⟨_, vs.toArray, _, own, rfl, rfl, rfl, by rw [List.size_toArray, hi.length]; exact hl, by simpa using rv⟩) (fun _ _ z => nomatch z) (fun _ _ z => nomatch z)
  | none =>
    have at_ : ∀ b u, (if b = a then some (HO.frz { cls := .type "list", data := .seq vs.toArray } (.lst (ns.map V.int))) else none) = some u → b = a ∧ u = .frz { cls := .type "list", data := .seq vs.toArray } (.lst (ns.map V.int)) := fun b u z => by
      by_cases y : b = a
      · rw [if_pos y] at z; cases z; exact ⟨y, rfl⟩
      · rw [if_neg y] at z; cases z
    refine way (fun b => if b = a then some (.frz { cls := .type "list", data := .seq vs.toArray } (.lst (ns.map V.int))) else none) (fun b u z => ⟨_, _, (at_ b u z).2⟩) (.inl (.inr ⟨_, if_pos rfl⟩)) (fun b u z => ?_) (fun b u z => ⟨(at_ b u z).1, own⟩)
    obtain ⟨rfl, rfl⟩ := at_ b u z
    exact ⟨sc, small, vs, _, rv, sc⟩
end
theorem walkG {l : PySem.W.OpenLaw} {n k : Nat} {q : Program} {loose : List Str} {XP : (Str → Option Value) → Heap → Prop} {YP : World → Heap → Prop} {d : DefRec} {K : Params → PySem.W.Frag} {sp : PySem.W.Frag → Sp}
    (hn : l.most = some n) (n2 : n ≤ sizeLine) (hdf : d.params.defaults = []) (hr : Room k callerA) (hY : ∀ (w : World) (h : Heap), YP w h → (K w.params).In h)
    (F : ∀ (w : World) (mg : Str → Option Value) (fa : Addr) (h : Heap), (K w.params).In h → h.Ns mainGlobals mg → mg d.name = some (.ref fa) → ∀ base : Heap, (K w.params).In base → base.Ns mainGlobals mg → FnG l.prog w (K w.params) mg base CX0 k fa (sp (K w.params)))
    (hsp : ∀ (K : PySem.W.Frag) (H : Hp) (a : Addr) (ns : List Int), ns.length ≤ n → SqL K H a (ns.map V.int) → sp K [.ref a] H (fun v _ => v = .bl true) fun _ _ _ => False) :
    PySem.W.WalkO q loose XP YP l.row.toRowW d [] (fun f vs => PySem.call f vs) := by
  apply Att.attach_call hn hdf
  intro w s₀ s₁ mg mb fa o pm cd doc a vs ns G Y ho hd hcd hmg hobj hints hlen hg
  exact law_runG (hY w _ Y) G.T.g G.T.b G.T.builtins G.T.nolimit hg hobj hints (Nat.le_trans hlen n2) hr (F w mg fa _ (hY w _ Y) G.T.g hmg) (fun H S => hsp _ H a ns hlen S)
end Gd
set_option Elab.async false
set_option linter.all false
set_option maxRecDepth 100000
set_option maxHeartbeats 4000000
namespace Vx
open PySem PySem.Spec PyProof.Rows L2
/-- o cmp y by the own method; y of any class that does not come first -/
def rCmpA (K : PySem.W.Frag) (C : Addr) (sp : Sp) (E : XK) : R2 := fun x y H Q => (∃ a dx fs, x = .ref a ∧ H a = some (.ins C dx fs)) ∧ (∃ t, TyX K H y t ∧ PySem.W.notFirst K C t = true) ∧ sp [x, y] H Q E
theorem op_cmpAny {X : Cx} {CX : CXT} {k : Nat} {C f : Addr} {sp : Sp} {E : XK} {op : CmpOp} (hc : ∀ v u, compareOp op v u = richCompare op v u) (at_ : PySem.W.findIn X.K (.ref C) (cmpInfo op).2.1 = some (some (.ref f))) (fn : PySem.W.isFn X.K (.ref f) = true)
    (F : FnR X.prog X.w X.K X.mg X.base CX k f sp) (hr : Room k X.A) (hx : Passes CX X E) : OpR X (compareOp op) (rCmpA X.K C sp E) := by
  intro pins s σ H x y v u Q I rx ry hq
  obtain ⟨⟨a, dx, fs, rfl, ha⟩, ⟨t, ty, nf⟩, hsp⟩ := hq
  have ev : v = Value.ref a := rx
  have cl := call_cmp F hr hx I (us := [v, u]) (vs := [V.ref a, y]) (.cons rx (.cons ry .nil)) hsp
  subst ev
  obtain ⟨mA, J, _⟩ := ins_get I.hok ha
  obtain ⟨od, J, _⟩ := J.look
  obtain ⟨m, hF⟩ := I.fr
  obtain ⟨PP, KX, hP, _⟩ := L2.kit_of I ry ty
  rw [hc]
  exact PySem.W.cmp_K hr.units0 hF I.ok.mod.kin J (KX.ty _ _ I.kIn hP) nf at_ fn cl
end Vx
namespace Toy
open PySem PySem.Spec PyProof.Rows L2
/-! ### own errors -/
/-- what the text says of an own error class: its attribute f, its __init__ at fI -/
structure Err (P : Program) (w : World) (K : PySem.W.Frag) (mg : Str → Option Value) (base : Heap) (x f : Str) (C fI : Addr) (fd : FuncData) (sp : Sp) : Prop where
  T : OexC K C
  no : PySem.W.findIn K (.ref C) f = some none
  gC : mg x = some (.ref C)
  iC : PySem.W.findIn K (.ref C) "__init__" = some (some (.ref fI))
  tI : PySem.W.typeIn K (.ref fI) = some (.type "function")
  F : FnOk P w K mg base CX0 1 fI fd ["self", f] sp
  b : L2.Binds K fd ["self", f] []
def spErr (K : PySem.W.Frag) (f : Str) : Sp := fun vs H Q _ => ∃ (a C : Addr) (v : V), vs = [.ref a, v] ∧ OexC K C ∧ PySem.W.findIn K (.ref C) f = some none ∧ H a = some (exo a C none) ∧ ∀ d, H d = none → d ≠ a → Q .non (upd (upd H d (exd d [(f, v)])) a (exo a C (some d)))
theorem err_end {K : PySem.W.Frag} {f : Str} {C a : Addr} {v : V} {H : Hp} {E : XK} (T : OexC K C) (no : PySem.W.findIn K (.ref C) f = some none) (na : H a = none)
    (q : ∀ H' d, Same H H' → H d = none → H' d = some (.xd [(f, v)]) → E (.ref C) (some d) H') :
    spErr K f (.ref a :: ([v] ++ [])) (upd H a (exo a C none)) (fun u H2 => u = .non ∧ ∃ (d : Addr) (fs : List (Str × V)), H2 a = some (exo a C (some d)) ∧ H2 d = some (exd d fs) ∧ H d = none ∧ E (.ref C) (some d) (upd (del H2 a) d (.xd fs))) (fun _ _ _ => False) := by
  refine ⟨a, C, v, rfl, T, no, upd_same, fun d hd ne => ⟨rfl, d, _, upd_same, by rw [upd_ne ne]; exact upd_same, ?_, ?_⟩⟩
  · rw [upd_ne ne] at hd
    exact hd
  · rw [upd_ne ne] at hd
    refine q _ d (fun b o e => ?_) hd upd_same
    have nba : b ≠ a := ne_of_none e na
    have nbd : b ≠ d := ne_of_none e hd
    rw [upd_ne nbd, del_ne nba, upd_ne nba, upd_ne nbd, upd_ne nba]
    exact e
section
variable {P : Program} {w : World} {K : PySem.W.Frag} {mg : Str → Option Value} {base : Heap}
theorem ok_BadMarks_init {f D : Addr} {mc : Value} {fd : FuncData} (F : Fun K "__init__" "BadMarks.__init__" s_BadMarks_init f fd) (gD : mg "PagesError" = some (.ref D)) (U : Vx.UpC K D mc) : FnOk P w K mg base CX0 1 f fd ["self", "at"] (spErr K "at") := by
  refine F.ok sc_BadMarks_init (fun vs H Q E h => ?_) (fun cdv A outer s H vs Q E hr h => ?_)
  · obtain ⟨a, C, v, rfl, _⟩ := h
    rfl
  · obtain ⟨a, C, v, rfl, T, no, ha, q⟩ := h
    refine ⟨_, pss_cons (ps_expr (Vx.pe_up (pe_glob (v := .ref D) (by rfl) gD rfl) U (pa_cons (pv 0) (pa_cons pe_str pa_nil)))) (pss_one (ps_ost (pv 0) (pv 1))), ?_⟩
    exact ⟨rfl, _, rfl, a, C, _, rfl, (by decide), T, ha, _, rfl, _, rfl, a, C, rfl, T, no, .inl ⟨ha, fun d nd ne => q d nd ne⟩⟩
end
end Toy
set_option Elab.async false
set_option linter.all false
set_option maxRecDepth 100000
set_option maxHeartbeats 4000000
namespace Toy
open PySem PySem.Spec PyProof.Rows L2
structure Cal (P : Program) (w : World) (K : PySem.W.Frag) (mg : Str → Option Value) (base : Heap) (CX : CXT) (k : Nat) (f : Addr) (fd : FuncData) (x : Str) (ps : List Str) (sp : Sp) : Prop where
  G : FnOk P w K mg base CX k f fd ps sp
  k : PySem.W.keepIn K (.ref f) = true
  b : L2.Binds K fd ps []
  g : mg x = some (.ref f)
theorem sum_vi (l : List Nat) : (l.map fun (k : Nat) => (k : Int)).sum = ((l.sum : Nat) : Int) := by
  induction l with
  | nil => rfl
  | cons a r ih => rw [List.map_cons, List.sum_cons, List.sum_cons, ih, Int.natCast_add]
theorem map_int_vi (l : List Nat) : (l.map fun (k : Nat) => (k : Int)).map V.int = l.map vi := by
  rw [List.map_map]
  rfl
theorem neF {x y : V} (h : x = y) : V.bl (!decide (x = y)) = V.bl false := by rw [decide_eq_true h]; rfl
end Toy
set_option Elab.async false
set_option linter.all false
set_option maxRecDepth 100000
set_option maxHeartbeats 4000000
namespace Vx
open PySem PySem.SeqAt
open AutoSeq1 (wpAny_loadPart')
open MeetsSeq MeetsSeq2 MeetsSeq3 SeqRoads2
/-- c at k places from i on -/
def allC (c : Nat → Bool) : Nat → Nat → Bool
  | _, 0 => true
  | i, k + 1 => c i && allC c (i + 1) k
section
variable {prog : Program} {w : World} {A : Around} {R : Result → Shared → Prop}
def ListB (prog : Program) (w : World) (A : Around) (E : Value → Shared → Prop) (l b : Addr) (N : Nat) (J : Shared → Prop) (c : Nat → Bool) : Prop :=
  ∀ i s, J s → ∃ (items items2 : Array Value) (n n2 : Nat), s.heap.get? l = some { cls := .type "list", data := .seq items n } ∧ s.heap.get? b = some { cls := .type "list", data := .seq items2 n2 } ∧ items.size = N ∧ items2.size = N ∧
    ∀ (h1 : i < items.size) (h2 : i < items2.size), wpAny (model prog w) A.in1 (eqBool items[i] items2[i]) (fun r s' => r = c i ∧ J s') E s
theorem eq_loopB (l b : Addr) (N : Nat) (J : Shared → Prop) (c : Nat → Bool) (hl : ListB prog w A (fun e s' => R (.error e) s') l b N J c) (k : Nat) :
    ∀ i : Nat, N - i = k → i ≤ N → ∀ s, J s → (∀ s, J s → R (.ok (.ret (.bool (allC c i k)))) s) →
      wpAny (model prog w) A.in1 (Builtin.«list.__eq__.loop» ⟨[.ref l, .ref b, rawInt i, rawInt 2], []⟩) (GQ.FinOf prog w A R) (fun e s' => R (.error e) s') s := by
  induction k with
  | zero =>
    intro i hk hi s h fin
    obtain ⟨items, items2, n, n2, hl1, hb1, hs1, hs2, _⟩ := hl i _ h
    have hi' : i = N := by omega
    have hR : R (.ok (.ret (.bool true))) s := fin s h
    obtain ⟨hp, g, d, tk, os⟩ := s
    wp_walk using wpAny_loadPart' hl1, wpAny_loadPart' hb1
    have hi1 : items[((i : Nat) : Int).toNat]? = none := by simp; omega
    have hi2 : items2[((i : Nat) : Int).toNat]? = none := by simp; omega
    rw [hi1, hi2]
    wp_walk using wpAny_loadPart' hl1, wpAny_loadPart' hb1
    show R (.ok (.ret (.bool (items.size == items2.size)))) _
    rw [hs1, hs2]
    simpa using hR
  | succ k ih =>
    intro i hk hi s h fin
    obtain ⟨items, items2, n, n2, hl1, hb1, hs1, hs2, turn⟩ := hl i _ h
    have hlt : i < items.size := by omega
    have hlt2 : i < items2.size := by omega
    have ht := turn hlt hlt2
    obtain ⟨hp, g, d, tk, os⟩ := s
    wp_walk using wpAny_loadPart' hl1, wpAny_loadPart' hb1
    have hi1 : items[((i : Nat) : Int).toNat]? = some items[i] := by simp [hlt]
    have hi2 : items2[((i : Nat) : Int).toNat]? = some items2[i] := by simp [hlt2]
    have hc : ((i : Int) + 1) = ((i + 1 : Nat) : Int) := by omega
    rw [hi1, hi2]
    refine wpAny_bind (wpAny_mono ht (fun r s2 h2 => ?_) fun _ _ x => x)
    obtain ⟨hr, h2⟩ := h2
    cases hci : c i with
    | true =>
      rw [hci] at hr
      subst hr
      have hrec := ih (i + 1) (by omega) (by omega) s2 h2 (fun s hs => by
        have z := fin s hs
        unfold allC at z
        rw [hci, Bool.true_and] at z
        exact z)
      obtain ⟨hp2, g2, d2, tk2, os2⟩ := s2
      wp_walk
      rw [hc]
      exact ⟨plainId_quiet plain_eq_loop _, codeAny_builtin entry_eq_loop (by
        rw [Around.under_plainId plain_eq_loop _]
        exact hrec)⟩
    | false =>
      rw [hci] at hr
      subst hr
      have hR : R (.ok (.ret (.bool false))) s2 := by
        have z := fin s2 h2
        unfold allC at z
        rw [hci, Bool.false_and] at z
        exact z
      obtain ⟨jt, jt2, m, m2, hl3, hb3, hs3, hs4, _⟩ := hl i _ h2
      obtain ⟨hp2, g2, d2, tk2, os2⟩ := s2
      wp_walk using wpAny_loadPart' hl3, wpAny_loadPart' hb3
      have hj1 : jt[((i : Nat) : Int).toNat]? = some (jt[i]'(by omega)) := by simp
      have hj2 : jt2[((i : Nat) : Int).toNat]? = some (jt2[i]'(by omega)) := by simp
      rw [hj1, hj2]
      wp_walk
      exact hR
theorem list_eqB (l b : Addr) (N : Nat) (J : Shared → Prop) (c : Nat → Bool) (hl : ListB prog w A (fun e s' => R (.error e) s') l b N J c)
    (fin : ∀ s, J s → R (.ok (.ret (.bool (allC c 0 N)))) s) {s : Shared} (h : J s) :
    wpAny (model prog w) A.in1 (Builtin.«list.__eq__» ⟨[.ref l, .ref b], []⟩) (GQ.FinOf prog w A R) (fun e s' => R (.error e) s') s := by
  obtain ⟨items, items2, n, n2, hl1, hb1, hs1, hs2, _⟩ := hl 0 _ h
  have hrec := eq_loopB (A := A) (R := R) l b N J c hl N 0 rfl (Nat.zero_le _) s h fin
  obtain ⟨hp, g, d, tk, os⟩ := s
  have f3 := AutoSeq1.sub_list_list
  have hne : ¬ (items.size != items2.size) = true := by simp [hs1, hs2]
  wp_walk using wpAny_loadPart' hl1, wpAny_loadPart' hb1
  exact ⟨plainId_quiet plain_eq_loop _, codeAny_builtin entry_eq_loop (by
    rw [Around.under_plainId plain_eq_loop _]
    exact hrec)⟩
theorem list_eqN (l b : Addr) {items items2 : Array Value} {n n2 : Nat} {s : Shared} (hl1 : s.heap.get? l = some { cls := .type "list", data := .seq items n }) (hb1 : s.heap.get? b = some { cls := .type "list", data := .seq items2 n2 }) (hd : items.size ≠ items2.size)
    (fin : R (.ok (.ret (.bool false))) s) :
    wpAny (model prog w) A.in1 (Builtin.«list.__eq__» ⟨[.ref l, .ref b], []⟩) (GQ.FinOf prog w A R) (fun e s' => R (.error e) s') s := by
  obtain ⟨hp, g, d, tk, os⟩ := s
  have f3 := AutoSeq1.sub_list_list
  have hne : (items.size != items2.size) = true := by simp [hd]
  wp_walk using wpAny_loadPart' hl1, wpAny_loadPart' hb1
  exact fin
end
end Vx
namespace Vx
open PySem PySem.Spec PyProof.Rows L2
/-- == gives c for what D says, and makes nothing -/
def EqB (X : Cx) (n : Nat) (D : V → V → Hp → Bool → Prop) : Prop :=
  ∀ (A : Around) (pins : List (Addr × Obj)) (s : Shared) (σ : L2.St) (H : Hp) (x y : V) (u v : Value) (c : Bool), L2.Sub X n A → L2.Inv X pins σ H s → RelV x u → RelV y v → D x y H c →
    wpAny (model X.prog X.w) A (eqBool u v) (fun r s' => r = c ∧ L2.Inv X pins σ H s') X.xe s
def rEqL (D : V → V → Hp → Bool → Prop) : R2 := fun x y H Q => ∃ a b xs ys c, x = .ref a ∧ y = .ref b ∧ H a = some (.lst xs) ∧ H b = some (.lst ys) ∧
  (∀ i u v, xs[i]? = some u → ys[i]? = some v → D u v H (c i)) ∧ Q (.bl (decide (xs.length = ys.length) && allC c 0 xs.length)) H
section
variable {X : Cx} {n : Nat} {D : V → V → Hp → Bool → Prop}
theorem op_eqL (h : EqB X n D) (hr : Room (n + 1) X.A) : OpR X (compareOp .Eq) (rEqL D) := by
  intro pins s σ H x y v u Q I rx ry hq
  obtain ⟨a, b, xs, ys, c, rfl, rfl, ha, hb, hD, q⟩ := hq
  cases rx
  cases ry
  show wpAny (model X.prog X.w) X.A (richCompare .Eq (.ref a) (.ref b)) (EP X pins σ Q) X.xe s
  obtain ⟨z, its, k, r, e⟩ := I.hok a _ ha
  obtain ⟨z2, its2, k2, r2, e2⟩ := I.hok b _ hb
  have sb : L2.Sub X n X.A.in1 := (⟨hr, rfl⟩ : L2.Sub X (n + 1) X.A).in1
  refine wpAny_richCompare_same_room (op := .Eq) ⟨_, e, rfl⟩ ⟨_, e2, rfl⟩ F.slot_list_eq (GQ.call_here F.slot_list_eq ⟨_, e, rfl⟩ F.entry_list_eq (F.args_list_eq_2 _ _) ?_) hr.units0
  by_cases hl : xs.length = ys.length
  · rw [decide_eq_true hl, Bool.true_and] at q
    refine list_eqB (R := wants (fun v s' => v ≠ .notImplemented ∧ EP X pins σ Q v s') X.xe) a b xs.length (fun s' => L2.Inv X pins σ H s') c (fun i s' I1 => ?_) (fun s' I1 => ⟨(fun x => nomatch x), .bl _, H, I1, rfl, q⟩) I
    obtain ⟨z, its, k, r, e⟩ := I1.hok a _ ha
    obtain ⟨z2, its2, k2, r2, e2⟩ := I1.hok b _ hb
    refine ⟨its.toArray, its2.toArray, k, k2, e, e2, by rw [List.size_toArray, ← r.length], by rw [List.size_toArray, ← r2.length, ← hl], fun h1 h2 => ?_⟩
    have g1 : its[i]? = some its.toArray[i] := by
      have h1' : i < its.length := by simpa using h1
      rw [List.getElem?_eq_getElem h1'] <;> simp
    have g2 : its2[i]? = some its2.toArray[i] := by
      have h2' : i < its2.length := by simpa using h2
      rw [List.getElem?_eq_getElem h2'] <;> simp
    have k1 : i < xs.length := by rw [r.length]; simpa using h1
    have k2 : i < ys.length := by rw [r2.length]; simpa using h2
    obtain ⟨u, hu, ru⟩ := r.get (List.getElem?_eq_getElem k1)
    obtain ⟨v, hv, rv⟩ := r2.get (List.getElem?_eq_getElem k2)
    rw [g1] at hu
    rw [g2] at hv
    rw [Option.some.inj hu, Option.some.inj hv]
    exact h X.A.in1 pins s' σ H _ _ u v (c i) sb I1 ru rv (hD i _ _ (List.getElem?_eq_getElem k1) (List.getElem?_eq_getElem k2))
  · rw [decide_eq_false hl, Bool.false_and] at q
    exact list_eqN (R := wants (fun v s' => v ≠ .notImplemented ∧ EP X pins σ Q v s') X.xe) a b e e2 (by rw [List.size_toArray, List.size_toArray, ← r.length, ← r2.length]; exact hl) ⟨(fun x => nomatch x), .bl _, H, I, rfl, q⟩
/-- two instances by the own ==, which makes nothing -/
theorem eqB_ins {k : Nat} {C f : Addr} {sp : Sp} {E : XK} {CX : CXT} (nf : PySem.W.notFirst X.K C (.ref C) = true) (at_ : PySem.W.findIn X.K (.ref C) "__eq__" = some (some (.ref f))) (fn : PySem.W.isFn X.K (.ref f) = true) (F : FnR X.prog X.w X.K X.mg X.base CX k f sp) (hx : Passes CX X E)
    (hd : ∀ x y H c, D x y H c → ∃ a b dx dy fs gs, x = .ref a ∧ y = .ref b ∧ H a = some (.ins C dx fs) ∧ H b = some (.ins C dy gs) ∧ (a = b → c = true) ∧ ∀ Q : VK, Q (.bl c) H → sp [x, y] H Q E) : EqB X k D := by
  intro A pins s σ H x y u v c sb I rx ry d
  obtain ⟨a, b, dx, dy, fs, gs, rfl, rfl, ha, hb, hs, hq⟩ := hd _ _ _ _ d
  cases rx
  cases ry
  by_cases hab : a = b
  · subst hab
    have := hs rfl
    subst this
    exact SeqAt.EqAt.same (A := A) (s := s) (.ref a) X.prog X.w X.xe _ ⟨rfl, I⟩
  · refine GQ.eqBool_refG hab ?_
    obtain ⟨mA, J, _⟩ := ins_get I.hok ha
    obtain ⟨mB, J', _⟩ := ins_get I.hok hb
    obtain ⟨od, J, _⟩ := J.look
    obtain ⟨od', J', _⟩ := J'.look
    obtain ⟨m, hF⟩ := I.fr
    refine PySem.W.cmp_K (op := .Eq) (tb := .ref C) sb.room.units0 hF I.ok.mod.kin J J'.type nf at_ fn ?_
    refine wpAny_mono (wpAny_call (run_in (us := [.ref a, .ref b]) (vs := [V.ref a, V.ref b]) sb F hx I (.cons rfl (.cons rfl .nil)) (hq (fun v H' => v = .bl c ∧ H' = H) ⟨rfl, rfl⟩))) (fun w s' z => ?_) fun _ _ z => z
    obtain ⟨v', H', I', rv, ev, eh⟩ := z
    subst ev eh
    cases rv
    exact ⟨c, rfl, rfl, I'⟩
end
/-- x += y by the own __iadd__ -/
def tIOwn (C : Addr) (sp : Sp) (E : XK) : TIp := fun x y H Q => (∃ a dx fs, x = .ref a ∧ H a = some (.ins C dx fs)) ∧ sp [x, y] H Q E
section
variable {X : Cx} {CX : CXT} {k : Nat} {C f : Addr} {sp : Sp} {E : XK}
theorem pip_own {op : Operator} (sf : PySem.W.selfFirst X.K C = true) (at_ : PySem.W.findIn X.K (.ref C) (dunderI op.info.2) = some (some (.ref f))) (fn : PySem.W.isFn X.K (.ref f) = true) (F : FnR X.prog X.w X.K X.mg X.base CX k f sp) (hr : Room k X.A) (hx : Passes CX X E) : PIp X op (tIOwn C sp E) := by
  intro pins s σ H x y v u Q I rx ry hq
  obtain ⟨⟨a, dx, fs, rfl, ha⟩, hsp⟩ := hq
  have ev : v = Value.ref a := rx
  have cl := call_cmp F hr hx I (us := [v, u]) (vs := [V.ref a, y]) (.cons rx (.cons ry .nil)) hsp
  subst ev
  obtain ⟨mA, J, _⟩ := ins_get I.hok ha
  obtain ⟨od, J, _⟩ := J.look
  obtain ⟨m, hF⟩ := I.fr
  exact PySem.W.ksp_inplace hF I.ok.mod.kin J sf at_ fn cl
end
end Vx
set_option Elab.async false
set_option linter.all false
set_option maxRecDepth 100000
set_option maxHeartbeats 4000000
namespace Vx
open PySem PySem.Spec PyProof.Rows L2
section
variable {X : Cx} {CX : CXT} {k : Nat} {C f : Addr} {sp : Sp} {E : XK}
/-- o[i] = v by the own method -/
def rSetOwn (C : Addr) (sp : Sp) (E : XK) : TSet := fun o i v H Q => (∃ a dx fs, o = .ref a ∧ H a = some (.ins C dx fs)) ∧ sp [o, i, v] H (fun _ H' => Q H') E
theorem set_own (nq : PySem.W.noSeq X.K C = true) (at_ : PySem.W.findIn X.K (.ref C) "__setitem__" = some (some (.ref f))) (fn : PySem.W.isFn X.K (.ref f) = true) (F : FnR X.prog X.w X.K X.mg X.base CX k f sp) (hr : Room k X.A) (hx : Passes CX X E) : PSet X (rSetOwn C sp E) := by
  intro pins s σ H o i v ov iv u Q I ro ri rv h
  obtain ⟨⟨a, dx, fs, rfl, ha⟩, hsp⟩ := h
  have eo : ov = Value.ref a := ro
  have cl := wpAny_call (run_fnR (us := [ov, iv, u]) (vs := [V.ref a, i, v]) F hr hx I (.cons ro (.cons ri (.cons rv .nil))) hsp)
  subst eo
  obtain ⟨mA, J, _⟩ := ins_get I.hok ha
  obtain ⟨od, J, _⟩ := J.look
  obtain ⟨m, hF⟩ := I.fr
  refine PySem.W.ksp_setItem hF I.ok.mod.kin J nq at_ fn (wpAny_mono cl (fun r s' z => ?_) fun _ _ z => z)
  obtain ⟨v', H', I', rv, q⟩ := z
  exact ⟨H', I', q⟩
end
end Vx
namespace Toy
open PySem PySem.Spec PyProof.Rows L2
/-! ### marks -/
theorem none_of {H H' : Hp} {a : Addr} (s : Same H H') (n : H' a = none) : H a = none := by
  cases e : H a with
  | none => rfl
  | some o => rw [s _ _ e] at n; cases n
def pgs : Nat → List Bool → List Nat
  | _, [] => []
  | s, b :: r => (if b then [s] else []) ++ pgs (s + 1) r
theorem pgs_app : ∀ (a b : List Bool) (s : Nat), pgs s (a ++ b) = pgs s a ++ pgs (s + a.length) b
  | [], b, s => rfl
  | x :: r, b, s => by
    show (if x then [s] else []) ++ pgs (s + 1) (r ++ b) = ((if x then [s] else []) ++ pgs (s + 1) r) ++ pgs (s + (r.length + 1)) b
    rw [pgs_app r b (s + 1), List.append_assoc, show s + 1 + r.length = s + (r.length + 1) by omega]
theorem pgs_len : ∀ (a : List Bool) (s : Nat), (pgs s a).length ≤ a.length
  | [], _ => Nat.le_refl _
  | x :: r, s => by
    show ((if x then [s] else []) ++ pgs (s + 1) r).length ≤ r.length + 1
    have := pgs_len r (s + 1)
    rw [List.length_append]
    cases x with
    | true => show 1 + _ ≤ _; omega
    | false => show 0 + _ ≤ _; omega
theorem pgs_lt : ∀ (a : List Bool) (s : Nat), ∀ k ∈ pgs s a, k < s + a.length
  | [], _, k, h => absurd h List.not_mem_nil
  | x :: r, s, k, h => by
    have h : k ∈ (if x then [s] else []) ++ pgs (s + 1) r := h
    rcases List.mem_append.mp h with h | h
    · cases x with
      | true =>
        have := List.mem_singleton.mp h
        show k < s + (r.length + 1)
        omega
      | false => exact absurd h List.not_mem_nil
    · have := pgs_lt r (s + 1) k h
      show k < s + (r.length + 1)
      omega
def numF (fl : List Bool) : Nat := ((pgs 0 fl).map fun k => 2 ^ k).sum
def MarksAt (MC : Addr) (H : Hp) (q l : Addr) (fl : List Bool) : Prop := (∃ dx, H q = some (.ins MC dx [("_flags", .ref l)])) ∧ H l = some (.lst (fl.map V.bl))
theorem MarksAt.same {MC : Addr} {H H' : Hp} {q l : Addr} {fl : List Bool} (h : MarksAt MC H q l fl) (s : Same H H') : MarksAt MC H' q l fl := by
  obtain ⟨⟨dx, e⟩, f⟩ := h
  exact ⟨⟨dx, s _ _ e⟩, s _ _ f⟩
theorem MarksAt.put {MC : Addr} {H : Hp} {q l : Addr} {fl fl' : List Bool} (h : MarksAt MC H q l fl) : MarksAt MC (upd H l (.lst (fl'.map V.bl))) q l fl' := by
  obtain ⟨⟨dx, e⟩, f⟩ := h
  exact ⟨⟨dx, by rw [upd_ne (ne_of e f (by intro z; cases z))]; exact e⟩, upd_same⟩
section
variable {P : Program} {w : World} {K : PySem.W.Frag} {mg : Str → Option Value} {base : Heap} {MC MD W : Addr}
structure MkT (K : PySem.W.Frag) (mg : Str → Option Value) (MC MD : Addr) : Prop where
  cl : Cls K MC
  nF : NoAttr K MC "_flags"
  gD : mg "Made" = some (.ref MD)
  isi : mg "isinstance" = none
  bool : mg "bool" = none
  len : mg "len" = none
  list : mg "list" = none
  enum : mg "enumerate" = none
  sum : mg "sum" = none
  mp : ∃ t, mg "MOST_PAGES" = some (.int 64 t)
theorem flat_rep (n : Nat) : (List.replicate n [V.bl false]).flatten = (List.replicate n false).map V.bl := by
  induction n with
  | zero => rfl
  | succ n ih => rw [List.replicate_succ, List.flatten_cons, ih, List.replicate_succ]; rfl
/-- a value that is not of the class at MD -/
def NotC (K : PySem.W.Frag) (MD : Addr) (H : Hp) (v : V) : Prop := ∃ t, TyX K H v t ∧ PySem.W.kitOne K t (.ref MD) = some false
def spMkI (K : PySem.W.Frag) (MC MD W : Addr) : Sp := fun vs H Q E => ∃ (H0 : Hp) (q dx : Addr) (v : V) (o : Option Int), vs = [.ref q, v] ∧ Same H0 H ∧ H0 q = none ∧ H q = some (.ins MC dx []) ∧ NotC K MD H v ∧ NV K H v o ∧
  (∀ n : Nat, o = some (n : Int) → 1 ≤ n → n ≤ 64 → ∀ H' l, Same H0 H' → H0 l = none → H' q = some (.ins MC dx [("_flags", .ref l)]) → H' l = some (.lst ((List.replicate n false).map V.bl)) → Q .non H') ∧
  (btw o 1 64 = false → ∀ H' d, Same H H' → H d = none → H' d = some (.xd [("at", v)]) → E (.ref W) (some d) H')
theorem ok_mk_init {f fB fE : Addr} {fd fdB fdE : FuncData} (F : Fun K "__init__" "Marks.__init__" s_Marks_init f fd) (T : MkT K mg MC MD) (B : Cal P w K mg base CX0 2 fB fdB "is_between" ["value", "low", "high"] (spBetwG K)) (er : Err P w K mg base "BadMarks" "at" W fE fdE (spErr K "at")) : FnOk P w K mg base (L2.CX P w) 3 f fd ["self", "many"] (spMkI K MC MD W) := by
  obtain ⟨tm, gm⟩ := T.mp
  refine F.okX sc_Marks_init (fun vs H Q E h => ?_) (fun cdv A outer s H vs Q E hr h => ?_)
  · obtain ⟨H0, q, dx, v, o, rfl, _⟩ := h
    rfl
  · obtain ⟨H0, q, dx, v, o, rfl, s0, q0, hq, ⟨t, ht, hk⟩, hv, k, ke⟩ := h
    refine ⟨_, pss_one (ps_if (pt_val (pe_callB call_isi (by rfl) T.isi (by decide +kernel) (pa_cons (pv 1) (pa_cons (pe_glob (v := .ref MD) (by rfl) T.gD rfl) pa_nil)))) (pss_one ps_never)
      (pss_one (ps_if (pt_val (pe_call B.G hr (by rfl) B.g B.k B.b .nil pass0 (pa_cons (pv 1) (pa_cons pe_int (pa_cons (pe_glob (v := .int 64) (by rfl) gm ⟨_, rfl⟩) pa_nil)))))
        (pss_one (ps_fld (pv 0) (pe_op op_rep (pe_lst (pa_cons pe_bl pa_nil)) (pv 1)) rfl)) (pss_one (ps_raise rfl (takes_of rfl rfl rfl rfl) (pmk_oex er.T er.iC er.tI er.F hr er.b .nil pass0 (by rfl) er.gC (pa_cons (pv 1) pa_nil))))))), ?_⟩
    refine ⟨_, rfl, v, .ref MD, t, .ref MD, false, rfl, .own MD, ht, hk, false, rfl, iteF ?_⟩
    refine ⟨_, rfl, v, o, 1, 64, rfl, hv, _, rfl, ?_⟩
    cases hb : btw o 1 64 with
    | false => exact iteF ⟨_, rfl, Nat.le_of_ble_eq_true rfl, fun a na => err_end er.T er.no na fun H' d sm nd hd => ke hb H' d sm nd hd⟩
    | true =>
      obtain ⟨n, rfl, n1, n2⟩ : ∃ n : Nat, o = some (n : Int) ∧ 1 ≤ n ∧ n ≤ 64 := by
        cases o with
        | none => cases hb
        | some z =>
          have e2 : (1 : Int) ≤ z ∧ z ≤ 64 := of_decide_eq_true hb
          obtain ⟨n0, rfl⟩ := Int.eq_ofNat_of_zero_le (show (0 : Int) ≤ z by omega)
          exact ⟨n0, rfl, by omega, by omega⟩
      obtain rfl := hv.some_eq
      refine iteT ⟨by show 1 ≤ sizeLine; decide, fun b nb => ⟨_, rfl, b, _, _, rfl, rfl, upd_same, by omega, by omega, ?_, fun l nl => ?_⟩⟩
      · exact Nat.le_trans (show 1 * ((n : Int)).toNat ≤ 64 by omega) (by decide)
      rw [Int.toNat_natCast, flat_rep]
      have s1 := same_upd (o := .lst [V.bl false]) nb
      have e1 := s1 _ _ hq
      generalize upd H b (HO.lst [V.bl false]) = H1 at s1 e1 nl
      have qs : q ≠ l := ne_of_none e1 nl
      refine ⟨_, rfl, q, MC, dx, _, rfl, by rw [upd_ne qs]; exact e1, T.cl, T.nF, (by show (0 : Nat) < 1000; decide), ?_⟩
      refine k n rfl n1 n2 _ l (fun z o e => ?_) (none_of (s0.trans s1) nl) upd_same ?_
      · rw [upd_ne (ne_of_none e q0)]
        exact (s0.trans (s1.trans (same_upd nl))) _ _ e
      · rw [upd_ne qs.symm]
        exact upd_same
/-- marks[k], and what is no number of a page -/
def spMkGet (K : PySem.W.Frag) (MC W : Addr) : Sp := fun vs H Q E => ∃ (q l : Addr) (fl : List Bool) (v : V) (o : Option Int), vs = [.ref q, v] ∧ MarksAt MC H q l fl ∧ NV K H v o ∧
  (∀ (i : Nat) (b : Bool), o = some (i : Int) → fl[i]? = some b → Q (.bl b) H) ∧ (btw o 0 ((fl.length : Nat) - 1 : Int) = false → ∀ H' d, Same H H' → H d = none → H' d = some (.xd [("at", v)]) → E (.ref W) (some d) H')
theorem ok_mk_get {f fB fE : Addr} {fd fdB fdE : FuncData} (F : Fun K "__getitem__" "Marks.__getitem__" s_Marks_getitem f fd) (T : MkT K mg MC MD) (B : Cal P w K mg base CX0 2 fB fdB "is_between" ["value", "low", "high"] (spBetwG K)) (er : Err P w K mg base "BadMarks" "at" W fE fdE (spErr K "at")) : FnOk P w K mg base (L2.CX P w) 3 f fd ["self", "at"] (spMkGet K MC W) := by
  refine F.okX sc_Marks_getitem (fun vs H Q E h => ?_) (fun cdv A outer s H vs Q E hr h => ?_)
  · obtain ⟨q, l, fl, v, o, rfl, _⟩ := h
    rfl
  · obtain ⟨q, l, fl, v, o, rfl, ⟨⟨dx, h1⟩, h2⟩, hv, k, ke⟩ := h
    refine ⟨_, pss_cons (ps_if (pt_not (pt_val (pe_call B.G hr (by rfl) B.g B.k B.b .nil pass0 (pa_cons (pv 1) (pa_cons pe_int (pa_cons (pe_op op_sub (pe_callB call_len_seq (by rfl) T.len PySem.boot_len (pa_cons (pe_fld (pv 0) rfl) pa_nil)) pe_int) pa_nil))))))
        (pss_one (ps_raise rfl (takes_of rfl rfl rfl rfl) (pmk_oex er.T er.iC er.tI er.F hr er.b .nil pass0 (by rfl) er.gC (pa_cons (pv 1) pa_nil)))) pss_nil)
      (pss_one (ps_ret (pe_ix ix_list (pe_fld (pv 0) rfl) (pv 1) (fun _ _ => rfl)))), ?_⟩
    have hl : (fl.map V.bl).length = fl.length := List.length_map _
    refine ⟨_, rfl, _, rfl, q, MC, dx, _, _, rfl, h1, T.cl, T.nF, rfl, l, _, rfl, .inl (SqL.of h2), _, _, rfl, rfl, v, o, 0, _, rfl, hv, _, rfl, ?_⟩
    rw [hl]
    cases hb : btw o 0 ((fl.length : Nat) - 1 : Int) with
    | false => exact iteT ⟨_, rfl, Nat.le_of_ble_eq_true rfl, fun a na => err_end er.T er.no na fun H' d sm nd hd => ke hb H' d sm nd hd⟩
    | true =>
      obtain ⟨i, rfl, hi⟩ : ∃ i : Nat, o = some (i : Int) ∧ i < fl.length := by
        cases o with
        | none => cases hb
        | some z =>
          have e2 : (0 : Int) ≤ z ∧ z ≤ (fl.length : Nat) - 1 := of_decide_eq_true hb
          obtain ⟨n0, rfl⟩ := Int.eq_ofNat_of_zero_le e2.1
          exact ⟨n0, rfl, by omega⟩
      obtain rfl := hv.some_eq
      have hg := List.getElem?_eq_getElem hi
      refine iteF ⟨_, rfl, q, MC, dx, _, _, rfl, h1, T.cl, T.nF, rfl, _, rfl, l, _, _, _, rfl, rfl, SqL.of h2, atI_nat (by rw [List.getElem?_map, hg]; rfl), k i _ rfl hg⟩
end
end Toy
set_option Elab.async false
set_option linter.all false
set_option maxRecDepth 100000
set_option maxHeartbeats 4000000
namespace Toy
open PySem PySem.Spec PyProof.Rows L2
/-! ### lists of truths as data -/
def bD (fl : List Bool) : PyData := .list (fl.map PyData.bool)
theorem bDs_eqv : ∀ a b : List Bool, PyData.eqvAll (a.map PyData.bool) (b.map PyData.bool) = decide (a = b)
  | [], [] => rfl
  | [], _ :: _ => rfl
  | _ :: _, [] => rfl
  | x :: r, y :: t => by
    show ((x == y) && PyData.eqvAll (r.map PyData.bool) (t.map PyData.bool)) = _
    rw [bDs_eqv r t]
    cases x <;> cases y <;> simp
theorem bD_eqv (a b : List Bool) : PyData.eqv (bD a) (bD b) = decide (a = b) := bDs_eqv a b
theorem bD_can : ∀ a : List Bool, PyData.canLayAll0 (a.map PyData.bool) = true
  | [] => rfl
  | x :: r => by
    show (true && PyData.canLayAll0 (r.map PyData.bool)) = true
    rw [bD_can r]
    rfl
theorem bD_dep : ∀ a : List Bool, PyData.depthAll (a.map PyData.bool) ≤ 1
  | [] => by decide
  | x :: r => by
    have ih := bD_dep r
    have e : PyData.depthAll (PyData.bool x :: r.map PyData.bool) = max (PyData.depth (PyData.bool x)) (PyData.depthAll (r.map PyData.bool)) := rfl
    have e2 : PyData.depth (PyData.bool x) ≤ 1 := by first | exact Nat.zero_le _ | exact Nat.le_refl _
    rw [List.map_cons, e]
    omega
theorem bD_shp (a : List Bool) : SeqAt.shaped (bD a) = true := by
  have h1 := bD_can a
  have h2 := bD_dep a
  unfold SeqAt.shaped
  rw [Bool.and_eq_true]
  refine ⟨h1, decide_eq_true ?_⟩
  have e : PyData.depth (.list (a.map PyData.bool)) = PyData.depthAll (a.map PyData.bool) + 1 := rfl
  show PyData.depth (.list (a.map PyData.bool)) ≤ 64
  omega
theorem dpAll_bl {K : PySem.W.Frag} {H : Hp} : ∀ a : List Bool, DpAll K H (a.map V.bl) (a.map PyData.bool)
  | [] => .nil
  | x :: r => .cons (.bl _) (dpAll_bl r)
theorem dp_bl {K : PySem.W.Frag} {H : Hp} {a : Addr} {fl : List Bool} (h : H a = some (.lst (fl.map V.bl))) : Dp K H (.ref a) (bD fl) := .lst (SqL.of h) (dpAll_bl fl)
section
variable {P : Program} {w : World} {K : PySem.W.Frag} {mg : Str → Option Value} {base : Heap} {MC MD W : Addr}
def spMkPages (MC : Addr) : Sp := fun vs H Q _ => ∃ (q l : Addr) (fl : List Bool), vs = [.ref q] ∧ MarksAt MC H q l fl ∧ fl.length ≤ 64 ∧ ∀ H' m, Same H H' → H m = none → H' m = some (.lst ((pgs 0 fl).map vi)) → Q (.ref m) H'
theorem ok_mk_pages {f : Addr} {fd : FuncData} (F : Fun K "pages" "Marks.pages" s_Marks_pages f fd) (T : MkT K mg MC MD) : FnOk P w K mg base CX0 1 f fd ["self"] (spMkPages MC) := by
  refine F.ok sc_Marks_pages (fun vs H Q E h => ?_) (fun cdv A outer s H vs Q E hr h => ?_)
  · obtain ⟨q, l, fl, rfl, _⟩ := h
    rfl
  · obtain ⟨q, l, fl, rfl, ⟨⟨dx, h1⟩, h2⟩, hz, k⟩ := h
    have nd := sc_Marks_pages.nd
    refine ⟨_, pss_one (ps_ret (pe_lc (own := [("k", 1), ("flag", 2)]) (g := gTup K 2 (gCons (gName 1) (gCons (gName 2) gNil))) rfl nd (pi_enum (by rfl) T.enum (pa_cons (pe_fld (pv 0) rfl) pa_nil))
      (blkOk_by (own := [("k", 1), ("flag", 2)]) (N := ["self", "k", "flag"]) (sc := defScope s_Marks_pages) (by decide +kernel)) (fun _ _ _ _ _ => show PG _ _ (gTup K 2 (gCons (gName 1) (gCons (gName 2) gNil))) from pg_tup (n := 2) rfl (pgs_cons (pg_name (i := 1) nd rfl (Or.inl rfl)) (pgs_cons (pg_name (i := 2) nd rfl (Or.inl rfl)) pgs_nil)))
      (fun _ _ _ _ _ => pts_one (pt_val (pv 2))) (fun _ _ _ _ _ => pv 1))), ?_⟩
    refine ⟨_, rfl, q, MC, dx, _, _, rfl, h1, T.cl, T.nF, rfl, l, _, rfl, SqL.of h2, fun D nD => ?_⟩
    refine lc_it (walk_enum (K := K) (a := l) (xs := fl.map V.bl)) (fun i H' => Same H H' ∧ H' D = some (.lst ((pgs 0 (fl.take i)).map vi))) ⟨same_upd nD, upd_same⟩ (fun i H' _ z => SqL.of (z.1 _ _ h2)) ?_ ?_
    · rintro i x H' H2 hi ⟨s1, e1⟩ ⟨t, u, v, rfl, nt, rfl, eu, ev⟩
      rw [List.length_map] at hi
      obtain rfl := (Option.some.inj eu).symm
      have ev : (fl.map V.bl)[i]? = some v := ev
      rw [List.getElem?_map, List.getElem?_eq_getElem hi] at ev
      obtain rfl := Option.some.inj ev
      have s2 := same_upd (o := .tup [V.int (i : Nat), V.bl fl[i]]) nt
      have et : (upd H' t (.tup [V.int (i : Nat), V.bl fl[i]])) t = some (.tup [V.int (i : Nat), V.bl fl[i]]) := upd_same
      generalize upd H' t (HO.tup [V.int (i : Nat), V.bl fl[i]]) = H3 at s2 et
      have e3 := s2 _ _ e1
      have tk : pgs 0 (fl.take (i + 1)) = pgs 0 (fl.take i) ++ (if fl[i] = true then [i] else []) := by
        rw [List.take_add_one, List.getElem?_eq_getElem hi, Option.toList_some, pgs_app, List.length_take, Nat.min_eq_left (Nat.le_of_lt hi), Nat.zero_add]
        show _ ++ ((if fl[i] = true then [i] else []) ++ []) = _
        rw [List.append_nil]
      refine ⟨t, _, rfl, SqT.of et, rfl, _, _, rfl, _, _, rfl, rfl, rfl, _, rfl, fl[i], rfl, ?_⟩
      rw [tk]
      cases fl[i] with
      | true =>
        refine iteT ⟨_, rfl, _, e3, ?_, fun z o ez => ?_, ?_⟩
        · rw [List.length_map]
          have := pgs_len (fl.take i) 0
          rw [List.length_take] at this
          exact Nat.lt_of_le_of_lt (show _ ≤ 64 by omega) (by decide)
        · rw [upd_ne (ne_of_none ez nD)]
          exact s2 _ _ (s1 _ _ ez)
        · rw [upd_same, List.map_append]
          rfl
      | false =>
        refine iteF ⟨s1.trans s2, ?_⟩
        rw [e3]
        simp
    · rintro H' ⟨s1, e1⟩
      rw [List.length_map, List.take_length] at e1
      exact k H' D s1 nD e1
def spMkLen (MC : Addr) : Sp := fun vs H Q _ => ∃ (q l : Addr) (fl : List Bool), vs = [.ref q] ∧ MarksAt MC H q l fl ∧ Q (.int (fl.length : Nat)) H
theorem ok_mk_len {f : Addr} {fd : FuncData} (F : Fun K "__len__" "Marks.__len__" s_Marks_len f fd) (T : MkT K mg MC MD) : FnOk P w K mg base CX0 1 f fd ["self"] (spMkLen MC) := by
  refine F.ok sc_Marks_len (fun vs H Q E h => ?_) (fun cdv A outer s H vs Q E hr h => ?_)
  · obtain ⟨q, l, fl, rfl, _⟩ := h
    rfl
  · obtain ⟨q, l, fl, rfl, ⟨⟨dx, h1⟩, h2⟩, k⟩ := h
    refine ⟨_, pss_one (ps_ret (pe_callB call_len_seq (by rfl) T.len PySem.boot_len (pa_cons (pe_fld (pv 0) rfl) pa_nil))), ?_⟩
    refine ⟨_, rfl, q, MC, dx, _, _, rfl, h1, T.cl, T.nF, rfl, l, _, rfl, .inl (SqL.of h2), ?_⟩
    rw [List.length_map]
    exact k
def spMkSet (K : PySem.W.Frag) (MC W : Addr) : Sp := fun vs H Q E => ∃ (q l : Addr) (fl : List Bool) (v x : V) (o : Option Int), vs = [.ref q, v, x] ∧ MarksAt MC H q l fl ∧ NV K H v o ∧ ((∃ b, x = .bl b) ∨ ∃ t, TyX K H x t ∧ PySem.W.kitOne K t (.type "bool") = some false) ∧
  (∀ (i : Nat) (b : Bool), o = some (i : Int) → i < fl.length → x = .bl b → Q .non (upd H l (.lst ((fl.set i b).map V.bl)))) ∧
  (btw o 0 ((fl.length : Nat) - 1 : Int) = false → ∀ H' d, Same H H' → H d = none → H' d = some (.xd [("at", v)]) → E (.ref W) (some d) H') ∧
  (∀ i : Nat, o = some (i : Int) → i < fl.length → (∀ b, x ≠ .bl b) → ∀ H' d, Same H H' → H d = none → H' d = some (.xd [("at", .non)]) → E (.ref W) (some d) H')
theorem ok_mk_set {f fB fE : Addr} {fd fdB fdE : FuncData} (F : Fun K "__setitem__" "Marks.__setitem__" s_Marks_setitem f fd) (T : MkT K mg MC MD) (B : Cal P w K mg base CX0 2 fB fdB "is_between" ["value", "low", "high"] (spBetwG K)) (er : Err P w K mg base "BadMarks" "at" W fE fdE (spErr K "at")) : FnOk P w K mg base (L2.CX P w) 3 f fd ["self", "at", "value"] (spMkSet K MC W) := by
  refine F.okX sc_Marks_setitem (fun vs H Q E h => ?_) (fun cdv A outer s H vs Q E hr h => ?_)
  · obtain ⟨q, l, fl, v, x, o, rfl, _⟩ := h
    rfl
  · obtain ⟨q, l, fl, v, x, o, rfl, ⟨⟨dx, h1⟩, h2⟩, hv, hx, k, ke, kb⟩ := h
    refine ⟨_, pss_cons (ps_if (pt_not (pt_val (pe_call B.G hr (by rfl) B.g B.k B.b .nil pass0 (pa_cons (pv 1) (pa_cons pe_int (pa_cons (pe_op op_sub (pe_callB call_len_seq (by rfl) T.len PySem.boot_len (pa_cons (pe_fld (pv 0) rfl) pa_nil)) pe_int) pa_nil))))))
        (pss_one (ps_raise rfl (takes_of rfl rfl rfl rfl) (pmk_oex er.T er.iC er.tI er.F hr er.b .nil pass0 (by rfl) er.gC (pa_cons (pv 1) pa_nil)))) pss_nil)
      (pss_cons (ps_if (pt_not (pt_val (pe_callB call_isi (by rfl) T.isi (by decide +kernel) (pa_cons (pv 2) (pa_cons (pe_bltn (v := .ty "bool") (by rfl) T.bool (by decide +kernel) rfl) pa_nil)))))
        (pss_one (ps_raise rfl (takes_of rfl rfl rfl rfl) (pmk_oex er.T er.iC er.tI er.F hr er.b .nil pass0 (by rfl) er.gC (pa_cons pe_non pa_nil)))) pss_nil)
      (pss_one (ps_asg (pv 2) (pg_sub (pe_fld (pv 0) rfl) (pv 1) set_list)))), ?_⟩
    have hl : (fl.map V.bl).length = fl.length := List.length_map _
    refine ⟨_, rfl, _, rfl, q, MC, dx, _, _, rfl, h1, T.cl, T.nF, rfl, l, _, rfl, .inl (SqL.of h2), _, _, rfl, rfl, v, o, 0, _, rfl, hv, _, rfl, ?_⟩
    rw [hl]
    cases hb : btw o 0 ((fl.length : Nat) - 1 : Int) with
    | false => exact iteT ⟨_, rfl, Nat.le_of_ble_eq_true rfl, fun a na => err_end er.T er.no na fun H' d sm nd hd => ke hb H' d sm nd hd⟩
    | true =>
      obtain ⟨i, rfl, hi⟩ : ∃ i : Nat, o = some (i : Int) ∧ i < fl.length := by
        cases o with
        | none => cases hb
        | some z =>
          have e2 : (0 : Int) ≤ z ∧ z ≤ (fl.length : Nat) - 1 := of_decide_eq_true hb
          obtain ⟨n0, rfl⟩ := Int.eq_ofNat_of_zero_le e2.1
          exact ⟨n0, rfl, by omega⟩
      obtain rfl := hv.some_eq
      refine iteF ?_
      rcases hx with ⟨b, rfl⟩ | ⟨t, ht, hk⟩
      · refine ⟨_, rfl, .bl b, .ty "bool", _, _, true, rfl, .ty _, .base (.bl b), kit_ty (by decide +kernel), true, rfl, iteF ?_⟩
        refine ⟨_, rfl, _, rfl, q, MC, dx, _, _, rfl, h1, T.cl, T.nF, rfl, _, rfl, l, _, _, i, rfl, rfl, h2, ixN_nat (by rw [hl]; exact hi), ?_⟩
        have z := k i b rfl hi rfl
        rw [List.map_set] at z
        exact z
      · refine ⟨_, rfl, x, .ty "bool", t, _, false, rfl, .ty _, ht, hk, false, rfl, iteT ?_⟩
        refine ⟨Nat.le_of_ble_eq_true rfl, fun a na => err_end er.T er.no na fun H' d sm nd hd => kb i rfl hi (fun b e => ?_) H' d sm nd hd⟩
        subst e
        cases ht with
        | base z =>
          cases z
          rw [kit_ty (a := "bool") (b := "bool") (r := true) (by decide +kernel)] at hk
          cases hk
def spMkEq (K : PySem.W.Frag) (MC : Addr) : Sp := fun vs H Q _ => ∃ (q l : Addr) (fl : List Bool) (y : V), vs = [.ref q, y] ∧ MarksAt MC H q l fl ∧
  ((∃ (r m : Addr) (gl : List Bool), y = .ref r ∧ MarksAt MC H r m gl ∧ Q (.bl (decide (fl = gl))) H) ∨ ∃ t, TyX K H y t ∧ PySem.W.kitOne K t (.ref MC) = some false ∧ Q (.bl false) H)
structure MkC (K : PySem.W.Frag) (C : Addr) : Prop where
  cl : Cls K C
  cC : PySem.W.findIn K (.ref C) "__class__" = some (some (.builtin "object.__class__"))
  cG : PySem.W.specialIn K (.builtin "object.__class__") "__get__" = some (some (.builtin "getset_descriptor.__get__"))
  cT : PySem.W.takesIn K (.builtin "object.__class__") = some true
  cM : PySem.W.mroIn K C (.type "object") = some true
  kk : PySem.W.kitOne K (.ref C) (.ref C) = some true
theorem ok_mk_eq {f : Addr} {fd : FuncData} (F : Fun K "__eq__" "Marks.__eq__" s_Marks_eq f fd) (T : MkT K mg MC MD) (C : MkC K MC) (gM : mg "Marks" = some (.ref MC)) : FnOk P w K mg base CX0 1 f fd ["self", "other"] (spMkEq K MC) := by
  refine F.ok sc_Marks_eq (fun vs H Q E h => ?_) (fun cdv A outer s H vs Q E hr h => ?_)
  · obtain ⟨q, l, fl, y, rfl, _⟩ := h
    rfl
  · obtain ⟨q, l, fl, y, rfl, ⟨⟨dx, h1⟩, h2⟩, h⟩ := h
    refine ⟨_, pss_one (ps_ret (pe_and (pe_callB call_isi (by rfl) T.isi (by decide +kernel) (pa_cons (pv 1) (pa_cons (pe_glob (v := .ref MC) (by rfl) gM rfl) pa_nil)))
      (pe_one (pe_cmpR (op_eqD hr.units) (pe_fld (pv 0) rfl) (pe_fld (pv 1) rfl) (nomark _))))), ?_⟩
    rcases h with ⟨r, m, gl, rfl, ⟨⟨dy, g1⟩, g2⟩, k⟩ | ⟨t, ht, hk, k⟩
    · refine ⟨_, rfl, .ref r, .ref MC, .ref MC, .ref MC, true, rfl, .own MC, .base (.ins g1 C.cl C.cC C.cG C.cT C.cM), C.kk, true, rfl, iteT ?_⟩
      refine ⟨_, rfl, q, MC, dx, _, _, rfl, h1, T.cl, T.nF, rfl, _, rfl, r, MC, dy, _, _, rfl, g1, T.cl, T.nF, rfl, _, _, dp_bl h2, dp_bl g2, bD_shp _, bD_shp _, ?_⟩
      rw [bD_eqv]
      exact k
    · exact ⟨_, rfl, y, .ref MC, t, .ref MC, false, rfl, .own MC, ht, hk, false, rfl, iteF k⟩
end
end Toy
set_option Elab.async false
set_option linter.all false
set_option maxRecDepth 100000
set_option maxHeartbeats 4000000
namespace Vx
open PySem PySem.Spec PyProof.Rows L2
def PSetE (X : Cx) (t : L2.St → TSet) : Prop :=
  ∀ (pins : List (Addr × Obj)) (s : Shared) (σ : L2.St) (H : Hp) (o i v : V) (ov iv u : Value) (Q : Hp → Prop), L2.Inv X pins σ H s → RelV o ov → RelV i iv → RelV v u → t σ o i v H Q →
    wpAny (model X.prog X.w) X.A (setItem ov iv u) (fun _ s' => ∃ H', L2.Inv X pins σ H' s' ∧ Q H') X.xe s
def gSubE (to ti : TE) (t : L2.St → TSet) : TG := fun v σ H Q => to σ H fun o H1 => ti σ H1 fun i H2 => t σ o i v H2 fun H3 => Q σ H3
section
variable {X : Cx} {CX : CXT} {k : Nat} {C f : Addr} {sp : Sp} {E : L2.St → XK} {pos : Pos}
theorem pg_subE {o i : Expr} {to ti : TE} {t : L2.St → TSet} (ho : PE X o to) (hi : PE X i ti) (hs : PSetE X t)
    (ha : ∀ v, assign (.Subscript o i pos) X.env v = (do
      let ov ← holding [v] (eval o X.env)
      let iv ← holding [v, ov] (eval i X.env)
      standAt pos
      holding [v, ov, iv] (setItem ov iv v)
      release [v, ov, iv] []) := by intro _; rfl) : PG X (.Subscript o i pos) (gSubE to ti t) := by
  refine ⟨fun pins s σ H v u Q I r h => ?_⟩
  rw [ha]
  refine wpAny_bind (wpAny_holding (thn (ho.run pins s σ H _ I h) fun ov s1 ⟨x, H1, I1, r1, q1⟩ => ?_))
  refine wpAny_bind (wpAny_holding (thn (hi.run pins s1 σ H1 _ I1 q1) fun iv s2 ⟨y, H2, I2, r2, q2⟩ => ?_))
  refine wpAny_bind (wpAny_standAt (wpAny_bind (wpAny_holding (thn (hs pins s2 σ H2 x y v ov iv u _ I2 r1 r2 r q2) fun _ s3 ⟨H3, I3, q3⟩ => ?_))))
  exact wpAny_release ⟨σ, H3, I3, q3⟩
/-- o[i] = v by the own method, which may raise -/
theorem set_ownE (nq : PySem.W.noSeq X.K C = true) (at_ : PySem.W.findIn X.K (.ref C) "__setitem__" = some (some (.ref f))) (fn : PySem.W.isFn X.K (.ref f) = true) (F : FnR X.prog X.w X.K X.mg X.base CX k f sp) (hr : Room k X.A) (hx : ∀ σ, PassesAt CX X σ (E σ)) : PSetE X (fun σ => rSetOwn C sp (E σ)) := by
  intro pins s σ H o i v ov iv u Q I ro ri rv h
  obtain ⟨⟨a, dx, fs, rfl, ha⟩, hsp⟩ := h
  have eo : ov = Value.ref a := ro
  have cl := run_fnRS (us := [ov, iv, u]) (vs := [V.ref a, i, v]) F hr (hx σ) I (.cons ro (.cons ri (.cons rv .nil))) hsp
  subst eo
  obtain ⟨mA, J, _⟩ := ins_get I.hok ha
  obtain ⟨od, J, _⟩ := J.look
  obtain ⟨m, hF⟩ := I.fr
  exact PySem.W.ksp_setItem hF I.ok.mod.kin J nq at_ fn (wpAny_mono cl (fun r s' z => by
    obtain ⟨v', H', I', rv, q⟩ := z
    exact ⟨H', I', q⟩) fun _ _ z => z)
theorem run_inS {E : XK} {pins : List (Addr × Obj)} {σ : L2.St} {H : Hp} {s : Shared} {Q : VK} {A : Around} {us : List Value} {vs : List V} (sb : Sub X k A) (F : FnR X.prog X.w X.K X.mg X.base CX k f sp) (hx : PassesAt CX X σ E) (I : L2.Inv X pins σ H s) (r : Vals vs us) (h : sp vs H Q E) :
    codeAny (model X.prog X.w) A (.call (.ref f) ⟨us, []⟩) (fun r s' => match r with | .ok (.ret v) => EP X pins σ Q v s' | .ok _ => False | .error e => X.xe e s') s := by
  have e0 : Env0 X.prog X.w X.K X.mg X.base A X.stack s H := by
    have e := I.env0
    exact ⟨by rw [sb.fr]; exact e.frames, e.mod, e.bs, e.bsz, e.funs, e.frf, e.hok, e.bare⟩
  refine codeAny_mono (F A X.stack s H us vs Q E sb.room e0 r h) fun r s' hq => ?_
  cases r with
  | error e => exact hx pins H s e s' I hq
  | ok fl =>
    cases fl with
    | ret u => exact I.after hq
    | next => exact False.elim hq
    | brk => exact False.elim hq
    | cont => exact False.elim hq
/-- o[i] by the own method, which may raise -/
def tGetE (C : Addr) (sp : Sp) (E : L2.St → XK) (ta tb : TE) : TE := fun σ H Q => ta σ H fun x H1 => tb σ H1 fun y H2 => (∃ a dx fs, x = .ref a ∧ H2 a = some (.ins C dx fs)) ∧ sp [x, y] H2 Q (E σ)
theorem pe_getE {a b : Expr} {ta tb : TE} (ha : PE X a ta) (hb : PE X b tb) (at_ : PySem.W.findIn X.K (.ref C) "__getitem__" = some (some (.ref f))) (fi : PySem.W.fnIn X.K f = true) (fn : PySem.W.isFn X.K (.ref f) = true) (F : FnR X.prog X.w X.K X.mg X.base CX k f sp) (hr : Room (k + 1) X.A) (hx : ∀ σ, PassesAt CX X σ (E σ))
    (hs : ∀ o i : Value, subscripted b true o i = runValue (.builtin "lifetime.subscript" ⟨[o, i], []⟩)) : PE X (.Subscript a b pos) (tGetE C sp E ta tb) := by
  refine ⟨fun pins s σ H Q I h => ?_⟩
  refine Subscript_ (binT ha hb I h fun v u s2 x y H2 I2 rx ry q => ?_)
  obtain ⟨⟨r, dx, fs, rfl, hr1⟩, hsp⟩ := q
  have ev : v = Value.ref r := rx
  have sb : Sub X k X.A.in1 := (⟨hr, rfl⟩ : Sub X (k + 1) X.A).in1
  have cl := run_inS (us := [v, u]) (vs := [V.ref r, y]) sb F (hx σ) I2 (.cons rx (.cons ry .nil)) hsp
  subst ev
  obtain ⟨mA, J, _⟩ := ins_get I2.hok hr1
  obtain ⟨od, J, _⟩ := J.look
  obtain ⟨m, hF⟩ := I2.fr
  exact PySem.W.sub_K hF I2.ok.mod.kin J at_ fi fn (wpAny_call cl) (hs _ _)
end
end Vx
set_option Elab.async false
set_option linter.all false
set_option maxRecDepth 100000
set_option maxHeartbeats 4000000
namespace Vx
open PySem PySem.Spec PyProof.Rows L2
section
variable {X : Cx} {CX : CXT} {k : Nat} {C f : Addr} {sp : Sp} {E : L2.St → XK} {p pos : Pos} {x : Str} {e : Expr} {es : List Expr} {t : TA}
def tMakeE (C : Addr) (sp : Sp) (E : L2.St → XK) (t : TA) : TE := fun σ H Q => t σ H fun vs H1 => ∀ y dy, H1 y = none → H1 dy = none → dy ≠ y → sp (.ref y :: vs) (upd (upd H1 dy (.own y)) y (.ins C dy [])) (fun v H2 => v = .non ∧ Q (.ref y) H2) (E σ)
theorem pe_makeE (M : Mk X.K C f) (F : FnR X.prog X.w X.K X.mg X.base CX k f sp) (hr : Room (k + 1) X.A) (hg : Gl X x) (hm : X.mg x = some (.ref C)) (hx : ∀ σ, PassesAt CX X σ (E σ))
    (ha : PA X (e :: es) t) (hdb : (x == ("__debug__" : Str)) = false := by decide) (he : starEach (e :: es) X.env = (false, eval e X.env) :: starEach es X.env := by rfl) (hpl : (backTo pos (starEach es X.env)).any (·.1) = false := by rfl) :
    PE X (.Call (.Name x p) (e :: es) [] pos) (tMakeE C sp E t) := by
  refine ⟨fun pins s σ H Q I h => ?_⟩
  refine wpAny_Call_Name_kw (ld_glob I hg hm ?_ hdb)
  refine PySem.W.callWith_K (h₀ := X.base) I.ok.mod.kin M.kp (thn (ha.run pos pins s σ H _ I h) fun us s1 ⟨vs, H1, I1, r, q⟩ => ⟨I1.kIn, ?_⟩) he hpl
  exact run_makeRS M F hr (hx σ) I1 r q
end
section
variable {X : Cx} {CX : CXT} {k : Nat} {C f : Addr} {sp : Sp} {E : XK}
def rLenOwn (C : Addr) (sp : Sp) (E : XK) : List V → Hp → VK → Prop := fun xs H Q => (∃ a dx fs, xs = [.ref a] ∧ H a = some (.ins C dx fs)) ∧ sp xs H (fun v H' => ∃ n : Nat, v = .int n ∧ n < 1000000 ∧ Q (.int n) H') E
theorem call_lenOwn (at_ : PySem.W.findIn X.K (.ref C) "__len__" = some (some (.ref f))) (fn : PySem.W.isFn X.K (.ref f) = true) (F : FnR X.prog X.w X.K X.mg X.base CX k f sp) (hr : Room (k + 1) X.A) (hx : Passes CX X E) : CallR X (.builtin "len") (rLenOwn C sp E) := by
  intro pins s σ H xs us Q I r h
  obtain ⟨⟨a, dx, fs, rfl, ha⟩, hsp⟩ := h
  obtain ⟨u, rfl, rx⟩ := vals1 r
  cases rx
  have sb : Sub X k X.A.in1 := (⟨hr, rfl⟩ : Sub X (k + 1) X.A).in1
  obtain ⟨mA, J, _⟩ := ins_get I.hok ha
  obtain ⟨od, J, _⟩ := J.look
  obtain ⟨m, hF⟩ := I.fr
  refine PySem.W.len_K hF I.ok.mod.kin J at_ fn (wpAny_mono (wpAny_call (run_in (us := [.ref a]) (vs := [V.ref a]) sb F hx I (.cons rfl .nil) hsp)) (fun v s' hv => ?_) fun _ _ z => z)
  obtain ⟨v', H', I', rv, n, rfl, hn, q⟩ := hv
  obtain ⟨t, rfl⟩ := rv
  exact ⟨⟨by omega, by omega⟩, .int n, H', I'.tok _, ⟨_, rfl⟩, q⟩
/-- o != y: not o == y, by the own ==; y of any kind that does not come first -/
def rNeAny (K : PySem.W.Frag) (C : Addr) (sp : Sp) (E : XK) : R2 := fun x y H Q => (∃ a dx fs, x = .ref a ∧ H a = some (.ins C dx fs)) ∧ (∃ t, TyX K H y t ∧ PySem.W.notFirst K C t = true) ∧ sp [x, y] H (fun v H' => ∃ r, v = .bl r ∧ Q (.bl (!r)) H') E
theorem op_neAny (hs : PySem.W.findIn X.K (.ref C) "__ne__" = some (some (.builtin "object.__ne__"))) (he : PySem.W.findIn X.K (.ref C) "__eq__" = some (some (.ref f))) (fn : PySem.W.isFn X.K (.ref f) = true)
    (ho : PySem.W.mroIn X.K C (.type "object") = some true) (F : FnR X.prog X.w X.K X.mg X.base CX k f sp) (hr : Room (k + 1) X.A) (hx : Passes CX X E) : OpR X (compareOp .NotEq) (rNeAny X.K C sp E) := by
  intro pins s σ H x y v u Q I rx ry hq
  obtain ⟨⟨a, dx, fs, rfl, ha⟩, ⟨t, ty, nf⟩, hsp⟩ := hq
  have ev : v = Value.ref a := rx
  have sb : Sub X k X.A.in1 := (⟨hr, rfl⟩ : Sub X (k + 1) X.A).in1
  have cl := wpAny_call (run_in (us := [v, u]) (vs := [V.ref a, y]) sb F hx I (.cons rx (.cons ry .nil)) hsp)
  subst ev
  obtain ⟨mA, J, _⟩ := ins_get I.hok ha
  obtain ⟨od, J, _⟩ := J.look
  obtain ⟨m, hF⟩ := I.fr
  obtain ⟨PP, KX, hP, _⟩ := L2.kit_of I ry ty
  show wpAny (model X.prog X.w) X.A (richCompare .NotEq (.ref a) u) (EP X pins σ Q) X.xe s
  refine ne_K (hu_of hr) hF I.ok.mod.kin J (KX.ty _ _ I.kIn hP) nf hs he fn ho (wpAny_mono cl (fun v s' hv => ?_) fun _ _ z => z)
  obtain ⟨v', H', I', rv, r, rfl, q⟩ := hv
  exact ⟨r, rv, .bl (!r), H', I', rfl, q⟩
end
theorem passO {X : Cx} (σ : L2.St) : PassesAt (L2.CX X.prog X.w) X σ ((fun _ => E0 : L2.St → XK) σ) := fun pins H s e s' I c => passL pins σ H s e s' I c
theorem ix_listK {X : Cx} {K : PySem.W.Frag} (hK : X.K = K) : IxR X (rIxL K) := hK ▸ ix_list
theorem fldK {X : Cx} {K : PySem.W.Frag} (hK : X.K = K) : X.K = K := hK
/-! operators whose answer may be an error, by the place -/
section
variable {X : Cx} {CX : CXT} {k : Nat} {C f : Addr} {sp : Sp} {E : L2.St → XK} {pos : Pos}
theorem call_cmpS {pins : List (Addr × Obj)} {s : Shared} {σ : L2.St} {H : Hp} {Q : VK} {us : List Value} {vs : List V} (F : FnR X.prog X.w X.K X.mg X.base CX k f sp) (hr : Room k X.A) (hx : PassesAt CX X σ (E σ)) (I : L2.Inv X pins σ H s) (r : Vals vs us) (h : sp vs H Q (E σ)) :
    wpAny (model X.prog X.w) X.A (call (.ref f) us) (PySem.W.CmpBack (EP X pins σ Q)) X.xe s :=
  wpAny_mono (run_fnRS F hr hx I r h) (fun _ _ z => cmpBack_of z) fun _ _ z => z
/-- o op y by the own method of o's class, y of the same class -/
def tOpE (C : Addr) (sp : Sp) (E : L2.St → XK) (ta tb : TE) : TE := fun σ H Q => ta σ H fun x H1 => tb σ H1 fun y H2 => (∃ a dx fs, x = .ref a ∧ H2 a = some (.ins C dx fs)) ∧ (∃ b dy gs, y = .ref b ∧ H2 b = some (.ins C dy gs)) ∧ sp [x, y] H2 Q (E σ)
theorem pe_opE {op : Operator} {a b : Expr} {ta tb : TE} (sf : PySem.W.selfFirst X.K C = true) (at_ : PySem.W.findIn X.K (.ref C) (PySem.dunder op.info.2) = some (some (.ref f))) (fn : PySem.W.isFn X.K (.ref f) = true) (F : FnR X.prog X.w X.K X.mg X.base CX k f sp) (hr : Room k X.A) (hx : ∀ σ, PassesAt CX X σ (E σ)) (ha : PE X a ta) (hb : PE X b tb) : PE X (.BinOp a op b pos) (tOpE C sp E ta tb) := by
  refine ⟨fun pins s σ H Q I h => ?_⟩
  refine wpAny_BinOp (binT ha hb I h fun v u s2 x y H2 I2 rx ry q => ?_)
  obtain ⟨⟨a', dx, fs, rfl, ha'⟩, ⟨b', dy, gs, rfl, hb'⟩, hsp⟩ := q
  have ev : v = Value.ref a' := rx
  have eu : u = Value.ref b' := ry
  have cl := call_cmpS F hr (hx σ) I2 (us := [v, u]) (vs := [V.ref a', V.ref b']) (.cons rx (.cons ry .nil)) hsp
  subst ev eu
  obtain ⟨mA, J, _⟩ := ins_get I2.hok ha'
  obtain ⟨od, J, _⟩ := J.look
  obtain ⟨mB, J', _⟩ := ins_get I2.hok hb'
  obtain ⟨od', J', _⟩ := J'.look
  obtain ⟨m, hF⟩ := I2.fr
  exact PySem.W.binop_K hF I2.ok.mod.kin J J'.type sf at_ fn cl
/-- x op= y at a name, by the own method, which may raise -/
def tAugE (C : Addr) (sp : Sp) (E : L2.St → XK) (i : Nat) (te : TE) : TS := fun D σ H => ∃ x, σ[i]? = some (some x) ∧ te σ H fun y H1 => (∃ a dx fs, x = .ref a ∧ H1 a = some (.ins C dx fs)) ∧ sp [x, y] H1 (fun z H2 => D.nx (σ.set i (some z)) H2) (E σ)
theorem ps_augE {i : Nat} {x : Str} {e : Expr} {te : TE} {op : Operator} {pos' : Pos} (hN : X.N.Nodup) (hi : X.N[i]? = some x) (hx : Loc X.env.scope x) (he : PE X e te)
    (sf : PySem.W.selfFirst X.K C = true) (at_ : PySem.W.findIn X.K (.ref C) (dunderI op.info.2) = some (some (.ref f))) (fn : PySem.W.isFn X.K (.ref f) = true) (F : FnR X.prog X.w X.K X.mg X.base CX k f sp) (hr : Room k X.A) (hp : ∀ σ, PassesAt CX X σ (E σ))
    (hf : X.fn x = true ∨ X.env.scope.names.lookup x = some .local := by first | exact .inl rfl | exact .inr rfl | assumption) :
    PS X (.AugAssign (.Name x pos') op e pos) (tAugE C sp E i te) := by
  refine ⟨fun pins s σ H D I h => ?_⟩
  obtain ⟨v, e1, h⟩ := h
  obtain ⟨m, hn, hl⟩ := I.loc
  have vis : Vis X.env.scope x := by rcases hx with k | k; exact .inl k; exact .inr (.inl k)
  obtain ⟨u, r, l⟩ := hl i x v hi e1 vis
  refine wpAny_AugAssign_Name ?_
  have go : wpAny (model X.prog X.w) X.A (eval e X.env) (fun w s₂ => wpAny (model X.prog X.w) X.A (inplaceOp op u w) (fun r s₃ => wpAny (model X.prog X.w) X.A (storeName X.env x r) (fun _ => SP X pins D .next) X.xe s₃) X.xe s₂) X.xe s := by
    refine thn (he.run pins s σ H _ I h) fun w s1 ⟨y, H1, I1, r1, q1⟩ => ?_
    have ho : wpAny (model X.prog X.w) X.A (inplaceOp op u w) (EP X pins σ (fun z H2 => D.nx (σ.set i (some z)) H2)) X.xe s1 := by
      obtain ⟨⟨a, dx, fs, rfl, ha⟩, hsp⟩ := q1
      have ev : u = Value.ref a := r
      have cl := call_cmpS F hr (hp σ) I1 (us := [u, w]) (vs := [V.ref a, y]) (.cons r (.cons r1 .nil)) hsp
      subst ev
      obtain ⟨mA, J, _⟩ := ins_get I1.hok ha
      obtain ⟨od, J, _⟩ := J.look
      obtain ⟨m, hF⟩ := I1.fr
      exact PySem.W.ksp_inplace hF I1.ok.mod.kin J sf at_ fn cl
    refine thn ho fun z s2 ⟨zv, H2, I2, r2, q2⟩ => ?_
    exact store_ok I2 hN hi hx r2 (fun s3 I3 => ⟨_, H2, I3, q2⟩) hf
  rcases l with ⟨hk, hm⟩ | ⟨hk, c, hc, hcell⟩
  · exact wpAny_loadName_local I.ok.kind hk hn hm go
  · rcases hk with hk | hk
    · exact wpAny_loadName_cell I.ok.kind hk hc hcell go
    · rcases hx with k | k
      · have : X.env.scope.names.lookup x = some .free := hk
        rw [k] at this; cases this
      · have : X.env.scope.names.lookup x = some .free := hk
        rw [k] at this; cases this
end
end Vx
namespace Toy
open PySem PySem.Spec PyProof.Rows L2
theorem strOk_of (s : String) : PyData.strOk (Str.ofString s) = true := by
  rw [Str.ofString_eq_toList]
  unfold PyData.strOk
  simp only [List.all_toArray, List.all_map, List.all_eq_true, Function.comp, decide_eq_true_eq]
  intro c _
  have := c.valid
  show c.val.toNat < 1114112
  rcases this with h | h
  · exact Nat.lt_trans h (by decide)
  · exact h.2
structure Sui (K : PySem.W.Frag) (B : Addr) (f : Str) : Prop where
  X : Vx.ExcX K B
  F : XfC K B
  no : PySem.W.findIn K (.ref B) f = some none
  ex : PySem.W.exmOne K (.ref B) (.ref B) = some true
theorem off {H : Hp} {p c a : Addr} (P : Pot H p c) (n : H a = none) : a ≠ p ∧ a ≠ c := by
  obtain ⟨cs, at_, x, h1, h2, _⟩ := P
  exact ⟨(ne_of_none h1 n).symm, (ne_of_none h2 n).symm⟩
section
variable {P : Program} {w : World} {K : PySem.W.Frag} {mg : Str → Option Value} {base : Heap} {MC MD W : Addr}
structure Drw (P : Program) (w : World) (K : PySem.W.Frag) (mg : Str → Option Value) (base : Heap) (fD : Addr) (fdD : FuncData) : Prop where
  G : FnOk P w K mg base CX0 1 fD fdD ["pot", "many"] spDraw
  k : PySem.W.keepIn K (.ref fD) = true
  b : L2.Binds K fdD ["pot", "many"] []
  g : mg "_law_draw" = some (.ref fD)
def spMdI (MD : Addr) : Sp := fun vs H Q _ => ∃ (q dx : Addr) (x : V), vs = [.ref q, x] ∧ H q = some (.ins MD dx []) ∧ Q .non (upd H q (.ins MD dx [("flags", x)]))
theorem ok_md_init {f : Addr} {fd : FuncData} (F : Fun K "__init__" "Made.__init__" s_Made_init f fd) (cl : Cls K MD) (nF : NoAttr K MD "flags") : FnOk P w K mg base CX0 1 f fd ["self", "flags"] (spMdI MD) := by
  refine F.ok sc_Made_init (fun vs H Q E h => ?_) (fun cdv A outer s H vs Q E hr h => ?_)
  · obtain ⟨q, dx, x, rfl, _⟩ := h
    rfl
  · obtain ⟨q, dx, x, rfl, h1, k⟩ := h
    refine ⟨_, pss_one (ps_fld (pv 0) (pv 1) rfl), ?_⟩
    exact ⟨_, rfl, _, rfl, q, MD, dx, _, rfl, h1, cl, nF, (by show (0 : Nat) < 1000; decide), k⟩
def spMkM (MC MD : Addr) : Sp := fun vs H Q _ => ∃ (q m dx dm l : Addr), vs = [.ref q, .ref m] ∧ H q = some (.ins MC dx []) ∧ H m = some (.ins MD dm [("flags", .ref l)]) ∧ Q .non (upd H q (.ins MC dx [("_flags", .ref l)]))
theorem ok_mk_initM {f : Addr} {fd : FuncData} (F : Fun K "__init__" "Marks.__init__" s_Marks_init f fd) (T : MkT K mg MC MD) (C : MkC K MD) (nF : NoAttr K MD "flags") : FnOk P w K mg base CX0 1 f fd ["self", "many"] (spMkM MC MD) := by
  refine F.ok sc_Marks_init (fun vs H Q E h => ?_) (fun cdv A outer s H vs Q E hr h => ?_)
  · obtain ⟨q, m, dx, dm, l, rfl, _⟩ := h
    rfl
  · obtain ⟨q, m, dx, dm, l, rfl, h1, h2, k⟩ := h
    refine ⟨_, pss_one (ps_if (pt_val (pe_callB call_isi (by rfl) T.isi (by decide +kernel) (pa_cons (pv 1) (pa_cons (pe_glob (v := .ref MD) (by rfl) T.gD rfl) pa_nil)))) (pss_one (ps_fld (pv 0) (pe_fld (pv 1) rfl) rfl)) (pss_one ps_never)), ?_⟩
    refine ⟨_, rfl, .ref m, .ref MD, .ref MD, .ref MD, true, rfl, .own MD, .base (.ins h2 C.cl C.cC C.cG C.cT C.cM), C.kk, true, rfl, iteT ?_⟩
    exact ⟨_, rfl, m, MD, dm, _, _, rfl, h2, C.cl, nF, rfl, _, rfl, q, MC, dx, _, rfl, h1, T.cl, T.nF, (by show (0 : Nat) < 1000; decide), k⟩
theorem eq_self {d : PyData} (h : PyData.canLay0 d = true) : PyData.eqv d d = true := SeqAt.eqv_refl _ h
end
section
variable {p c mk l MC : Addr} {H H' : Hp} {fl : List Bool}
theorem Pot.insP {C dx x : Addr} {fs : List (Str × V)} (P : Pot H p c) (h : H x = some (.ins C dx fs)) : x ≠ p ∧ x ≠ c := by
  obtain ⟨cs, at_, y, g1, g2, _⟩ := P
  exact ⟨ne_of h g1 (by intro z; cases z), ne_of h g2 (by intro z; cases z)⟩
theorem MarksAt.kept (h : MarksAt MC H mk l fl) (P : Pot H p c) (n1 : l ≠ p) (n2 : l ≠ c) (k : Kept p c H H') : MarksAt MC H' mk l fl := by
  obtain ⟨⟨dx, e⟩, f⟩ := h
  exact ⟨⟨dx, k _ _ (P.insP e).1 (P.insP e).2 e⟩, k _ _ n1 n2 f⟩
theorem Pot.put' {a : Addr} {o : HO} (P : Pot H p c) (n1 : a ≠ p) (n2 : a ≠ c) : Pot (upd H a o) p c := by
  obtain ⟨cs, at_, x, h1, h2, r⟩ := P
  exact ⟨cs, at_, x, by rw [upd_ne n1.symm]; exact h1, by rw [upd_ne n2.symm]; exact h2, r⟩
theorem MarksAt.off {a : Addr} {ys zs : List V} (h : MarksAt MC H mk l fl) (e : H a = some (.lst ys)) (n : l ≠ a) : MarksAt MC (upd H a (.lst zs)) mk l fl := by
  obtain ⟨⟨dx, e1⟩, f⟩ := h
  exact ⟨⟨dx, by rw [upd_ne (ne_of e1 e (by intro z; cases z))]; exact e1⟩, by rw [upd_ne n]; exact f⟩
end
end Toy
set_option Elab.async false
set_option linter.all false
set_option maxRecDepth 100000
set_option maxHeartbeats 4000000
namespace Toy
open PySem PySem.Spec PyProof.Rows L2
def dk (k : Nat) : PyData := .int k
theorem dpAll_vi {K : PySem.W.Frag} {H : Hp} : ∀ ws : List Nat, DpAll K H (ws.map vi) (ws.map dk)
  | [] => .nil
  | k :: r => .cons (.int _) (dpAll_vi r)
theorem dp_vi {K : PySem.W.Frag} {H : Hp} {a : Addr} {ws : List Nat} (h : H a = some (.lst (ws.map vi))) : Dp K H (.ref a) (.list (ws.map dk)) := .lst (SqL.of h) (dpAll_vi ws)
theorem can_dk : ∀ ws : List Nat, PyData.canLayAll0 (ws.map dk) = true
  | [] => rfl
  | k :: r => by
    rw [List.map_cons]
    show (PyData.canLay0 (.int k) && PyData.canLayAll0 (r.map dk)) = true
    rw [can_dk r]
    rfl
theorem dep_dk : ∀ ws : List Nat, PyData.depthAll (ws.map dk) ≤ 1
  | [] => by decide
  | k :: r => by
    have ih := dep_dk r
    rw [List.map_cons]
    have e : PyData.depthAll (dk k :: r.map dk) = max (PyData.depth (dk k)) (PyData.depthAll (r.map dk)) := rfl
    have e2 : PyData.depth (dk k) ≤ 1 := by first | exact Nat.zero_le _ | exact Nat.le_refl _ | (show (0 : Nat) ≤ 1; decide) | (show (1 : Nat) ≤ 1; decide)
    rw [e]
    omega
theorem shp_dk (ws : List Nat) : SeqAt.shaped (.list (ws.map dk)) = true := by
  have h1 := can_dk ws
  have h2 := dep_dk ws
  unfold SeqAt.shaped
  rw [Bool.and_eq_true]
  refine ⟨h1, decide_eq_true ?_⟩
  have e : PyData.depth (.list (ws.map dk)) = PyData.depthAll (ws.map dk) + 1 := rfl
  omega
theorem eqv_dk : ∀ ws us : List Nat, PyData.eqvAll (ws.map dk) (us.map dk) = decide (ws = us)
  | [], [] => rfl
  | [], _ :: _ => rfl
  | _ :: _, [] => rfl
  | a :: r, b :: t => by
    show ((((a : Nat) : Int) == ((b : Nat) : Int)) && PyData.eqvAll (r.map dk) (t.map dk)) = _
    rw [eqv_dk r t]
    by_cases h : a = b
    · subst h
      simp
    · have h1 : (((a : Nat) : Int) == ((b : Nat) : Int)) = false := by simp; omega
      rw [h1]
      simp [h]
theorem can_dkl (ws : List Nat) : PyData.canLay0 (.list (ws.map dk)) = true := can_dk ws
end Toy
set_option Elab.async false
set_option linter.all false
set_option maxRecDepth 100000
set_option maxHeartbeats 4000000
namespace Toy
open PySem PySem.Spec PyProof.Rows L2
/-! ### pairs -/
def rf {α : Type} (L : List (Addr × α)) : List V := L.map fun x => V.ref x.1
theorem rf_app {α : Type} (L : List (Addr × α)) (t : Addr) (x : α) : rf (L ++ [(t, x)]) = rf L ++ [.ref t] := by
  unfold rf
  rw [List.map_append]
  rfl
theorem zip_len {fl gl : List Bool} (h : fl.length = gl.length) : (fl.zip gl).length = fl.length := by rw [List.length_zip, h, Nat.min_self]
theorem zip_get {fl gl : List Bool} {i : Nat} (h1 : i < fl.length) (h2 : i < gl.length) : (fl.zip gl)[i]? = some (fl[i], gl[i]) := by
  rw [List.getElem?_eq_getElem (by rw [List.length_zip]; omega), List.getElem_zip]
section
variable {P : Program} {w : World} {K : PySem.W.Frag} {mg : Str → Option Value} {base : Heap} {MC MD W : Addr}
structure Own2 (P : Program) (w : World) (K : PySem.W.Frag) (mg : Str → Option Value) (base : Heap) (MC W fLn fGi : Addr) : Prop where
  lnA : PySem.W.findIn K (.ref MC) "__len__" = some (some (.ref fLn))
  lnF : PySem.W.isFn K (.ref fLn) = true
  FL : FnR P w K mg base CX0 1 fLn (spMkLen MC)
  gA : PySem.W.findIn K (.ref MC) "__getitem__" = some (some (.ref fGi))
  gI : PySem.W.fnIn K fGi = true
  gF : PySem.W.isFn K (.ref fGi) = true
  FG : FnR P w K mg base (L2.CX P w) 3 fGi (spMkGet K MC W)
  len : mg "len" = none
  range : mg "range" = none
theorem MarksAt.ins {H : Hp} {q l : Addr} {fl : List Bool} (h : MarksAt MC H q l fl) : ∃ a dx fs, V.ref q = .ref a ∧ H a = some (.ins MC dx fs) := by
  obtain ⟨⟨dx, e⟩, _⟩ := h
  exact ⟨q, dx, _, rfl, e⟩
theorem btw_in {i n : Nat} (h : i < n) : btw (some (i : Int)) 0 ((n : Nat) - 1 : Int) = true := decide_eq_true ⟨by omega, by omega⟩
theorem get_eq {fl : List Bool} {i j : Nat} {b : Bool} (hi : i < fl.length) (e : some (i : Int) = some (j : Int)) (hb : fl[j]? = some b) : b = fl[i] := by
  have : j = i := by have := Option.some.inj e; omega
  subst this
  rw [List.getElem?_eq_getElem hi] at hb
  exact (Option.some.inj hb).symm
def Paired (H : Hp) (D : Addr) (L : List (Addr × (Bool × Bool))) : Prop := H D = some (.lst (rf L)) ∧ ∀ x ∈ L, H x.1 = some (.tup [.bl x.2.1, .bl x.2.2])
theorem Paired.same {H H' : Hp} {D : Addr} {L : List (Addr × (Bool × Bool))} (h : Paired H D L) (s : Same H H') : Paired H' D L := ⟨s _ _ h.1, fun x hx => s _ _ (h.2 x hx)⟩
def spPairs (MC W : Addr) : Sp := fun vs H Q E => ∃ (q1 l1 q2 l2 : Addr) (fl gl : List Bool), vs = [.ref q1, .ref q2] ∧ MarksAt MC H q1 l1 fl ∧ MarksAt MC H q2 l2 gl ∧ fl.length ≤ 64 ∧ gl.length ≤ 64 ∧
  (fl.length = gl.length → ∀ H' D L, Same H H' → H D = none → Paired H' D L → L.map Prod.snd = fl.zip gl → Q (.ref D) H') ∧
  (fl.length ≠ gl.length → ∀ H' d, Same H H' → H d = none → H' d = some (.xd [("at", .non)]) → E (.ref W) (some d) H')
theorem ok_pairs {f fLn fGi fE : Addr} {fd fdE : FuncData} (F : Fun K "_pairs" "_pairs" s_pairs f fd) (O : Own2 P w K mg base MC W fLn fGi) (er : Err P w K mg base "BadMarks" "at" W fE fdE (spErr K "at")) : FnOk P w K mg base (L2.CX P w) 5 f fd ["one", "other"] (spPairs MC W) := by
  refine F.okX sc_pairs (fun vs H Q E h => ?_) (fun cdv A outer s H vs Q E hr h => ?_)
  · obtain ⟨q1, l1, q2, l2, fl, gl, rfl, _⟩ := h
    rfl
  · obtain ⟨q1, l1, q2, l2, fl, gl, rfl, h1, h2, z1, z2, k, ke⟩ := h
    have nd := sc_pairs.nd
    have hr2 : Room 2 _ := hr.mono (by decide)
    obtain ⟨⟨d1, e1⟩, _⟩ := id h1
    obtain ⟨⟨d2, e2⟩, _⟩ := id h2
    refine ⟨_, pss_cons (ps_if (pt_cmpR op_ne (pe_callB (Vx.call_lenOwn O.lnA O.lnF O.FL hr2 pass0) (by rfl) O.len PySem.boot_len (pa_cons (pv 0) pa_nil)) (pe_callB (Vx.call_lenOwn O.lnA O.lnF O.FL hr2 pass0) (by rfl) O.len PySem.boot_len (pa_cons (pv 1) pa_nil)) (nomark _))
        (pss_one (ps_raise rfl (takes_of rfl rfl rfl rfl) (pmk_oex er.T er.iC er.tI er.F hr2 er.b .nil pass0 (by rfl) er.gC (pa_cons pe_non pa_nil)))) pss_nil)
      (pss_one (ps_ret (pe_lc (own := [("k", 2)]) (g := gName 2) (tt := tYes) rfl nd (pi_range1 (by rfl) O.range (pa_cons (pe_callB (Vx.call_lenOwn O.lnA O.lnF O.FL hr2 pass0) (by rfl) O.len PySem.boot_len (pa_cons (pv 0) pa_nil)) pa_nil))
        (blkOk_by (own := [("k", 2)]) (N := ["one", "other", "k"]) (sc := defScope s_pairs) (by decide +kernel)) (fun _ _ _ _ _ => pg_name (i := 2) nd rfl (Or.inl rfl)) (fun _ _ _ _ _ => pts_nil)
        (fun _ _ _ _ _ => pe_tup (pa_cons (Vx.pe_getE (E := fun _ => E0) (pv 0) (pv 2) O.gA O.gI O.gF O.FG hr Vx.passO (fun _ _ => rfl)) (pa_cons (Vx.pe_getE (E := fun _ => E0) (pv 1) (pv 2) O.gA O.gI O.gF O.FG hr Vx.passO (fun _ _ => rfl)) pa_nil)))))), ?_⟩
    refine ⟨_, rfl, ⟨q1, d1, _, rfl, e1⟩, q1, l1, fl, rfl, h1, fl.length, rfl, by omega, _, rfl, ⟨q2, d2, _, rfl, e2⟩, q2, l2, gl, rfl, h2, gl.length, rfl, by omega, rfl, _, rfl, ?_⟩
    by_cases he : fl.length = gl.length
    · have e3 : (!decide (V.int ((fl.length : Nat) : Int) = V.int ((gl.length : Nat) : Int))) = false := by rw [he, decide_eq_true rfl]; rfl
      rw [e3]
      refine iteF ⟨_, rfl, ⟨q1, d1, _, rfl, e1⟩, q1, l1, fl, rfl, h1, fl.length, rfl, by omega, _, rfl, by omega, by omega, fun D nD => ?_⟩
      refine lc_range (lo := 0) (n := ((fl.length : Nat) : Int).toNat) (fun i H' => Same H H' ∧ ∃ L, Paired H' D L ∧ L.map Prod.snd = (fl.zip gl).take i) ⟨same_upd nD, [], ⟨upd_same, fun x h => absurd h List.not_mem_nil⟩, rfl⟩ ?_ ?_
      · rintro i H' hi ⟨s1, L, ⟨eD, hL⟩, el⟩
        rw [Int.toNat_natCast] at hi
        have hg : i < gl.length := by omega
        rw [Int.zero_add]
        refine ⟨rfl, _, rfl, _, rfl, ⟨q1, d1, _, rfl, s1 _ _ e1⟩, q1, l1, fl, _, some (i : Int), rfl, h1.same s1, .int _, fun j b ej hb => ?_, fun hb => by rw [btw_in hi] at hb; cases hb⟩
        obtain rfl := get_eq hi ej hb
        refine ⟨_, rfl, _, rfl, ⟨q2, d2, _, rfl, s1 _ _ e2⟩, q2, l2, gl, _, some (i : Int), rfl, h2.same s1, .int _, fun j b ej hb => ?_, fun hb => by rw [btw_in hg] at hb; cases hb⟩
        obtain rfl := get_eq hg ej hb
        refine ⟨by show 2 ≤ sizeLine; decide, fun t nt => ?_⟩
        have zL : L.length = i := by
          have := congrArg List.length el
          rw [List.length_map, List.length_take, zip_len he] at this
          omega
        have tD : D ≠ t := ne_of_none eD nt
        have s2 := same_upd (o := .tup [V.bl fl[i], V.bl gl[i]]) nt
        refine ⟨_, s2 _ _ eD, ?_, fun z o ez => ?_, L ++ [(t, (fl[i], gl[i]))], ⟨?_, fun x hx => ?_⟩, ?_⟩
        · show (rf L).length < sizeLine
          unfold rf
          rw [List.length_map, zL]
          exact Nat.lt_of_lt_of_le hi (Nat.le_trans z1 (by decide))
        · rw [upd_ne (ne_of_none ez nD)]
          exact s2 _ _ (s1 _ _ ez)
        · rw [upd_same, rf_app]
        · rcases List.mem_append.mp hx with hx | hx
          · have := hL x hx
            rw [upd_ne (ne_of this eD (by intro z; cases z))]
            exact s2 _ _ this
          · rw [List.mem_singleton.mp hx]
            show (upd (upd H' t _) D _) t = _
            rw [upd_ne tD.symm]
            exact upd_same
        · rw [List.map_append, el, List.take_add_one, zip_get hi hg]
          rfl
      · rintro H' ⟨s1, L, pL, el⟩
        rw [Int.toNat_natCast, List.take_of_length_le (by rw [zip_len he]; exact Nat.le_refl _)] at el
        exact k he H' D L s1 nD pL el
    · have e3 : (!decide (V.int ((fl.length : Nat) : Int) = V.int ((gl.length : Nat) : Int))) = true := by
        rw [decide_eq_false (by intro z; injection z with z; exact he (by omega))]
        rfl
      rw [e3]
      exact iteT ⟨Nat.le_of_ble_eq_true rfl, fun a na => err_end er.T er.no na fun H' d sm nd hd => ke he H' d sm nd hd⟩
end
end Toy
set_option Elab.async false
set_option linter.all false
set_option maxRecDepth 100000
set_option maxHeartbeats 4000000
namespace Toy
open PySem PySem.Spec PyProof.Rows L2
def jn (op : Bool → Bool → Bool) (fl gl : List Bool) : List Bool := (fl.zip gl).map fun x => op x.1 x.2
theorem jn_len {op : Bool → Bool → Bool} {fl gl : List Bool} (h : fl.length = gl.length) : (jn op fl gl).length = fl.length := by
  unfold jn
  rw [List.length_map, zip_len h]
theorem rf_get {α : Type} {L : List (Addr × α)} {i : Nat} {x : V} (h : (rf L)[i]? = some x) : ∃ y, L[i]? = some y ∧ x = .ref y.1 := by
  unfold rf at h
  rw [List.getElem?_map] at h
  cases e : L[i]? with
  | none => rw [e] at h; cases h
  | some y => rw [e] at h; exact ⟨y, rfl, (Option.some.inj h).symm⟩
section
variable {P : Program} {w : World} {K : PySem.W.Frag} {mg : Str → Option Value} {base : Heap} {MC MD W : Addr}
def spJn (MC W : Addr) (op : Bool → Bool → Bool) : Sp := fun vs H Q E => ∃ (q1 l1 q2 l2 : Addr) (fl gl : List Bool), vs = [.ref q1, .ref q2] ∧ MarksAt MC H q1 l1 fl ∧ MarksAt MC H q2 l2 gl ∧ fl.length ≤ 64 ∧ gl.length ≤ 64 ∧
  (fl.length = gl.length → ∀ H' D, Same H H' → H D = none → H' D = some (.lst ((jn op fl gl).map V.bl)) → Q (.ref D) H') ∧
  (fl.length ≠ gl.length → ∀ H' d, Same H H' → H d = none → H' d = some (.xd [("at", .non)]) → E (.ref W) (some d) H')
theorem ok_either {f fP : Addr} {fd fdP : FuncData} (F : Fun K "_either" "_either" s_either f fd) (PR : Cal P w K mg base (L2.CX P w) 5 fP fdP "_pairs" ["one", "other"] (spPairs MC W)) : FnOk P w K mg base (L2.CX P w) 6 f fd ["one", "other"] (spJn MC W or) := by
  refine F.okX sc_either (fun vs H Q E h => ?_) (fun cdv A outer s H vs Q E hr h => ?_)
  · obtain ⟨q1, l1, q2, l2, fl, gl, rfl, _⟩ := h
    rfl
  · obtain ⟨q1, l1, q2, l2, fl, gl, rfl, h1, h2, z1, z2, k, ke⟩ := h
    have nd := sc_either.nd
    refine ⟨_, pss_one (ps_ret (pe_lc (own := [("a", 2), ("b", 3)]) (g := gTup K 2 (gCons (gName 2) (gCons (gName 3) gNil))) (tt := tYes) rfl nd
        (pi_list (pe_call PR.G hr (by rfl) PR.g PR.k PR.b .nil (passes_call (takes_of rfl rfl rfl rfl) fun _ _ _ _ h => h) (pa_cons (pv 0) (pa_cons (pv 1) pa_nil))))
        (blkOk_by (own := [("a", 2), ("b", 3)]) (N := ["one", "other", "a", "b"]) (sc := defScope s_either) (by decide +kernel)) (fun _ _ _ _ _ => show PG _ _ (gTup K 2 (gCons (gName 2) (gCons (gName 3) gNil))) from pg_tup (n := 2) rfl (pgs_cons (pg_name (i := 2) nd rfl (Or.inl rfl)) (pgs_cons (pg_name (i := 3) nd rfl (Or.inl rfl)) pgs_nil)))
        (fun _ _ _ _ _ => pts_nil) (fun _ _ _ _ _ => pe_or (pv 2) (pe_one (pv 3))))), ?_⟩
    refine ⟨_, rfl, _, rfl, q1, l1, q2, l2, fl, gl, rfl, h1, h2, z1, z2, fun he H1 D0 L s0 nD0 pL eL => ?_, fun he H' d s' nd' hd => ke he H' d s' nd' hd⟩
    refine ⟨D0, rfl, ⟨_, SqL.of pL.1⟩, fun D nD => ?_⟩
    refine lc_list (K := K) (a := D0) (xs := rf L) (fun i H' => Same H1 H' ∧ H' D = some (.lst (((L.map Prod.snd).take i).map fun x => V.bl (or x.1 x.2)))) ⟨same_upd nD, upd_same⟩ (fun i H' _ z => SqL.of (z.1 _ _ pL.1)) ?_ ?_
    · rintro i x H' hx ⟨s1, e1⟩
      obtain ⟨⟨t, a, b⟩, hy, rfl⟩ := rf_get hx
      have et := s1 _ _ (pL.2 _ (List.mem_of_getElem? hy))
      have tk : ((L.map Prod.snd).take (i + 1)) = (L.map Prod.snd).take i ++ [(a, b)] := by
        rw [List.take_add_one, List.getElem?_map, hy]
        rfl
      rw [tk, List.map_append]
      have hlen : L.length ≤ 64 := by
        have := congrArg List.length eL
        rw [List.length_map, zip_len he] at this
        omega
      have hsz : (((L.map Prod.snd).take i).map fun x => V.bl (or x.1 x.2)).length < sizeLine := by
        rw [List.length_map, List.length_take, List.length_map]
        exact Nat.lt_of_le_of_lt (show _ ≤ 64 by omega) (by decide)
      refine ⟨t, _, rfl, SqT.of et, rfl, _, _, rfl, _, _, rfl, rfl, rfl, ?_⟩
      cases a with
      | true => exact ⟨_, rfl, true, rfl, iteT ⟨_, e1, hsz, fun z o ez => by rw [upd_ne (ne_of_none ez nD)]; exact s1 _ _ ez, upd_same⟩⟩
      | false => exact ⟨_, rfl, false, rfl, iteF ⟨_, rfl,_, e1, hsz, fun z o ez => by rw [upd_ne (ne_of_none ez nD)]; exact s1 _ _ ez, upd_same⟩⟩
    · rintro H' ⟨s1, e1⟩
      have hz : (rf L).length = (L.map Prod.snd).length := by unfold rf; rw [List.length_map, List.length_map]
      rw [hz, List.take_length, eL] at e1
      refine k he H' D (s0.trans s1) (none_of s0 nD) ?_
      rw [e1]
      unfold jn
      rw [List.map_map]
      rfl
theorem ok_both {f fP : Addr} {fd fdP : FuncData} (F : Fun K "_both" "_both" s_both f fd) (PR : Cal P w K mg base (L2.CX P w) 5 fP fdP "_pairs" ["one", "other"] (spPairs MC W)) : FnOk P w K mg base (L2.CX P w) 6 f fd ["one", "other"] (spJn MC W and) := by
  refine F.okX sc_both (fun vs H Q E h => ?_) (fun cdv A outer s H vs Q E hr h => ?_)
  · obtain ⟨q1, l1, q2, l2, fl, gl, rfl, _⟩ := h
    rfl
  · obtain ⟨q1, l1, q2, l2, fl, gl, rfl, h1, h2, z1, z2, k, ke⟩ := h
    have nd := sc_both.nd
    refine ⟨_, pss_one (ps_ret (pe_lc (own := [("a", 2), ("b", 3)]) (g := gTup K 2 (gCons (gName 2) (gCons (gName 3) gNil))) (tt := tYes) rfl nd
        (pi_list (pe_call PR.G hr (by rfl) PR.g PR.k PR.b .nil (passes_call (takes_of rfl rfl rfl rfl) fun _ _ _ _ h => h) (pa_cons (pv 0) (pa_cons (pv 1) pa_nil))))
        (blkOk_by (own := [("a", 2), ("b", 3)]) (N := ["one", "other", "a", "b"]) (sc := defScope s_both) (by decide +kernel)) (fun _ _ _ _ _ => show PG _ _ (gTup K 2 (gCons (gName 2) (gCons (gName 3) gNil))) from pg_tup (n := 2) rfl (pgs_cons (pg_name (i := 2) nd rfl (Or.inl rfl)) (pgs_cons (pg_name (i := 3) nd rfl (Or.inl rfl)) pgs_nil)))
        (fun _ _ _ _ _ => pts_nil) (fun _ _ _ _ _ => pe_and (pv 2) (pe_one (pv 3))))), ?_⟩
    refine ⟨_, rfl, _, rfl, q1, l1, q2, l2, fl, gl, rfl, h1, h2, z1, z2, fun he H1 D0 L s0 nD0 pL eL => ?_, fun he H' d s' nd' hd => ke he H' d s' nd' hd⟩
    refine ⟨D0, rfl, ⟨_, SqL.of pL.1⟩, fun D nD => ?_⟩
    refine lc_list (K := K) (a := D0) (xs := rf L) (fun i H' => Same H1 H' ∧ H' D = some (.lst (((L.map Prod.snd).take i).map fun x => V.bl (and x.1 x.2)))) ⟨same_upd nD, upd_same⟩ (fun i H' _ z => SqL.of (z.1 _ _ pL.1)) ?_ ?_
    · rintro i x H' hx ⟨s1, e1⟩
      obtain ⟨⟨t, a, b⟩, hy, rfl⟩ := rf_get hx
      have et := s1 _ _ (pL.2 _ (List.mem_of_getElem? hy))
      have tk : ((L.map Prod.snd).take (i + 1)) = (L.map Prod.snd).take i ++ [(a, b)] := by
        rw [List.take_add_one, List.getElem?_map, hy]
        rfl
      rw [tk, List.map_append]
      have hlen : L.length ≤ 64 := by
        have := congrArg List.length eL
        rw [List.length_map, zip_len he] at this
        omega
      have hsz : (((L.map Prod.snd).take i).map fun x => V.bl (and x.1 x.2)).length < sizeLine := by
        rw [List.length_map, List.length_take, List.length_map]
        exact Nat.lt_of_le_of_lt (show _ ≤ 64 by omega) (by decide)
      refine ⟨t, _, rfl, SqT.of et, rfl, _, _, rfl, _, _, rfl, rfl, rfl, ?_⟩
      cases a with
      | true => exact ⟨_, rfl, true, rfl, iteT ⟨_, rfl,_, e1, hsz, fun z o ez => by rw [upd_ne (ne_of_none ez nD)]; exact s1 _ _ ez, upd_same⟩⟩
      | false => exact ⟨_, rfl, false, rfl, iteF ⟨_, e1, hsz, fun z o ez => by rw [upd_ne (ne_of_none ez nD)]; exact s1 _ _ ez, upd_same⟩⟩
    · rintro H' ⟨s1, e1⟩
      have hz : (rf L).length = (L.map Prod.snd).length := by unfold rf; rw [List.length_map, List.length_map]
      rw [hz, List.take_length, eL] at e1
      refine k he H' D (s0.trans s1) (none_of s0 nD) ?_
      rw [e1]
      unfold jn
      rw [List.map_map]
      rfl
end
end Toy
set_option Elab.async false
set_option linter.all false
set_option maxRecDepth 100000
set_option maxHeartbeats 4000000
namespace Toy
open PySem PySem.Spec PyProof.Rows L2
def leB (fl gl : List Bool) : Bool := (jn (fun a b => b || !a) fl gl).all id
section
variable {P : Program} {w : World} {K : PySem.W.Frag} {mg : Str → Option Value} {base : Heap} {MC MD W : Addr}
def spLe (MC : Addr) : Sp := fun vs H Q _ => ∃ (q1 l1 q2 l2 : Addr) (fl gl : List Bool), vs = [.ref q1, .ref q2] ∧ MarksAt MC H q1 l1 fl ∧ MarksAt MC H q2 l2 gl ∧ fl.length ≤ 64 ∧ gl.length ≤ 64 ∧
  (∀ H', Same H H' → Q (.bl (decide (fl.length = gl.length) && leB fl gl)) H')
theorem ok_le {f fP fLn fGi : Addr} {fd fdP : FuncData} (F : Fun K "__le__" "Marks.__le__" s_Marks_le f fd) (T : MkT K mg MC MD) (C : MkC K MC) (gM : mg "Marks" = some (.ref MC)) (all : mg "all" = none) (O : Own2 P w K mg base MC W fLn fGi) (PR : Cal P w K mg base (L2.CX P w) 5 fP fdP "_pairs" ["one", "other"] (spPairs MC W)) : FnOk P w K mg base CX0 6 f fd ["self", "other"] (spLe MC) := by
  refine F.ok sc_Marks_le (fun vs H Q E h => ?_) (fun cdv A outer s H vs Q E hr h => ?_)
  · obtain ⟨q1, l1, q2, l2, fl, gl, rfl, _⟩ := h
    rfl
  · obtain ⟨q1, l1, q2, l2, fl, gl, rfl, h1, h2, z1, z2, k⟩ := h
    have nd := sc_Marks_le.nd
    have hr2 : Room 2 _ := hr.mono (by decide)
    obtain ⟨⟨d1, e1⟩, _⟩ := id h1
    obtain ⟨⟨d2, e2⟩, _⟩ := id h2
    refine ⟨_, pss_cons (ps_if (pt_not (pt_val (pe_callB call_isi (by rfl) T.isi (by decide +kernel) (pa_cons (pv 1) (pa_cons (pe_glob (v := .ref MC) (by rfl) gM rfl) pa_nil))))) (pss_one ps_never) pss_nil)
      (pss_cons (ps_if (pt_cmpR op_ne (pe_callB (Vx.call_lenOwn O.lnA O.lnF O.FL hr2 pass0) (by rfl) O.len PySem.boot_len (pa_cons (pv 0) pa_nil)) (pe_callB (Vx.call_lenOwn O.lnA O.lnF O.FL hr2 pass0) (by rfl) O.len PySem.boot_len (pa_cons (pv 1) pa_nil)) (nomark _)) (pss_one (ps_ret pe_bl)) pss_nil)
      (pss_one (ps_ret (pe_callB (cr_all rfl) (by rfl) all (by decide +kernel) (pa_cons (pe_lc (own := [("a", 2), ("b", 3)]) (g := gTup K 2 (gCons (gName 2) (gCons (gName 3) gNil))) (tt := tYes) rfl nd
        (pi_list (pe_call PR.G hr (by rfl) PR.g PR.k PR.b .nil passL (pa_cons (pv 0) (pa_cons (pv 1) pa_nil))))
        (blkOk_by (own := [("a", 2), ("b", 3)]) (N := ["self", "other", "a", "b"]) (sc := defScope s_Marks_le) (by decide +kernel)) (fun _ _ _ _ _ => show PG _ _ (gTup K 2 (gCons (gName 2) (gCons (gName 3) gNil))) from pg_tup (n := 2) rfl (pgs_cons (pg_name (i := 2) nd rfl (Or.inl rfl)) (pgs_cons (pg_name (i := 3) nd rfl (Or.inl rfl)) pgs_nil)))
        (fun _ _ _ _ _ => pts_nil) (fun _ _ _ _ _ => pe_or (pv 3) (pe_one (pe_not (pv 2))))) pa_nil))))), ?_⟩
    refine ⟨_, rfl, .ref q2, .ref MC, .ref MC, .ref MC, true, rfl, .own MC, .base (.ins e2 C.cl C.cC C.cG C.cT C.cM), C.kk, true, rfl, iteF ?_⟩
    refine ⟨_, rfl, ⟨q1, d1, _, rfl, e1⟩, q1, l1, fl, rfl, h1, fl.length, rfl, by omega, _, rfl, ⟨q2, d2, _, rfl, e2⟩, q2, l2, gl, rfl, h2, gl.length, rfl, by omega, rfl, _, rfl, ?_⟩
    by_cases he : fl.length = gl.length
    · have e3 : (!decide (V.int ((fl.length : Nat) : Int) = V.int ((gl.length : Nat) : Int))) = false := by rw [he, decide_eq_true rfl]; rfl
      rw [e3]
      refine iteF ⟨_, rfl, _, rfl, q1, l1, q2, l2, fl, gl, rfl, h1, h2, z1, z2, fun _ H1 D0 L s0 nD0 pL eL => ?_, fun he' H' d s' nd' hd => (he' he).elim⟩
      refine ⟨D0, rfl, ⟨_, SqL.of pL.1⟩, fun D nD => ?_⟩
      refine lc_list (K := K) (a := D0) (xs := rf L) (fun i H' => Same H1 H' ∧ H' D = some (.lst (((L.map Prod.snd).take i).map fun x => V.bl (x.2 || !x.1)))) ⟨same_upd nD, upd_same⟩ (fun i H' _ z => SqL.of (z.1 _ _ pL.1)) ?_ ?_
      · rintro i x H' hx ⟨s1, eD⟩
        obtain ⟨⟨t, a, b⟩, hy, rfl⟩ := rf_get hx
        have et := s1 _ _ (pL.2 _ (List.mem_of_getElem? hy))
        have tk : ((L.map Prod.snd).take (i + 1)) = (L.map Prod.snd).take i ++ [(a, b)] := by
          rw [List.take_add_one, List.getElem?_map, hy]
          rfl
        rw [tk, List.map_append]
        have hlen : L.length ≤ 64 := by
          have := congrArg List.length eL
          rw [List.length_map, zip_len he] at this
          omega
        have hsz : (((L.map Prod.snd).take i).map fun x => V.bl (x.2 || !x.1)).length < sizeLine := by
          rw [List.length_map, List.length_take, List.length_map]
          exact Nat.lt_of_le_of_lt (show _ ≤ 64 by omega) (by decide)
        refine ⟨t, _, rfl, SqT.of et, rfl, _, _, rfl, _, _, rfl, rfl, rfl, ?_⟩
        cases b with
        | true => exact ⟨_, rfl, true, rfl, iteT ⟨_, eD, hsz, fun z o ez => by rw [upd_ne (ne_of_none ez nD)]; exact s1 _ _ ez, upd_same⟩⟩
        | false => exact ⟨_, rfl, false, rfl, iteF ⟨_, rfl, a, rfl, ⟨_, eD, hsz, fun z o ez => by rw [upd_ne (ne_of_none ez nD)]; exact s1 _ _ ez, upd_same⟩⟩⟩
      · rintro H' ⟨s1, eD⟩
        have hz : (rf L).length = (L.map Prod.snd).length := by unfold rf; rw [List.length_map, List.length_map]
        rw [hz, List.take_length, eL] at eD
        refine ⟨D, jn (fun a b => b || !a) fl gl, rfl, SqL.of ?_, ?_⟩
        · rw [eD]
          unfold jn
          rw [List.map_map]
          rfl
        · have := k H' (s0.trans s1)
          rw [decide_eq_true he, Bool.true_and] at this
          exact this
    · have e3 : (!decide (V.int ((fl.length : Nat) : Int) = V.int ((gl.length : Nat) : Int))) = true := by
        rw [decide_eq_false (by intro z; injection z with z; exact he (by omega))]
        rfl
      rw [e3]
      refine iteT ?_
      have := k H (fun _ _ e => e)
      rw [decide_eq_false he, Bool.false_and] at this
      exact this
def spOp (MC W : Addr) (op : Bool → Bool → Bool) : Sp := fun vs H Q E => ∃ (q1 l1 q2 l2 : Addr) (fl gl : List Bool), vs = [.ref q1, .ref q2] ∧ MarksAt MC H q1 l1 fl ∧ MarksAt MC H q2 l2 gl ∧ fl.length ≤ 64 ∧ gl.length ≤ 64 ∧
  (fl.length = gl.length → ∀ H' r m, Same H H' → H r = none → H m = none → MarksAt MC H' r m (jn op fl gl) → Q (.ref r) H') ∧
  (fl.length ≠ gl.length → ∀ H' d, Same H H' → H d = none → H' d = some (.xd [("at", .non)]) → E (.ref W) (some d) H')
def spIop (MC W : Addr) (op : Bool → Bool → Bool) : Sp := fun vs H Q E => ∃ (q1 d1 l1 q2 l2 : Addr) (fl gl : List Bool), vs = [.ref q1, .ref q2] ∧ H q1 = some (.ins MC d1 [("_flags", .ref l1)]) ∧ H l1 = some (.lst (fl.map V.bl)) ∧ MarksAt MC H q2 l2 gl ∧ fl.length ≤ 64 ∧ gl.length ≤ 64 ∧
  (fl.length = gl.length → ∀ H' m, Same H H' → H m = none → H' m = some (.lst ((jn op fl gl).map V.bl)) → Q (.ref q1) (upd H' q1 (.ins MC d1 [("_flags", .ref m)]))) ∧
  (fl.length ≠ gl.length → ∀ H' d, Same H H' → H d = none → H' d = some (.xd [("at", .non)]) → E (.ref W) (some d) H')
theorem ok_or {f fI fD fC : Addr} {fd fdI fdD fdC : FuncData} (F : Fun K "__or__" "Marks.__or__" s_Marks_or f fd) (T : MkT K mg MC MD) (C : MkC K MC) (gM : mg "Marks" = some (.ref MC)) (M : Mk K MC fI) (FI : FnOk P w K mg base CX0 1 fI fdI ["self", "many"] (spMkM MC MD)) (bI : L2.Binds K fdI ["self", "many"] []) (MM : Mk K MD fD) (FD : FnOk P w K mg base CX0 1 fD fdD ["self", "flags"] (spMdI MD)) (bD : L2.Binds K fdD ["self", "flags"] []) (J : Cal P w K mg base (L2.CX P w) 6 fC fdC "_either" ["one", "other"] (spJn MC W or)) : FnOk P w K mg base (L2.CX P w) 7 f fd ["self", "other"] (spOp MC W or) := by
  refine F.okX sc_Marks_or (fun vs H Q E h => ?_) (fun cdv A outer s H vs Q E hr h => ?_)
  · obtain ⟨q1, l1, q2, l2, fl, gl, rfl, _⟩ := h
    rfl
  · obtain ⟨q1, l1, q2, l2, fl, gl, rfl, h1, h2, z1, z2, k, ke⟩ := h
    have hr2 : Room 2 _ := hr.mono (by decide)
    obtain ⟨⟨d2, e2⟩, _⟩ := id h2
    refine ⟨_, pss_cons (ps_if (pt_not (pt_val (pe_callB call_isi (by rfl) T.isi (by decide +kernel) (pa_cons (pv 1) (pa_cons (pe_glob (v := .ref MC) (by rfl) gM rfl) pa_nil))))) (pss_one ps_never) pss_nil)
      (pss_one (ps_ret (pe_make M FI hr2 (by rfl) gM bI .nil pass0 (pa_cons (pe_make MM FD hr2 (by rfl) T.gD bD .nil pass0 (pa_cons (pe_call J.G hr (by rfl) J.g J.k J.b .nil (passes_call (takes_of rfl rfl rfl rfl) fun _ _ _ _ h => h) (pa_cons (pv 0) (pa_cons (pv 1) pa_nil))) pa_nil)) pa_nil)))), ?_⟩
    refine ⟨_, rfl, .ref q2, .ref MC, .ref MC, .ref MC, true, rfl, .own MC, .base (.ins e2 C.cl C.cC C.cG C.cT C.cM), C.kk, true, rfl, iteF ?_⟩
    refine ⟨_, rfl, _, rfl, q1, l1, q2, l2, fl, gl, rfl, h1, h2, z1, z2, fun he H1 m s1 nm m1 => ?_, fun he H' d s' nd' hd => ke he H' d s' nd' hd⟩
    intro y dy ny ndy ney
    refine ⟨y, dy, .ref m, rfl, upd_same, rfl, ?_⟩
    have s2 : Same H1 (upd (upd (upd H1 dy (.own y)) y (.ins MD dy [])) y (.ins MD dy [("flags", .ref m)])) := fun c o z => by
      rw [upd_ne (ne_of_none z ny), upd_ne (ne_of_none z ny), upd_ne (ne_of_none z ndy)]
      exact z
    have y2 : (upd (upd (upd H1 dy (.own y)) y (.ins MD dy [])) y (.ins MD dy [("flags", .ref m)])) y = some (.ins MD dy [("flags", .ref m)]) := upd_same
    generalize upd (upd (upd H1 dy (HO.own y)) y (HO.ins MD dy [])) y (HO.ins MD dy [("flags", .ref m)]) = H2 at s2 y2
    intro r dr nr ndr ner
    have s3 : Same H2 (upd (upd H2 dr (.own r)) r (.ins MC dr [])) := fun c o z => by
      rw [upd_ne (ne_of_none z nr), upd_ne (ne_of_none z ndr)]
      exact z
    refine ⟨r, y, dr, dy, m, rfl, upd_same, s3 _ _ y2, rfl, ?_⟩
    have s4 : Same H2 (upd (upd (upd H2 dr (.own r)) r (.ins MC dr [])) r (.ins MC dr [("_flags", .ref m)])) := fun c o z => by
      rw [upd_ne (ne_of_none z nr), upd_ne (ne_of_none z nr), upd_ne (ne_of_none z ndr)]
      exact z
    exact k he _ r m (s1.trans (s2.trans s4)) (none_of (s1.trans s2) nr) nm ⟨⟨dr, upd_same⟩, s4 _ _ (s2 _ _ m1)⟩
theorem ok_ior {f fC : Addr} {fd fdC : FuncData} (F : Fun K "__ior__" "Marks.__ior__" s_Marks_ior f fd) (T : MkT K mg MC MD) (C : MkC K MC) (gM : mg "Marks" = some (.ref MC)) (J : Cal P w K mg base (L2.CX P w) 6 fC fdC "_either" ["one", "other"] (spJn MC W or)) : FnOk P w K mg base (L2.CX P w) 7 f fd ["self", "other"] (spIop MC W or) := by
  refine F.okX sc_Marks_ior (fun vs H Q E h => ?_) (fun cdv A outer s H vs Q E hr h => ?_)
  · obtain ⟨q1, d1, l1, q2, l2, fl, gl, rfl, _⟩ := h
    rfl
  · obtain ⟨q1, d1, l1, q2, l2, fl, gl, rfl, e1, f1, h2, z1, z2, k, ke⟩ := h
    obtain ⟨⟨d2, e2⟩, _⟩ := id h2
    refine ⟨_, pss_cons (ps_if (pt_not (pt_val (pe_callB call_isi (by rfl) T.isi (by decide +kernel) (pa_cons (pv 1) (pa_cons (pe_glob (v := .ref MC) (by rfl) gM rfl) pa_nil))))) (pss_one ps_never) pss_nil)
      (pss_cons (ps_fld (pv 0) (pe_call J.G hr (by rfl) J.g J.k J.b .nil (passes_call (takes_of rfl rfl rfl rfl) fun _ _ _ _ h => h) (pa_cons (pv 0) (pa_cons (pv 1) pa_nil))) rfl)
      (pss_one (ps_ret (pv 0)))), ?_⟩
    refine ⟨_, rfl, .ref q2, .ref MC, .ref MC, .ref MC, true, rfl, .own MC, .base (.ins e2 C.cl C.cC C.cG C.cT C.cM), C.kk, true, rfl, iteF ?_⟩
    refine ⟨_, rfl, _, rfl, q1, l1, q2, l2, fl, gl, rfl, ⟨⟨d1, e1⟩, f1⟩, h2, z1, z2, fun he H1 m s1 nm m1 => ?_, fun he H' d s' nd' hd => ke he H' d s' nd' hd⟩
    exact ⟨_, rfl, q1, MC, d1, _, rfl, s1 _ _ e1, T.cl, T.nF, (by show (1 : Nat) < 1000; decide), _, rfl, k he H1 m s1 nm m1⟩
theorem ok_and {f fI fD fC : Addr} {fd fdI fdD fdC : FuncData} (F : Fun K "__and__" "Marks.__and__" s_Marks_and f fd) (T : MkT K mg MC MD) (C : MkC K MC) (gM : mg "Marks" = some (.ref MC)) (M : Mk K MC fI) (FI : FnOk P w K mg base CX0 1 fI fdI ["self", "many"] (spMkM MC MD)) (bI : L2.Binds K fdI ["self", "many"] []) (MM : Mk K MD fD) (FD : FnOk P w K mg base CX0 1 fD fdD ["self", "flags"] (spMdI MD)) (bD : L2.Binds K fdD ["self", "flags"] []) (J : Cal P w K mg base (L2.CX P w) 6 fC fdC "_both" ["one", "other"] (spJn MC W and)) : FnOk P w K mg base (L2.CX P w) 7 f fd ["self", "other"] (spOp MC W and) := by
  refine F.okX sc_Marks_and (fun vs H Q E h => ?_) (fun cdv A outer s H vs Q E hr h => ?_)
  · obtain ⟨q1, l1, q2, l2, fl, gl, rfl, _⟩ := h
    rfl
  · obtain ⟨q1, l1, q2, l2, fl, gl, rfl, h1, h2, z1, z2, k, ke⟩ := h
    have hr2 : Room 2 _ := hr.mono (by decide)
    obtain ⟨⟨d2, e2⟩, _⟩ := id h2
    refine ⟨_, pss_cons (ps_if (pt_not (pt_val (pe_callB call_isi (by rfl) T.isi (by decide +kernel) (pa_cons (pv 1) (pa_cons (pe_glob (v := .ref MC) (by rfl) gM rfl) pa_nil))))) (pss_one ps_never) pss_nil)
      (pss_one (ps_ret (pe_make M FI hr2 (by rfl) gM bI .nil pass0 (pa_cons (pe_make MM FD hr2 (by rfl) T.gD bD .nil pass0 (pa_cons (pe_call J.G hr (by rfl) J.g J.k J.b .nil (passes_call (takes_of rfl rfl rfl rfl) fun _ _ _ _ h => h) (pa_cons (pv 0) (pa_cons (pv 1) pa_nil))) pa_nil)) pa_nil)))), ?_⟩
    refine ⟨_, rfl, .ref q2, .ref MC, .ref MC, .ref MC, true, rfl, .own MC, .base (.ins e2 C.cl C.cC C.cG C.cT C.cM), C.kk, true, rfl, iteF ?_⟩
    refine ⟨_, rfl, _, rfl, q1, l1, q2, l2, fl, gl, rfl, h1, h2, z1, z2, fun he H1 m s1 nm m1 => ?_, fun he H' d s' nd' hd => ke he H' d s' nd' hd⟩
    intro y dy ny ndy ney
    refine ⟨y, dy, .ref m, rfl, upd_same, rfl, ?_⟩
    have s2 : Same H1 (upd (upd (upd H1 dy (.own y)) y (.ins MD dy [])) y (.ins MD dy [("flags", .ref m)])) := fun c o z => by
      rw [upd_ne (ne_of_none z ny), upd_ne (ne_of_none z ny), upd_ne (ne_of_none z ndy)]
      exact z
    have y2 : (upd (upd (upd H1 dy (.own y)) y (.ins MD dy [])) y (.ins MD dy [("flags", .ref m)])) y = some (.ins MD dy [("flags", .ref m)]) := upd_same
    generalize upd (upd (upd H1 dy (HO.own y)) y (HO.ins MD dy [])) y (HO.ins MD dy [("flags", .ref m)]) = H2 at s2 y2
    intro r dr nr ndr ner
    have s3 : Same H2 (upd (upd H2 dr (.own r)) r (.ins MC dr [])) := fun c o z => by
      rw [upd_ne (ne_of_none z nr), upd_ne (ne_of_none z ndr)]
      exact z
    refine ⟨r, y, dr, dy, m, rfl, upd_same, s3 _ _ y2, rfl, ?_⟩
    have s4 : Same H2 (upd (upd (upd H2 dr (.own r)) r (.ins MC dr [])) r (.ins MC dr [("_flags", .ref m)])) := fun c o z => by
      rw [upd_ne (ne_of_none z nr), upd_ne (ne_of_none z nr), upd_ne (ne_of_none z ndr)]
      exact z
    exact k he _ r m (s1.trans (s2.trans s4)) (none_of (s1.trans s2) nr) nm ⟨⟨dr, upd_same⟩, s4 _ _ (s2 _ _ m1)⟩
theorem ok_iand {f fC : Addr} {fd fdC : FuncData} (F : Fun K "__iand__" "Marks.__iand__" s_Marks_iand f fd) (T : MkT K mg MC MD) (C : MkC K MC) (gM : mg "Marks" = some (.ref MC)) (J : Cal P w K mg base (L2.CX P w) 6 fC fdC "_both" ["one", "other"] (spJn MC W and)) : FnOk P w K mg base (L2.CX P w) 7 f fd ["self", "other"] (spIop MC W and) := by
  refine F.okX sc_Marks_iand (fun vs H Q E h => ?_) (fun cdv A outer s H vs Q E hr h => ?_)
  · obtain ⟨q1, d1, l1, q2, l2, fl, gl, rfl, _⟩ := h
    rfl
  · obtain ⟨q1, d1, l1, q2, l2, fl, gl, rfl, e1, f1, h2, z1, z2, k, ke⟩ := h
    obtain ⟨⟨d2, e2⟩, _⟩ := id h2
    refine ⟨_, pss_cons (ps_if (pt_not (pt_val (pe_callB call_isi (by rfl) T.isi (by decide +kernel) (pa_cons (pv 1) (pa_cons (pe_glob (v := .ref MC) (by rfl) gM rfl) pa_nil))))) (pss_one ps_never) pss_nil)
      (pss_cons (ps_fld (pv 0) (pe_call J.G hr (by rfl) J.g J.k J.b .nil (passes_call (takes_of rfl rfl rfl rfl) fun _ _ _ _ h => h) (pa_cons (pv 0) (pa_cons (pv 1) pa_nil))) rfl)
      (pss_one (ps_ret (pv 0)))), ?_⟩
    refine ⟨_, rfl, .ref q2, .ref MC, .ref MC, .ref MC, true, rfl, .own MC, .base (.ins e2 C.cl C.cC C.cG C.cT C.cM), C.kk, true, rfl, iteF ?_⟩
    refine ⟨_, rfl, _, rfl, q1, l1, q2, l2, fl, gl, rfl, ⟨⟨d1, e1⟩, f1⟩, h2, z1, z2, fun he H1 m s1 nm m1 => ?_, fun he H' d s' nd' hd => ke he H' d s' nd' hd⟩
    exact ⟨_, rfl, q1, MC, d1, _, rfl, s1 _ _ e1, T.cl, T.nF, (by show (1 : Nat) < 1000; decide), _, rfl, k he H1 m s1 nm m1⟩
end
end Toy
set_option Elab.async false
set_option linter.all false
set_option maxRecDepth 100000
set_option maxHeartbeats 4000000
namespace Toy
open PySem PySem.Spec PyProof.Rows L2
section
variable {P : Program} {w : World} {K : PySem.W.Frag} {mg : Str → Option Value} {base : Heap} {MC MD W : Addr}
structure MkF (P : Program) (w : World) (K : PySem.W.Frag) (mg : Str → Option Value) (base : Heap) (MC MD W fI fS : Addr) (fdI : FuncData) : Prop where
  M : Mk K MC fI
  g : mg "Marks" = some (.ref MC)
  F : FnOk P w K mg base (L2.CX P w) 3 fI fdI ["self", "many"] (spMkI K MC MD W)
  b : L2.Binds K fdI ["self", "many"] []
  nq : PySem.W.noSeq K MC = true
  sA : PySem.W.findIn K (.ref MC) "__setitem__" = some (some (.ref fS))
  sF : PySem.W.isFn K (.ref fS) = true
  FS : FnR P w K mg base (L2.CX P w) 3 fS (spMkSet K MC W)
  kID : PySem.W.kitOne K (.type "int") (.ref MD) = some false
def spMarks (MC : Addr) : Sp := fun vs H Q _ => ∃ (l : Addr) (fl : List Bool), vs = [.ref l] ∧ H l = some (.lst (fl.map V.bl)) ∧ 1 ≤ fl.length ∧ fl.length ≤ 64 ∧ ∀ H' q m, Same H H' → H q = none → H m = none → MarksAt MC H' q m fl → Q (.ref q) H'
theorem ok_marks {f fI fS : Addr} {fd fdI : FuncData} (F : Fun K "_law_marks" "_law_marks" s_law_marks f fd) (M : MkF P w K mg base MC MD W fI fS fdI) (len : mg "len" = none) (enum : mg "enumerate" = none) : FnOk P w K mg base CX0 5 f fd ["truths"] (spMarks MC) := by
  refine F.ok sc_law_marks (fun vs H Q E h => ?_) (fun cdv A outer s H vs Q E hr h => ?_)
  · obtain ⟨l, fl, rfl, _⟩ := h
    rfl
  · obtain ⟨l, fl, rfl, hl, z0, z1, q⟩ := h
    have nd := sc_law_marks.nd
    have hr3 : Room 3 _ := hr.mono (by decide)
    refine ⟨_, pss_cons (ps_set (i := 1) nd rfl (Or.inl rfl) (pe_make M.M M.F hr (by rfl) M.g M.b .nil passL (pa_cons (pe_callB call_len_seq (by rfl) len PySem.boot_len (pa_cons (pv 0) pa_nil)) pa_nil)))
      (pss_cons (ps_for PassesOwn.never rfl (pi_enum (by rfl) enum (pa_cons (pv 0) pa_nil)) (pg_tup (n := 2) rfl (pgs_cons (pg_name (i := 2) nd rfl (Or.inl rfl)) (pgs_cons (pg_name (i := 3) nd rfl (Or.inl rfl)) pgs_nil)))
        (pss_one (ps_asg (pv 3) (pg_sub (pv 1) (pv 2) (Vx.set_own (E := E0) M.nq M.sA M.sF M.FS hr3 passL)))))
      (pss_one (ps_ret (pv 1)))), ?_⟩
    refine ⟨_, rfl, l, _, rfl, .inl (SqL.of hl), ?_⟩
    rw [List.length_map]
    intro mk dm nmk ndm nedm
    have s2 : Same H (upd (upd H dm (.own mk)) mk (.ins MC dm [])) := fun c o y => by
      rw [upd_ne (ne_of_none y nmk), upd_ne (ne_of_none y ndm)]
      exact y
    refine ⟨H, mk, dm, _, some ((fl.length : Nat) : Int), rfl, s2, nmk, upd_same, ⟨_, .base (.int _), M.kID⟩, .int _, fun n' ho n1 n2 H5 m s5 nm e5 em => ⟨rfl, ?_⟩, fun hb => absurd hb (by rw [show btw (some ((fl.length : Nat) : Int)) 1 64 = true from decide_eq_true ⟨by omega, by omega⟩]; decide)⟩
    obtain rfl : n' = fl.length := by have := Option.some.inj ho; omega
    have hl5 := s5 _ _ hl
    refine ⟨_, rfl, l, _, rfl, SqL.of hl5, ?_⟩
    refine for_it (walk_enum (K := K) (a := l) (xs := fl.map V.bl)) (fun i σ H' => ∃ x y, σ = [some (.ref l), some (.ref mk), x, y] ∧ Same H H' ∧ MarksAt MC H' mk m (fl.take i ++ List.replicate (fl.length - i) false)) ⟨none, none, rfl, s5, ⟨dm, e5⟩, em⟩ (fun i σ H' _ z => ?_) ?_ ?_
    · obtain ⟨x, y, _, s', _⟩ := z
      exact SqL.of (s' _ _ hl)
    · rintro i x σ H1 H2 hi ⟨x2, x3, rfl, s1, hM⟩ ⟨t, u, v, rfl, nt, rfl, eu, ev⟩
      rw [List.length_map] at hi
      obtain rfl := (Option.some.inj eu).symm
      have ev : (fl.map V.bl)[i]? = some v := ev
      rw [List.getElem?_map, List.getElem?_eq_getElem hi] at ev
      obtain rfl := Option.some.inj ev
      have s3 := same_upd (o := .tup [V.int (i : Nat), V.bl fl[i]]) nt
      have et : (upd H1 t (.tup [V.int (i : Nat), V.bl fl[i]])) t = some (.tup [V.int (i : Nat), V.bl fl[i]]) := upd_same
      generalize upd H1 t (HO.tup [V.int (i : Nat), V.bl fl[i]]) = H3 at s3 et
      have hM3 := hM.same s3
      obtain ⟨⟨d3, e3⟩, f3⟩ := id hM3
      have hlen : (fl.take i ++ List.replicate (fl.length - i) false).length = fl.length := by
        rw [List.length_append, List.length_take, List.length_replicate]
        omega
      refine ⟨t, _, rfl, SqT.of et, rfl, _, _, rfl, _, _, rfl, rfl, ?_⟩
      refine ⟨_, rfl, _, rfl, _, rfl, ⟨mk, d3, _, rfl, e3⟩, mk, m, _, _, _, some (i : Int), rfl, hM3, .int _, .inl ⟨_, rfl⟩, fun j b ej hj eb => ?_, fun hb => ?_, fun j ej hj ne => (ne _ rfl).elim⟩
      · obtain rfl : j = i := by have := Option.some.inj ej; omega
        obtain rfl : b = fl[j] := by injection eb with eb; exact eb.symm
        have es : (fl.take j ++ List.replicate (fl.length - j) false).set j fl[j] = fl.take (j + 1) ++ List.replicate (fl.length - (j + 1)) false := by
          have zt : (fl.take j).length = j := by rw [List.length_take]; omega
          rw [List.set_append_right _ _ (by rw [zt]; exact Nat.le_refl _), zt, Nat.sub_self, show fl.length - j = (fl.length - (j + 1)) + 1 by omega, List.replicate_succ, List.set_cons_zero, List.take_add_one, List.getElem?_eq_getElem hi, Option.toList_some, List.append_assoc]
          rfl
        rw [es]
        refine ⟨_, _, rfl, fun c o z => ?_, hM3.put⟩
        rw [upd_ne (ne_of_none z nm)]
        exact s3 _ _ (s1 _ _ z)
      · rw [hlen, btw_in hi] at hb
        cases hb
    · rintro σ H1 ⟨x2, x3, rfl, s1, hM⟩
      rw [List.length_map, List.take_length, Nat.sub_self] at hM
      have hM : MarksAt MC H1 mk m (fl ++ []) := hM
      rw [List.append_nil] at hM
      exact ⟨_, rfl, q H1 mk m s1 nmk nm hM⟩
def spTruths (MC : Addr) : Sp := fun vs H Q _ => ∃ (q l : Addr) (fl : List Bool), vs = [.ref q] ∧ MarksAt MC H q l fl ∧ fl.length ≤ 64 ∧ ∀ H' D, Same H H' → H D = none → H' D = some (.lst (fl.map V.bl)) → Q (.ref D) H'
theorem ok_truths {f fLn fGi : Addr} {fd : FuncData} (F : Fun K "_law_truths" "_law_truths" s_law_truths f fd) (O : Own2 P w K mg base MC W fLn fGi) : FnOk P w K mg base CX0 5 f fd ["marks"] (spTruths MC) := by
  refine F.ok sc_law_truths (fun vs H Q E h => ?_) (fun cdv A outer s H vs Q E hr h => ?_)
  · obtain ⟨q, l, fl, rfl, _⟩ := h
    rfl
  · obtain ⟨q, l, fl, rfl, h1, z1, k⟩ := h
    have nd := sc_law_truths.nd
    have hr2 : Room 2 _ := hr.mono (by decide)
    obtain ⟨⟨d1, e1⟩, _⟩ := id h1
    refine ⟨_, pss_one (ps_ret (pe_lc (own := [("at", 1)]) (g := gName 1) (tt := tYes) rfl nd (pi_range1 (by rfl) O.range (pa_cons (pe_callB (Vx.call_lenOwn O.lnA O.lnF O.FL hr2 pass0) (by rfl) O.len PySem.boot_len (pa_cons (pv 0) pa_nil)) pa_nil))
        (blkOk_by (own := [("at", 1)]) (N := ["marks", "at"]) (sc := defScope s_law_truths) (by decide +kernel)) (fun _ _ _ _ _ => pg_name (i := 1) nd rfl (Or.inl rfl)) (fun _ _ _ _ _ => pts_nil)
        (fun _ _ _ _ _ => Vx.pe_getE (E := fun _ => E0) (pv 0) (pv 1) O.gA O.gI O.gF O.FG hr Vx.passO (fun _ _ => rfl)))), ?_⟩
    refine ⟨_, rfl, ⟨q, d1, _, rfl, e1⟩, q, l, fl, rfl, h1, fl.length, rfl, by omega, _, rfl, by omega, by omega, fun D nD => ?_⟩
    refine lc_range (lo := 0) (n := ((fl.length : Nat) : Int).toNat) (fun i H' => Same H H' ∧ H' D = some (.lst ((fl.take i).map V.bl))) ⟨same_upd nD, upd_same⟩ ?_ ?_
    · rintro i H' hi ⟨s1, eD⟩
      rw [Int.toNat_natCast] at hi
      rw [Int.zero_add]
      refine ⟨rfl, _, rfl, _, rfl, ⟨q, d1, _, rfl, s1 _ _ e1⟩, q, l, fl, _, some (i : Int), rfl, h1.same s1, .int _, fun j b ej hb => ?_, fun hb => by rw [btw_in hi] at hb; cases hb⟩
      obtain rfl := get_eq hi ej hb
      refine ⟨_, eD, ?_, fun z o ez => ?_, ?_⟩
      · rw [List.length_map, List.length_take]
        exact Nat.lt_of_le_of_lt (show _ ≤ 64 by omega) (by decide)
      · rw [upd_ne (ne_of_none ez nD)]
        exact s1 _ _ ez
      · rw [upd_same, List.take_add_one, List.getElem?_eq_getElem hi, List.map_append]
        rfl
    · rintro H' ⟨s1, eD⟩
      rw [Int.toNat_natCast, List.take_length] at eD
      exact k H' D s1 nD eD
structure Ops (P : Program) (w : World) (K : PySem.W.Frag) (mg : Str → Option Value) (base : Heap) (MC W fO fA fIO fIA : Addr) : Prop where
  sf : PySem.W.selfFirst K MC = true
  oA : PySem.W.findIn K (.ref MC) "__or__" = some (some (.ref fO))
  oF : PySem.W.isFn K (.ref fO) = true
  FO : FnR P w K mg base (L2.CX P w) 7 fO (spOp MC W or)
  aA : PySem.W.findIn K (.ref MC) "__and__" = some (some (.ref fA))
  aF : PySem.W.isFn K (.ref fA) = true
  FA : FnR P w K mg base (L2.CX P w) 7 fA (spOp MC W and)
  ioA : PySem.W.findIn K (.ref MC) "__ior__" = some (some (.ref fIO))
  ioF : PySem.W.isFn K (.ref fIO) = true
  FIO : FnR P w K mg base (L2.CX P w) 7 fIO (spIop MC W or)
  iaA : PySem.W.findIn K (.ref MC) "__iand__" = some (some (.ref fIA))
  iaF : PySem.W.isFn K (.ref fIA) = true
  FIA : FnR P w K mg base (L2.CX P w) 7 fIA (spIop MC W and)
structure KitW (K : PySem.W.Frag) (mg : Str → Option Value) (W D : Addr) : Prop where
  isi : mg "isinstance" = none
  gW : mg "BadMarks" = some (.ref W)
  gD : mg "PagesError" = some (.ref D)
  ve : mg "ValueError" = none
  kD : PySem.W.kitOne K (.ref W) (.ref D) = some true
  kV : PySem.W.kitOne K (.ref W) (.type "ValueError") = some true
def spRef (MC : Addr) : Sp := fun vs H Q _ => ∃ (q1 l1 q2 l2 : Addr) (fl gl : List Bool) (n : Int), vs = [.ref q1, .ref q2, .int n] ∧ MarksAt MC H q1 l1 fl ∧ MarksAt MC H q2 l2 gl ∧ fl.length ≤ 64 ∧ gl.length ≤ 64 ∧ fl.length ≠ gl.length ∧
  ∀ H' t, Same H H' → H t = none → H' t = some (.lst [.non, .bl true, .bl true]) → Q (.ref t) H'
theorem ok_ref {f D fO fA fIO fIA : Addr} {fd : FuncData} (F : Fun K "_law_refused" "_law_refused" s_law_refused f fd) (O : Ops P w K mg base MC W fO fA fIO fIA) (S : Sui K W "at") (T : KitW K mg W D) : FnOk P w K mg base CX0 8 f fd ["one", "other", "word"] (spRef MC) := by
  refine F.ok sc_law_refused (fun vs H Q E h => ?_) (fun cdv A outer s H vs Q E hr h => ?_)
  · obtain ⟨q1, l1, q2, l2, fl, gl, n, rfl, _⟩ := h
    rfl
  · obtain ⟨q1, l1, q2, l2, fl, gl, n, rfl, h1, h2, z1, z2, hne, k⟩ := h
    have nd := sc_law_refused.nd
    obtain ⟨⟨d1, e1⟩, f1⟩ := id h1
    obtain ⟨⟨d2, e2⟩, f2⟩ := id h2
    refine ⟨_, pss_cons (ps_set (i := 3) nd rfl (Or.inl rfl) pe_non)
      (pss_cons (ps_try_as (i := 4) rfl rfl nd rfl rfl ⟨rfl, by decide, .inl T.gW⟩ takes0
        (fun W pn xe tk _ => pss_one (ps_if (pt_cmpR op_eq (pv 2) pe_int (nomark _)) (pss_one (ps_set (i := 3) nd rfl (Or.inl rfl) (Vx.pe_opE O.sf O.oA O.oF O.FO hr (fun σ => passAt tk σ) (pv 0) (pv 1))))
          (pss_one (ps_if (pt_cmpR op_eq (pv 2) pe_int (nomark _)) (pss_one (ps_set (i := 3) nd rfl (Or.inl rfl) (Vx.pe_opE O.sf O.aA O.aF O.FA hr (fun σ => passAt tk σ) (pv 0) (pv 1))))
          (pss_one (ps_if (pt_cmpR op_eq (pv 2) pe_int (nomark _)) (pss_one (Vx.ps_augE (i := 0) nd rfl (Or.inl rfl) (pv 1) O.sf O.ioA O.ioF O.FIO hr (fun σ => passAt tk σ)))
            (pss_one (Vx.ps_augE (i := 0) nd rfl (Or.inl rfl) (pv 1) O.sf O.iaA O.iaF O.FIA hr (fun σ => passAt tk σ)))))))))
        (fun a oe cls d pn hz hf => pss_one (ps_set (i := 3) nd rfl (Or.inl rfl) (pe_lst (pa_cons (pe_xf S.F S.no hz hf (pv 4))
          (pa_cons (pe_callB (Vx.call_isX S.X hz hf) (by rfl) T.isi (by decide +kernel) (pa_cons (pv 4) (pa_cons (pe_glob (v := .ref D) (by rfl) T.gD rfl) pa_nil)))
          (pa_cons (pe_callB (Vx.call_isX S.X hz hf) (by rfl) T.isi (by decide +kernel) (pa_cons (pv 4) (pa_cons (pe_bltn (v := .ty "ValueError") (by rfl) T.ve (by decide +kernel) rfl) pa_nil))) pa_nil)))))))
      (pss_one (ps_ret (pv 3)))), ?_⟩
    have t1 : ∃ a dx fs, V.ref q1 = .ref a ∧ H a = some (.ins MC dx fs) := ⟨q1, d1, _, rfl, e1⟩
    have t2 : ∃ a dx fs, V.ref q2 = .ref a ∧ H a = some (.ins MC dx fs) := ⟨q2, d2, _, rfl, e2⟩
    refine ⟨_, rfl, rfl, _, rfl, ite2 (fun _ => ?_) (fun _ => ⟨_, rfl, rfl, _, rfl, ite2 (fun _ => ?_) (fun _ => ⟨_, rfl, rfl, _, rfl, ite2 (fun _ => ?_) (fun _ => ?_)⟩)⟩)⟩
    · refine ⟨_, rfl, _, rfl, t1, t2, q1, l1, q2, l2, fl, gl, rfl, h1, h2, z1, z2, fun he => (hne he).elim, fun _ H' dd s' nd' hd' => ?_⟩
      refine ⟨true, S.ex, fun _ a ha => ?_, fun z => nomatch z⟩
      refine ⟨_, rfl, rfl, rfl, dd, _, _, rfl, hd', rfl, ?_⟩
      refine ⟨_, rfl, rfl, dd, _, .ref D, .ref D, true, rfl, hd', rfl, fun u z => z, T.kD, ?_⟩
      refine ⟨_, rfl, rfl, dd, _, .ty "ValueError", .type "ValueError", true, rfl, hd', rfl, fun u z => z, T.kV, ?_⟩
      exact ⟨by show 3 ≤ sizeLine; decide, fun m nm => ⟨_, rfl, k _ m (s'.trans (same_upd nm)) (none_of s' nm) upd_same⟩⟩
    · refine ⟨_, rfl, _, rfl, t1, t2, q1, l1, q2, l2, fl, gl, rfl, h1, h2, z1, z2, fun he => (hne he).elim, fun _ H' dd s' nd' hd' => ?_⟩
      refine ⟨true, S.ex, fun _ a ha => ?_, fun z => nomatch z⟩
      refine ⟨_, rfl, rfl, rfl, dd, _, _, rfl, hd', rfl, ?_⟩
      refine ⟨_, rfl, rfl, dd, _, .ref D, .ref D, true, rfl, hd', rfl, fun u z => z, T.kD, ?_⟩
      refine ⟨_, rfl, rfl, dd, _, .ty "ValueError", .type "ValueError", true, rfl, hd', rfl, fun u z => z, T.kV, ?_⟩
      exact ⟨by show 3 ≤ sizeLine; decide, fun m nm => ⟨_, rfl, k _ m (s'.trans (same_upd nm)) (none_of s' nm) upd_same⟩⟩
    · refine ⟨_, rfl, _, rfl, t1, q1, d1, l1, q2, l2, fl, gl, rfl, e1, f1, h2, z1, z2, fun he => (hne he).elim, fun _ H' dd s' nd' hd' => ?_⟩
      refine ⟨true, S.ex, fun _ a ha => ?_, fun z => nomatch z⟩
      refine ⟨_, rfl, rfl, rfl, dd, _, _, rfl, hd', rfl, ?_⟩
      refine ⟨_, rfl, rfl, dd, _, .ref D, .ref D, true, rfl, hd', rfl, fun u z => z, T.kD, ?_⟩
      refine ⟨_, rfl, rfl, dd, _, .ty "ValueError", .type "ValueError", true, rfl, hd', rfl, fun u z => z, T.kV, ?_⟩
      exact ⟨by show 3 ≤ sizeLine; decide, fun m nm => ⟨_, rfl, k _ m (s'.trans (same_upd nm)) (none_of s' nm) upd_same⟩⟩
    · refine ⟨_, rfl, _, rfl, t1, q1, d1, l1, q2, l2, fl, gl, rfl, e1, f1, h2, z1, z2, fun he => (hne he).elim, fun _ H' dd s' nd' hd' => ?_⟩
      refine ⟨true, S.ex, fun _ a ha => ?_, fun z => nomatch z⟩
      refine ⟨_, rfl, rfl, rfl, dd, _, _, rfl, hd', rfl, ?_⟩
      refine ⟨_, rfl, rfl, dd, _, .ref D, .ref D, true, rfl, hd', rfl, fun u z => z, T.kD, ?_⟩
      refine ⟨_, rfl, rfl, dd, _, .ty "ValueError", .type "ValueError", true, rfl, hd', rfl, fun u z => z, T.kV, ?_⟩
      exact ⟨by show 3 ≤ sizeLine; decide, fun m nm => ⟨_, rfl, k _ m (s'.trans (same_upd nm)) (none_of s' nm) upd_same⟩⟩
end
end Toy
set_option Elab.async false
set_option linter.all false
set_option maxRecDepth 100000
set_option maxHeartbeats 4000000
namespace Toy
open PySem PySem.Spec PyProof.Rows L2
theorem zip_swap : ∀ fl gl : List Bool, jn and gl fl = jn and fl gl
  | [], [] => rfl
  | [], _ :: _ => rfl
  | _ :: _, [] => rfl
  | a :: r, b :: t => by
    show (b && a) :: jn and t r = (a && b) :: jn and r t
    rw [zip_swap r t, Bool.and_comm]
theorem le_and_or : ∀ fl gl : List Bool, leB (jn and fl gl) (jn or fl gl) = true
  | [], _ => rfl
  | _ :: _, [] => rfl
  | a :: r, b :: t => by
    show (((a || b) || !(a && b)) && leB (jn and r t) (jn or r t)) = true
    rw [le_and_or r t]
    cases a <;> cases b <;> rfl
structure IP (MC q1 d1 m1 q2 d2 m2 aa bb jj cc : Addr) (x y fl gl : List Bool) (H : Hp) : Prop where
  a1 : H q1 = some (.ins MC d1 [("_flags", .ref m1)])
  b1 : H m1 = some (.lst (x.map V.bl))
  a2 : H q2 = some (.ins MC d2 [("_flags", .ref m2)])
  b2 : H m2 = some (.lst (y.map V.bl))
  ea : H aa = some (.lst (fl.map V.bl))
  eb : H bb = some (.lst (gl.map V.bl))
  ej : H jj = some (.lst ((jn or fl gl).map V.bl))
  ec : H cc = some (.lst ((jn and fl gl).map V.bl))
  n : q1 ≠ q2
  nm : m1 ≠ m2
  n1 : m1 ≠ aa ∧ m1 ≠ bb ∧ m1 ≠ jj ∧ m1 ≠ cc
  n2 : m2 ≠ aa ∧ m2 ≠ bb ∧ m2 ≠ jj ∧ m2 ≠ cc
section
variable {MC q1 d1 m1 q2 d2 m2 aa bb jj cc : Addr} {x y fl gl : List Bool} {H H' : Hp}
theorem ins_ne {a b : Addr} {C d : Addr} {fs : List (Str × V)} {xs : List V} (h : H a = some (.ins C d fs)) (e : H b = some (.lst xs)) : a ≠ b := ne_of h e (by intro z; cases z)
theorem IP.ma (I : IP MC q1 d1 m1 q2 d2 m2 aa bb jj cc x y fl gl H) : MarksAt MC H q1 m1 x := ⟨⟨d1, I.a1⟩, I.b1⟩
theorem IP.mb (I : IP MC q1 d1 m1 q2 d2 m2 aa bb jj cc x y fl gl H) : MarksAt MC H q2 m2 y := ⟨⟨d2, I.a2⟩, I.b2⟩
theorem IP.same (I : IP MC q1 d1 m1 q2 d2 m2 aa bb jj cc x y fl gl H) (s : Same H H') : IP MC q1 d1 m1 q2 d2 m2 aa bb jj cc x y fl gl H' :=
  { I with a1 := s _ _ I.a1, b1 := s _ _ I.b1, a2 := s _ _ I.a2, b2 := s _ _ I.b2, ea := s _ _ I.ea, eb := s _ _ I.eb, ej := s _ _ I.ej, ec := s _ _ I.ec }
theorem IP.set1 (I : IP MC q1 d1 m1 q2 d2 m2 aa bb jj cc x y fl gl H) (x' : List Bool) : IP MC q1 d1 m1 q2 d2 m2 aa bb jj cc x' y fl gl (upd H m1 (.lst (x'.map V.bl))) :=
  { I with a1 := by rw [upd_ne (ins_ne I.a1 I.b1)]; exact I.a1, b1 := upd_same, a2 := by rw [upd_ne (ins_ne I.a2 I.b1)]; exact I.a2, b2 := by rw [upd_ne I.nm.symm]; exact I.b2, ea := by rw [upd_ne I.n1.1.symm]; exact I.ea, eb := by rw [upd_ne I.n1.2.1.symm]; exact I.eb, ej := by rw [upd_ne I.n1.2.2.1.symm]; exact I.ej, ec := by rw [upd_ne I.n1.2.2.2.symm]; exact I.ec }
theorem IP.set2 (I : IP MC q1 d1 m1 q2 d2 m2 aa bb jj cc x y fl gl H) (y' : List Bool) : IP MC q1 d1 m1 q2 d2 m2 aa bb jj cc x y' fl gl (upd H m2 (.lst (y'.map V.bl))) :=
  { I with a1 := by rw [upd_ne (ins_ne I.a1 I.b2)]; exact I.a1, b2 := upd_same, a2 := by rw [upd_ne (ins_ne I.a2 I.b2)]; exact I.a2, b1 := by rw [upd_ne I.nm]; exact I.b1, ea := by rw [upd_ne I.n2.1.symm]; exact I.ea, eb := by rw [upd_ne I.n2.2.1.symm]; exact I.eb, ej := by rw [upd_ne I.n2.2.2.1.symm]; exact I.ej, ec := by rw [upd_ne I.n2.2.2.2.symm]; exact I.ec }
theorem IP.re1 {m : Addr} {x' : List Bool} (I : IP MC q1 d1 m1 q2 d2 m2 aa bb jj cc x y fl gl H) (s : Same H H') (nm : H m = none) (em : H' m = some (.lst (x'.map V.bl))) : IP MC q1 d1 m q2 d2 m2 aa bb jj cc x' y fl gl (upd H' q1 (.ins MC d1 [("_flags", .ref m)])) := by
  have J := I.same s
  exact { J with a1 := upd_same, b1 := by rw [upd_ne (ins_ne J.a1 em).symm]; exact em, a2 := by rw [upd_ne J.n.symm]; exact J.a2, b2 := by rw [upd_ne (ins_ne J.a1 J.b2).symm]; exact J.b2, ea := by rw [upd_ne (ins_ne J.a1 J.ea).symm]; exact J.ea, eb := by rw [upd_ne (ins_ne J.a1 J.eb).symm]; exact J.eb, ej := by rw [upd_ne (ins_ne J.a1 J.ej).symm]; exact J.ej, ec := by rw [upd_ne (ins_ne J.a1 J.ec).symm]; exact J.ec, nm := (ne_of_none I.b2 nm).symm, n1 := ⟨(ne_of_none I.ea nm).symm, (ne_of_none I.eb nm).symm, (ne_of_none I.ej nm).symm, (ne_of_none I.ec nm).symm⟩ }
theorem IP.re2 {m : Addr} {y' : List Bool} (I : IP MC q1 d1 m1 q2 d2 m2 aa bb jj cc x y fl gl H) (s : Same H H') (nm : H m = none) (em : H' m = some (.lst (y'.map V.bl))) : IP MC q1 d1 m1 q2 d2 m aa bb jj cc x y' fl gl (upd H' q2 (.ins MC d2 [("_flags", .ref m)])) := by
  have J := I.same s
  exact { J with a2 := upd_same, b2 := by rw [upd_ne (ins_ne J.a2 em).symm]; exact em, a1 := by rw [upd_ne J.n]; exact J.a1, b1 := by rw [upd_ne (ins_ne J.a2 J.b1).symm]; exact J.b1, ea := by rw [upd_ne (ins_ne J.a2 J.ea).symm]; exact J.ea, eb := by rw [upd_ne (ins_ne J.a2 J.eb).symm]; exact J.eb, ej := by rw [upd_ne (ins_ne J.a2 J.ej).symm]; exact J.ej, ec := by rw [upd_ne (ins_ne J.a2 J.ec).symm]; exact J.ec, nm := ne_of_none I.b1 nm, n2 := ⟨(ne_of_none I.ea nm).symm, (ne_of_none I.eb nm).symm, (ne_of_none I.ej nm).symm, (ne_of_none I.ec nm).symm⟩ }
end
section
variable {P : Program} {w : World} {K : PySem.W.Frag} {mg : Str → Option Value} {base : Heap} {MC MD W : Addr}
def spInPlace (MC : Addr) : Sp := fun vs H Q _ => ∃ (q1 d1 m1 q2 d2 m2 aa bb jj cc : Addr) (fl gl : List Bool), vs = [.ref q1, .ref q2, .ref aa, .ref bb, .ref jj, .ref cc] ∧ IP MC q1 d1 m1 q2 d2 m2 aa bb jj cc fl gl fl gl H ∧ fl.length = gl.length ∧ 1 ≤ fl.length ∧ fl.length ≤ 64 ∧ ∀ H', Q (.bl true) H'
structure LawT (P : Program) (w : World) (K : PySem.W.Frag) (mg : Str → Option Value) (base : Heap) (MC fT fM fLe : Addr) (fdT fdM : FuncData) : Prop where
  tru : Cal P w K mg base CX0 5 fT fdT "_law_truths" ["marks"] (spTruths MC)
  mks : Cal P w K mg base CX0 5 fM fdM "_law_marks" ["truths"] (spMarks MC)
  leA : PySem.W.findIn K (.ref MC) "__le__" = some (some (.ref fLe))
  leF : PySem.W.isFn K (.ref fLe) = true
  FLe : FnR P w K mg base CX0 6 fLe (spLe MC)
  nfM : PySem.W.notFirst K MC (.ref MC) = true
  C : MkC K MC
theorem ok_in_place {f fI fS fT fM fLe fO fA fIO fIA : Addr} {fd fdI fdT fdM : FuncData} (F : Fun K "_law_in_place" "_law_in_place" s_law_in_place f fd) (O : Ops P w K mg base MC W fO fA fIO fIA) (M : MkF P w K mg base MC MD W fI fS fdI) (L : LawT P w K mg base MC fT fM fLe fdT fdM) : FnOk P w K mg base CX0 8 f fd ["one", "other", "a", "b", "joined", "cut"] (spInPlace MC) := by
  refine F.ok sc_law_in_place (fun vs H Q E h => ?_) (fun cdv A outer s H vs Q E hr h => ?_)
  · obtain ⟨q1, d1, m1, q2, d2, m2, aa, bb, jj, cc, fl, gl, rfl, _⟩ := h
    rfl
  · obtain ⟨q1, d1, m1, q2, d2, m2, aa, bb, jj, cc, fl, gl, rfl, I, he, z0, z1, k⟩ := h
    have nd := sc_law_in_place.nd
    have hr3 : Room 3 _ := hr.mono (by decide)
    have hr5 : Room 5 _ := hr.mono (by decide)
    have hr6 : Room 6 _ := hr.mono (by decide)
    refine ⟨_, pss_cons (ps_set (i := 6) nd rfl (Or.inl rfl) (pv 0))
      (pss_cons (Vx.ps_augE (E := fun _ => E0) (i := 0) nd rfl (Or.inl rfl) (pv 1) O.sf O.ioA O.ioF O.FIO hr Vx.passO)
      (pss_cons (ps_if (PW.pt (pw_or (pt_cmpR (op_neD hr.units) (pe_call L.tru.G hr5 (by rfl) L.tru.g L.tru.k L.tru.b .nil pass0 (pa_cons (pv 0) pa_nil)) (pv 4) (nomark _)) (pw_or (pt_cmpR (op_neD hr.units) (pe_call L.tru.G hr5 (by rfl) L.tru.g L.tru.k L.tru.b .nil pass0 (pa_cons (pv 6) pa_nil)) (pv 4) (nomark _))
          (pw_or1 (pt_cmpR (op_neD hr.units) (pe_call L.tru.G hr5 (by rfl) L.tru.g L.tru.k L.tru.b .nil pass0 (pa_cons (pv 1) pa_nil)) (pv 3) (nomark _)))))) (pss_one ps_never) pss_nil)
      (pss_cons (ps_asg (pe_not (pe_ix ix_list (pv 4) pe_int (fun _ _ => rfl))) (pg_sub (pv 0) pe_int (Vx.set_own (E := E0) M.nq M.sA M.sF M.FS hr3 passL)))
      (pss_cons (ps_if (pt_cmpR (op_neD hr.units) (pe_call L.tru.G hr5 (by rfl) L.tru.g L.tru.k L.tru.b .nil pass0 (pa_cons (pv 1) pa_nil)) (pv 3) (nomark _)) (pss_one ps_never) pss_nil)
      (pss_cons (ps_asg (pe_ix ix_list (pv 4) pe_int (fun _ _ => rfl)) (pg_sub (pv 0) pe_int (Vx.set_own (E := E0) M.nq M.sA M.sF M.FS hr3 passL)))
      (pss_cons (ps_set (i := 7) nd rfl (Or.inl rfl) (pv 1))
      (pss_cons (ps_set (i := 8) nd rfl (Or.inl rfl) (pe_call L.mks.G hr5 (by rfl) L.mks.g L.mks.k L.mks.b .nil pass0 (pa_cons (pv 2) pa_nil)))
      (pss_cons (Vx.ps_augE (E := fun _ => E0) (i := 1) nd rfl (Or.inl rfl) (pv 8) O.sf O.iaA O.iaF O.FIA hr Vx.passO)
      (pss_cons (ps_asg (pe_not (pe_ix ix_list (pv 5) pe_int (fun _ _ => rfl))) (pg_sub (pv 1) pe_int (Vx.set_own (E := E0) M.nq M.sA M.sF M.FS hr3 passL)))
      (pss_cons (ps_if (pt_cmpR (op_neD hr.units) (pe_call L.tru.G hr5 (by rfl) L.tru.g L.tru.k L.tru.b .nil pass0 (pa_cons (pv 8) pa_nil)) (pv 2) (nomark _)) (pss_one ps_never) pss_nil)
      (pss_cons (ps_asg (pe_ix ix_list (pv 5) pe_int (fun _ _ => rfl)) (pg_sub (pv 1) pe_int (Vx.set_own (E := E0) M.nq M.sA M.sF M.FS hr3 passL)))
      (pss_one (ps_ret (pe_and (pe_cmpR (op_eqD hr.units) (pe_call L.tru.G hr5 (by rfl) L.tru.g L.tru.k L.tru.b .nil pass0 (pa_cons (pv 1) pa_nil)) (pv 5) (nomark _))
        (pe_and (pe_cmpR (op_eqD hr.units) (pe_call L.tru.G hr5 (by rfl) L.tru.g L.tru.k L.tru.b .nil pass0 (pa_cons (pv 7) pa_nil)) (pv 5) (nomark _))
        (pe_and (pe_cmpR (op_eqD hr.units) (pe_call L.tru.G hr5 (by rfl) L.tru.g L.tru.k L.tru.b .nil pass0 (pa_cons (pv 6) pa_nil)) (pv 4) (nomark _))
        (pe_one (pe_cmpR (Vx.op_cmpAny (op := .LtE) (fun _ _ => rfl) L.leA L.leF L.FLe hr6 pass0) (pv 7) (pv 6) (nomark _))))))))))))))))))), ?_⟩
    have zj : (jn or fl gl).length = fl.length := jn_len he
    have zc : (jn and fl gl).length = fl.length := jn_len he
    refine ⟨_, rfl, _, rfl, _, rfl, ⟨q1, d1, _, rfl, I.a1⟩, q1, d1, m1, q2, m2, fl, gl, rfl, I.a1, I.b1, I.mb, z1, by omega, fun _ H1 m s1 nm em => ?_, fun hn => (hn he).elim⟩
    have I1 := I.re1 s1 nm em
    clear I s1 nm em
    generalize upd H1 q1 (HO.ins MC d1 [(Str.ofString "_flags", V.ref m)]) = H2 at I1
    have hj : ∃ b, ((jn or fl gl).map V.bl)[0]? = some (V.bl b) ∧ (jn or fl gl)[0]? = some b := by
      have h0 : 0 < (jn or fl gl).length := by omega
      exact ⟨(jn or fl gl)[0], by rw [List.getElem?_map, List.getElem?_eq_getElem h0]; rfl, List.getElem?_eq_getElem h0⟩
    have hc : ∃ b, ((jn and fl gl).map V.bl)[0]? = some (V.bl b) ∧ (jn and fl gl)[0]? = some b := by
      have h0 : 0 < (jn and fl gl).length := by omega
      exact ⟨(jn and fl gl)[0], by rw [List.getElem?_map, List.getElem?_eq_getElem h0]; rfl, List.getElem?_eq_getElem h0⟩
    obtain ⟨jb, hj1, hj2⟩ := hj
    obtain ⟨cb, hc1, hc2⟩ := hc
    have back : ∀ (l : List Bool) (b c : Bool), l[0]? = some b → (l.set 0 c).set 0 b = l := fun l b c h => by
      cases l with
      | nil => cases h
      | cons a r => cases h; rfl
    refine ⟨_, rfl, q1, m, _, rfl, I1.ma, by omega, fun H3 D s3 nD eD => ?_⟩
    have I3 := I1.same s3
    refine ⟨_, rfl, _, _, dp_bl eD, dp_bl I3.ej, bD_shp _, bD_shp _, false, by rw [bD_eqv, decide_eq_true rfl]; rfl, iteF ?_⟩
    refine ⟨_, rfl, q1, m, _, rfl, I3.ma, by omega, fun H4 D4 s4 nD4 eD4 => ?_⟩
    have I4 := I3.same s4
    refine ⟨_, rfl, _, _, dp_bl eD4, dp_bl I4.ej, bD_shp _, bD_shp _, false, by rw [bD_eqv, decide_eq_true rfl]; rfl, iteF ?_⟩
    refine ⟨_, rfl, q2, m2, _, rfl, I4.mb, by omega, fun H5 D5 s5 nD5 eD5 => ?_⟩
    have I5 := I4.same s5
    refine ⟨_, rfl, _, _, dp_bl eD5, dp_bl I5.eb, bD_shp _, bD_shp _, false, by rw [bD_eqv, decide_eq_true rfl]; rfl, iteF ?_⟩
    clear I1 I3 I4 s3 nD eD s4 nD4 eD4 s5 nD5 eD5
    -- one[0] = not joined[0]
    refine ⟨_, rfl, jj, _, _, _, rfl, rfl, SqL.of I5.ej, atI_nat hj1, jb, rfl, _, rfl, ⟨q1, d1, _, rfl, I5.a1⟩, q1, m, _, _, _, some ((0 : Nat) : Int), rfl, I5.ma, .int _, .inl ⟨_, rfl⟩, fun j b ej hj eb => ?_, fun hb => (by rw [btw_in (by omega)] at hb; cases hb), fun j ej hj ne => (ne _ rfl).elim⟩
    obtain rfl : j = 0 := by have := Option.some.inj ej; omega
    obtain rfl : b = !jb := by injection eb with eb; exact eb.symm
    have I6 := I5.set1 ((jn or fl gl).set 0 !jb)
    generalize upd H5 m (HO.lst (((jn or fl gl).set 0 !jb).map V.bl)) = H6 at I6
    clear I5
    refine ⟨_, rfl, q2, m2, _, rfl, I6.mb, by omega, fun H7 D7 s7 nD7 eD7 => ?_⟩
    have I7 := I6.same s7
    refine ⟨_, rfl, _, _, dp_bl eD7, dp_bl I7.eb, bD_shp _, bD_shp _, false, by rw [bD_eqv, decide_eq_true rfl]; rfl, iteF ?_⟩
    clear I6 s7 nD7 eD7
    -- one[0] = joined[0]
    refine ⟨_, rfl, jj, _, _, _, rfl, rfl, SqL.of I7.ej, atI_nat hj1, _, rfl, ⟨q1, d1, _, rfl, I7.a1⟩, q1, m, _, _, _, some ((0 : Nat) : Int), rfl, I7.ma, .int _, .inl ⟨_, rfl⟩, fun j b ej hj eb => ?_, fun hb => (by rw [btw_in (by rw [List.length_set]; omega)] at hb; cases hb), fun j ej hj ne => (ne _ rfl).elim⟩
    obtain rfl : j = 0 := by have := Option.some.inj ej; omega
    obtain rfl : b = jb := by injection eb with eb; exact eb.symm
    rw [back _ _ _ hj2]
    have I8 := I7.set1 (jn or fl gl)
    generalize upd H7 m (HO.lst ((jn or fl gl).map V.bl)) = H8 at I8
    clear I7
    -- mate, given
    refine ⟨_, rfl, _, rfl, aa, fl, rfl, I8.ea, z0, z1, fun H9 q3 m3 s9 nq3 nm3 M3 => ?_⟩
    have I9 := I8.same s9
    have n13 : m ≠ m3 := ne_of_none I8.b1 nm3
    have n23 : q3 ≠ q2 := (ne_of_none I8.a2 nq3).symm
    refine ⟨_, rfl, _, rfl, ⟨q2, d2, _, rfl, I9.a2⟩, q2, d2, m2, q3, m3, gl, fl, rfl, I9.a2, I9.b2, M3, by omega, z1, fun _ HA m4 sA nm4 em4 => ?_, fun hn => (hn he.symm).elim⟩
    rw [zip_swap] at em4
    have IA := I9.re2 sA nm4 em4
    have MA : MarksAt MC (upd HA q2 (.ins MC d2 [("_flags", .ref m4)])) q3 m3 fl := by
      obtain ⟨⟨d3, e3⟩, f3⟩ := M3
      have := sA _ _ f3
      exact ⟨⟨d3, by rw [upd_ne n23]; exact sA _ _ e3⟩, by rw [upd_ne (ins_ne (sA _ _ I9.a2) this).symm]; exact this⟩
    have n34 : m3 ≠ m4 := ne_of_none M3.2 nm4
    generalize upd HA q2 (HO.ins MC d2 [(Str.ofString "_flags", V.ref m4)]) = HB at IA MA
    clear I8 I9 s9 sA nm4 em4 M3 nm3 nq3
    -- other[0] = not cut[0]
    refine ⟨_, rfl, cc, _, _, _, rfl, rfl, SqL.of IA.ec, atI_nat hc1, cb, rfl, _, rfl, ⟨q2, d2, _, rfl, IA.a2⟩, q2, m4, _, _, _, some ((0 : Nat) : Int), rfl, IA.mb, .int _, .inl ⟨_, rfl⟩, fun j b ej hj eb => ?_, fun hb => (by rw [btw_in (by omega)] at hb; cases hb), fun j ej hj ne => (ne _ rfl).elim⟩
    obtain rfl : j = 0 := by have := Option.some.inj ej; omega
    obtain rfl : b = !cb := by injection eb with eb; exact eb.symm
    have IC := IA.set2 ((jn and fl gl).set 0 !cb)
    have MC' := MA.off (zs := ((jn and fl gl).set 0 !cb).map V.bl) IA.b2 n34
    generalize upd HB m4 (HO.lst (((jn and fl gl).set 0 !cb).map V.bl)) = HC at IC MC'
    clear IA MA
    refine ⟨_, rfl, q3, m3, _, rfl, MC', z1, fun HD DD sD nDD eDD => ?_⟩
    have ID := IC.same sD
    refine ⟨_, rfl, _, _, dp_bl eDD, dp_bl ID.ea, bD_shp _, bD_shp _, false, by rw [bD_eqv, decide_eq_true rfl]; rfl, iteF ?_⟩
    clear IC MC' sD nDD eDD
    -- other[0] = cut[0]
    refine ⟨_, rfl, cc, _, _, _, rfl, rfl, SqL.of ID.ec, atI_nat hc1, _, rfl, ⟨q2, d2, _, rfl, ID.a2⟩, q2, m4, _, _, _, some ((0 : Nat) : Int), rfl, ID.mb, .int _, .inl ⟨_, rfl⟩, fun j b ej hj eb => ?_, fun hb => (by rw [btw_in (by rw [List.length_set]; omega)] at hb; cases hb), fun j ej hj ne => (ne _ rfl).elim⟩
    obtain rfl : j = 0 := by have := Option.some.inj ej; omega
    obtain rfl : b = cb := by injection eb with eb; exact eb.symm
    rw [back _ _ _ hc2]
    have IE := ID.set2 (jn and fl gl)
    generalize upd HD m4 (HO.lst ((jn and fl gl).map V.bl)) = HE at IE
    clear ID
    refine ⟨_, rfl, q2, m4, _, rfl, IE.mb, by omega, fun HF DF sF nDF eDF => ?_⟩
    have IF := IE.same sF
    refine ⟨_, rfl, _, _, dp_bl eDF, dp_bl IF.ec, bD_shp _, bD_shp _, true, by rw [bD_eqv, decide_eq_true rfl], iteT ?_⟩
    refine ⟨_, rfl, q2, m4, _, rfl, IF.mb, by omega, fun HG DG sG nDG eDG => ?_⟩
    have IG := IF.same sG
    refine ⟨_, rfl, _, _, dp_bl eDG, dp_bl IG.ec, bD_shp _, bD_shp _, true, by rw [bD_eqv, decide_eq_true rfl], iteT ?_⟩
    refine ⟨_, rfl, q1, m, _, rfl, IG.ma, by omega, fun HI DI sI nDI eDI => ?_⟩
    have II := IG.same sI
    refine ⟨_, rfl, _, _, dp_bl eDI, dp_bl II.ej, bD_shp _, bD_shp _, true, by rw [bD_eqv, decide_eq_true rfl], iteT ?_⟩
    refine ⟨_, rfl, _, rfl, ⟨q2, d2, _, rfl, II.a2⟩, ⟨_, .base (.ins II.a1 L.C.cl L.C.cC L.C.cG L.C.cT L.C.cM), L.nfM⟩, q2, m4, q1, m, _, _, rfl, II.mb, II.ma, by omega, by omega, fun HJ sJ => ?_⟩
    rw [zc, zj, decide_eq_true rfl, le_and_or]
    exact k HJ
end
end Toy
set_option Elab.async false
set_option linter.all false
set_option maxRecDepth 100000
set_option maxHeartbeats 4000000
namespace Toy
open PySem PySem.Spec PyProof.Rows L2
theorem cut_from {xs : List V} {i : Nat} : cutV xs (some (i : Int)) none = xs.drop i := by
  unfold cutV
  rw [HT.sIx_none, HT.sIx_nat]
  by_cases h : i ≤ xs.length
  · rw [Nat.min_eq_left h]
    exact List.take_of_length_le (by rw [List.length_drop]; exact Nat.le_refl _)
  · rw [Nat.min_eq_right (by omega), List.drop_of_length_le (Nat.le_refl _), List.drop_of_length_le (by omega), List.take_nil]
theorem comp_or {K : PySem.W.Frag} {H : Hp} {R : VK} {la lb : Addr} {fl gl : List Bool} {n : Nat} {v0 v1 v5 v6 v7 v8 v9 v10 v11 v12 v13 : Option V} (ha : H la = some (.lst (fl.map V.bl))) (hb : H lb = some (.lst (gl.map V.bl))) (hfl : fl.length = n) (hgl : gl.length = n) (hn : n ≤ 64) (q : ∀ H' D, Same H H' → H D = none → H' D = some (.lst ((jn or fl gl).map V.bl)) → R (.ref D) H') :
    tLc (iRng1 (tCons (tVar 2) tNil)) (gName 13) tYes (tOrV (tOp (rIxL K) (tVar 3) (tVar 13)) (tOp (rIxL K) (tVar 4) (tVar 13))) (List.map (fun x => x.snd) [(Str.ofString "k", 13)]) [v0, v1, some (.int (n : Nat)), some (.ref la), some (.ref lb), v5, v6, v7, v8, v9, v10, v11, v12, v13] H R := by
  refine ⟨_, rfl, _, rfl, by omega, by omega, fun D nD => ?_⟩
  refine lc_range (lo := 0) (n := ((n : Nat) : Int).toNat) (fun i H' => Same H H' ∧ H' D = some (.lst ((jn or (fl.take i) (gl.take i)).map V.bl))) ⟨same_upd nD, upd_same⟩ ?_ ?_
  · rintro i H' hi ⟨s1, e1⟩
    rw [Int.toNat_natCast] at hi
    have hi1 : i < fl.length := by omega
    have hi2 : i < gl.length := by omega
    have tk : jn or (fl.take (i + 1)) (gl.take (i + 1)) = jn or (fl.take i) (gl.take i) ++ [or fl[i] gl[i]] := by
      unfold jn
      rw [List.take_add_one, List.take_add_one, List.getElem?_eq_getElem hi1, List.getElem?_eq_getElem hi2, Option.toList_some, Option.toList_some, List.zip_append (by rw [List.length_take, List.length_take]; omega), List.map_append]
      rfl
    have zl : (jn or (fl.take i) (gl.take i)).length < sizeLine := by
      rw [jn_len (by rw [List.length_take, List.length_take]; omega), List.length_take]
      exact Nat.lt_of_le_of_lt (show _ ≤ 64 by omega) (by decide)
    have g1 : (fl.map V.bl)[i]? = some (V.bl fl[i]) := by rw [List.getElem?_map, List.getElem?_eq_getElem hi1]; rfl
    have g2 : (gl.map V.bl)[i]? = some (V.bl gl[i]) := by rw [List.getElem?_map, List.getElem?_eq_getElem hi2]; rfl
    refine ⟨rfl, _, rfl, _, rfl, la, _, _, _, rfl, rfl, SqL.of (s1 _ _ ha), (by rw [Int.zero_add]; exact atI_nat g1), fl[i], rfl, ?_⟩
    rw [tk]
    generalize fl[i] = a at *
    -- tOp (rIxL K) (tVar 4) (tVar 13) [v0, v1, some (.int (n : Nat)), some (.ref la), some (.ref lb), v5, v6, v7, v8, v9, v10, v11, v12, some (.int (0 + (i : Int)))] H' = fun R' => tOp (rIxL K) (tVar 4) (tVar 13) [v0, v1, some (.int (n : Nat)), some (.ref la), some (.ref lb), v5, v6, v7, v8, v9, v10, v11, v12, some (.int (0 + (i : Int)))] H' R' := rfl
    have fin : ∀ c : Bool, c = or a gl[i] → ∃ acc, H' D = some (.lst acc) ∧ acc.length < sizeLine ∧ Same H (upd H' D (.lst (acc ++ [V.bl c]))) ∧ (upd H' D (.lst (acc ++ [V.bl c]))) D = some (.lst ((jn or (fl.take i) (gl.take i) ++ [or a gl[i]]).map V.bl)) := fun c hc => ⟨_, e1, by rw [List.length_map]; exact zl, fun z o ez => by rw [upd_ne (ne_of_none ez nD)]; exact s1 _ _ ez, by rw [upd_same, List.map_append, hc]; rfl⟩
    cases a with
    | true => exact iteT (fin true rfl)
    | false => exact iteF ⟨_, rfl, _, rfl, lb, _, _, _, rfl, rfl, SqL.of (s1 _ _ hb), (by rw [Int.zero_add]; exact atI_nat g2), fin gl[i] rfl⟩
  · rintro H' ⟨s1, e1⟩
    rw [Int.toNat_natCast, List.take_of_length_le (by omega), List.take_of_length_le (by omega)] at e1
    exact q H' D s1 nD e1
theorem comp_and {K : PySem.W.Frag} {H : Hp} {R : VK} {la lb : Addr} {fl gl : List Bool} {n : Nat} {v0 v1 v5 v6 v7 v8 v9 v10 v11 v12 v13 : Option V} (ha : H la = some (.lst (fl.map V.bl))) (hb : H lb = some (.lst (gl.map V.bl))) (hfl : fl.length = n) (hgl : gl.length = n) (hn : n ≤ 64) (q : ∀ H' D, Same H H' → H D = none → H' D = some (.lst ((jn and fl gl).map V.bl)) → R (.ref D) H') :
    tLc (iRng1 (tCons (tVar 2) tNil)) (gName 13) tYes (tAndV (tOp (rIxL K) (tVar 3) (tVar 13)) (tOp (rIxL K) (tVar 4) (tVar 13))) (List.map (fun x => x.snd) [(Str.ofString "k", 13)]) [v0, v1, some (.int (n : Nat)), some (.ref la), some (.ref lb), v5, v6, v7, v8, v9, v10, v11, v12, v13] H R := by
  refine ⟨_, rfl, _, rfl, by omega, by omega, fun D nD => ?_⟩
  refine lc_range (lo := 0) (n := ((n : Nat) : Int).toNat) (fun i H' => Same H H' ∧ H' D = some (.lst ((jn and (fl.take i) (gl.take i)).map V.bl))) ⟨same_upd nD, upd_same⟩ ?_ ?_
  · rintro i H' hi ⟨s1, e1⟩
    rw [Int.toNat_natCast] at hi
    have hi1 : i < fl.length := by omega
    have hi2 : i < gl.length := by omega
    have tk : jn and (fl.take (i + 1)) (gl.take (i + 1)) = jn and (fl.take i) (gl.take i) ++ [and fl[i] gl[i]] := by
      unfold jn
      rw [List.take_add_one, List.take_add_one, List.getElem?_eq_getElem hi1, List.getElem?_eq_getElem hi2, Option.toList_some, Option.toList_some, List.zip_append (by rw [List.length_take, List.length_take]; omega), List.map_append]
      rfl
    have zl : (jn and (fl.take i) (gl.take i)).length < sizeLine := by
      rw [jn_len (by rw [List.length_take, List.length_take]; omega), List.length_take]
      exact Nat.lt_of_le_of_lt (show _ ≤ 64 by omega) (by decide)
    have g1 : (fl.map V.bl)[i]? = some (V.bl fl[i]) := by rw [List.getElem?_map, List.getElem?_eq_getElem hi1]; rfl
    have g2 : (gl.map V.bl)[i]? = some (V.bl gl[i]) := by rw [List.getElem?_map, List.getElem?_eq_getElem hi2]; rfl
    refine ⟨rfl, _, rfl, _, rfl, la, _, _, _, rfl, rfl, SqL.of (s1 _ _ ha), (by rw [Int.zero_add]; exact atI_nat g1), fl[i], rfl, ?_⟩
    rw [tk]
    generalize fl[i] = a at *
    -- tOp (rIxL K) (tVar 4) (tVar 13) [v0, v1, some (.int (n : Nat)), some (.ref la), some (.ref lb), v5, v6, v7, v8, v9, v10, v11, v12, some (.int (0 + (i : Int)))] H' = fun R' => tOp (rIxL K) (tVar 4) (tVar 13) [v0, v1, some (.int (n : Nat)), some (.ref la), some (.ref lb), v5, v6, v7, v8, v9, v10, v11, v12, some (.int (0 + (i : Int)))] H' R' := rfl
    have fin : ∀ c : Bool, c = and a gl[i] → ∃ acc, H' D = some (.lst acc) ∧ acc.length < sizeLine ∧ Same H (upd H' D (.lst (acc ++ [V.bl c]))) ∧ (upd H' D (.lst (acc ++ [V.bl c]))) D = some (.lst ((jn and (fl.take i) (gl.take i) ++ [and a gl[i]]).map V.bl)) := fun c hc => ⟨_, e1, by rw [List.length_map]; exact zl, fun z o ez => by rw [upd_ne (ne_of_none ez nD)]; exact s1 _ _ ez, by rw [upd_same, List.map_append, hc]; rfl⟩
    cases a with
    | true => exact iteT ⟨_, rfl, _, rfl, lb, _, _, _, rfl, rfl, SqL.of (s1 _ _ hb), (by rw [Int.zero_add]; exact atI_nat g2), fin gl[i] rfl⟩
    | false => exact iteF (fin false rfl)
  · rintro H' ⟨s1, e1⟩
    rw [Int.toNat_natCast, List.take_of_length_le (by omega), List.take_of_length_le (by omega)] at e1
    exact q H' D s1 nD e1
theorem comp_draw {H : Hp} {R : VK} {p c : Addr} {n : Nat} {v0 v3 v4 v5 v6 v7 v8 v9 v10 v11 v12 v13 : Option V} (hP : Pot H p c) (hn : n ≤ 64) (q : ∀ H' D (bs : List Bool), Pot H' p c → Kept p c H H' → H D = none → D ≠ p → D ≠ c → bs.length = n → H' D = some (.lst (bs.map V.bl)) → R (.ref D) H') :
    tLc (iRng1 (tCons (tVar 2) tNil)) (gName 13) tYes (tOp rEq (tCall spDraw [] E0 (tCons (tVar 1) (tCons (tC (V.int 2)) tNil))) (tC (V.int 1))) (List.map (fun x => x.snd) [(Str.ofString "k", 13)]) [v0, some (.ref p), some (.int (n : Nat)), v3, v4, v5, v6, v7, v8, v9, v10, v11, v12, v13] H R := by
  refine ⟨_, rfl, _, rfl, by omega, by omega, fun D nD => ?_⟩
  have oD := off hP nD
  refine lc_range (lo := 0) (n := ((n : Nat) : Int).toNat) (fun i H' => ∃ bs : List Bool, bs.length = i ∧ Pot H' p c ∧ Kept p c H H' ∧ H' D = some (.lst (bs.map V.bl))) ⟨[], rfl, hP.same (same_upd nD), Kept.of_same (same_upd nD), upd_same⟩ ?_ ?_
  · rintro i H' hi ⟨bs, zb, P1, K1, e1⟩
    rw [Int.toNat_natCast] at hi
    refine ⟨rfl, _, rfl, p, c, 2, rfl, P1, by decide, by decide, fun H2 d P2 K2 d0 d1 => ⟨rfl, ?_⟩⟩
    have e2 := K2 _ _ oD.1 oD.2 e1
    refine ⟨_, e2, ?_, bs ++ [decide (V.int d = V.int 1)], by rw [List.length_append, zb]; rfl, P2.put' oD.1 oD.2, fun z o h1 h2 ez => ?_, by rw [upd_same, List.map_append]; rfl⟩
    · rw [List.length_map, zb]
      exact Nat.lt_of_lt_of_le hi (Nat.le_trans hn (by decide))
    · rw [upd_ne (ne_of_none ez nD)]
      exact K2 _ _ h1 h2 (K1 _ _ h1 h2 ez)
  · rintro H' ⟨bs, zb, P1, K1, e1⟩
    rw [Int.toNat_natCast] at zb
    exact q H' D bs P1 K1 nD oD.1 oD.2 zb e1
def nb (a b : Bool) : Bool := a && !b
theorem inside_eq : ∀ (fl gl : List Bool) (s : Nat), decide (pgs s (jn nb fl gl) = []) = leB fl gl
  | [], _, _ => rfl
  | _ :: _, [], _ => rfl
  | a :: r, b :: t, s => by
    have ih := inside_eq r t (s + 1)
    show decide ((if nb a b then [s] else []) ++ pgs (s + 1) (jn nb r t) = []) = ((b || !a) && leB r t)
    rw [← ih]
    cases a <;> cases b <;> simp [nb]
theorem jn_take {op : Bool → Bool → Bool} {fl gl : List Bool} {i : Nat} (h1 : i < fl.length) (h2 : i < gl.length) : jn op (fl.take (i + 1)) (gl.take (i + 1)) = jn op (fl.take i) (gl.take i) ++ [op fl[i] gl[i]] := by
  unfold jn
  rw [List.take_add_one, List.take_add_one, List.getElem?_eq_getElem h1, List.getElem?_eq_getElem h2, Option.toList_some, Option.toList_some, List.zip_append (by rw [List.length_take, List.length_take]; omega), List.map_append]
  rfl
theorem le_self_or : ∀ fl gl : List Bool, leB fl (jn or fl gl) = true
  | [], _ => rfl
  | _ :: _, [] => rfl
  | a :: r, b :: t => by
    show (((a || b) || !a) && leB r (jn or r t)) = true
    rw [le_self_or r t]
    cases a <;> cases b <;> rfl
theorem le_and_self : ∀ fl gl : List Bool, leB (jn and fl gl) fl = true
  | [], _ => rfl
  | _ :: _, [] => rfl
  | a :: r, b :: t => by
    show ((a || !(a && b)) && leB (jn and r t) r) = true
    rw [le_and_self r t]
    cases a <;> cases b <;> rfl
end Toy
set_option Elab.async false
set_option linter.all false
set_option maxRecDepth 100000
set_option maxHeartbeats 4000000
namespace Toy
open PySem PySem.Spec PyProof.Rows L2
section
variable {P : Program} {w : World} {K : PySem.W.Frag} {mg : Str → Option Value} {base : Heap} {MC MD W : Addr}
def spLaw (K : PySem.W.Frag) : Sp := fun vs H Q _ => ∃ (a : Addr) (ns : List Int), vs = [.ref a] ∧ SqL K H a (ns.map V.int) ∧ ns.length ≤ 63 ∧ ∀ H', Q (.bl true) H'
structure Calls (P : Program) (w : World) (K : PySem.W.Frag) (mg : Str → Option Value) (base : Heap) (MC MD W fP fD fRe fIn fI fS fT fM fLe fO fA fIO fIA fEq : Addr) (fdP fdD fdRe fdIn fdI fdT fdM : FuncData) : Prop where
  pot : Cal P w K mg base CX0 1 fP fdP "_law_pot" ["script"] (spPot K)
  draw : Cal P w K mg base CX0 1 fD fdD "_law_draw" ["pot", "many"] spDraw
  refd : Cal P w K mg base CX0 8 fRe fdRe "_law_refused" ["one", "other", "word"] (spRef MC)
  inpl : Cal P w K mg base CX0 8 fIn fdIn "_law_in_place" ["one", "other", "a", "b", "joined", "cut"] (spInPlace MC)
  M : MkF P w K mg base MC MD W fI fS fdI
  L : LawT P w K mg base MC fT fM fLe fdT fdM
  O : Ops P w K mg base MC W fO fA fIO fIA
  eqA : PySem.W.findIn K (.ref MC) "__eq__" = some (some (.ref fEq))
  eqF : PySem.W.isFn K (.ref fEq) = true
  FE : FnR P w K mg base CX0 1 fEq (spMkEq K MC)
  ne : PySem.W.findIn K (.ref MC) "__ne__" = some (some (.builtin "object.__ne__"))
  range : mg "range" = none
  len : mg "len" = none
abbrev nL : List Str := ["script", "pot", "many", "a", "b", "one", "other", "inside", "word", "joined", "cut", "both", "common", "k"]
theorem ok_law {f fP fD fRe fIn fI fS fT fM fLe fO fA fIO fIA fEq : Addr} {fd fdP fdD fdRe fdIn fdI fdT fdM : FuncData} (F : Fun K "law" "law" s_law f fd) (Z : Calls P w K mg base MC MD W fP fD fRe fIn fI fS fT fM fLe fO fA fIO fIA fEq fdP fdD fdRe fdIn fdI fdT fdM) : FnOk P w K mg base CX0 9 f fd ["script"] (spLaw K) := by
  refine F.ok sc_law (fun vs H Q E h => ?_) (fun cdv A outer s H vs Q E hr h => ?_)
  · obtain ⟨a, ns, rfl, _⟩ := h
    rfl
  · obtain ⟨a, ns, rfl, hS, hlen, q⟩ := h
    have hr1 : Room 1 _ := hr.mono (by decide)
    have hr2 : Room 2 _ := hr.mono (by decide)
    have hr3 : Room 3 _ := hr.mono (by decide)
    have hr5 : Room 5 _ := hr.mono (by decide)
    have hr6 : Room 6 _ := hr.mono (by decide)
    have hr7 : Room 7 _ := hr.mono (by decide)
    have nd := sc_law.nd
    refine ⟨_, pss_cons (ps_set (i := 1) nd rfl (Or.inr rfl) (pe_call Z.pot.G hr1 (by rfl) Z.pot.g Z.pot.k Z.pot.b .nil pass0 (pa_cons (pv 0) pa_nil)))
      (pss_cons (ps_set (i := 2) nd rfl (Or.inl rfl) (pe_ix ix_list (pe_lst (pa_cons (pe_op op_add pe_int (pe_call Z.draw.G hr1 (by rfl) Z.draw.g Z.draw.k Z.draw.b .nil pass0 (pa_cons (pv 1) (pa_cons pe_int pa_nil)))) (pa_cons pe_int (pa_cons (pe_op op_add pe_int (pe_call Z.draw.G hr1 (by rfl) Z.draw.g Z.draw.k Z.draw.b .nil pass0 (pa_cons (pv 1) (pa_cons pe_int pa_nil)))) pa_nil))))
        (pe_call Z.draw.G hr1 (by rfl) Z.draw.g Z.draw.k Z.draw.b .nil pass0 (pa_cons (pv 1) (pa_cons pe_int pa_nil))) (fun _ _ => rfl)))
      (pss_cons (ps_set (i := 3) nd rfl (Or.inr rfl) (pe_lc (own := [("k", 13)]) (g := gName 13) (tt := tYes) rfl nd (pi_range1 (by rfl) Z.range (pa_cons (pv 2) pa_nil))
        (blkOk_by (own := [("k", 13)]) (N := nL) (sc := defScope s_law) (by decide +kernel)) (fun _ _ _ _ _ => pg_name (i := 13) nd rfl (Or.inl rfl)) (fun _ _ _ _ _ => pts_nil)
        (fun _ _ _ _ _ => pe_cmpR op_eq (pe_call Z.draw.G hr1 (by rfl) Z.draw.g Z.draw.k Z.draw.b .nil pass0 (pa_cons (pv 1) (pa_cons pe_int pa_nil))) pe_int (nomark _))))
      (pss_cons (ps_set (i := 4) nd rfl (Or.inr rfl) (pe_lc (own := [("k", 13)]) (g := gName 13) (tt := tYes) rfl nd (pi_range1 (by rfl) Z.range (pa_cons (pv 2) pa_nil))
        (blkOk_by (own := [("k", 13)]) (N := nL) (sc := defScope s_law) (by decide +kernel)) (fun _ _ _ _ _ => pg_name (i := 13) nd rfl (Or.inl rfl)) (fun _ _ _ _ _ => pts_nil)
        (fun _ _ _ _ _ => pe_cmpR op_eq (pe_call Z.draw.G hr1 (by rfl) Z.draw.g Z.draw.k Z.draw.b .nil pass0 (pa_cons (pv 1) (pa_cons pe_int pa_nil))) pe_int (nomark _))))
      (C8.pss_cut (ps_if (pt_cmpR op_eq (pe_call Z.draw.G hr1 (by rfl) Z.draw.g Z.draw.k Z.draw.b .nil pass0 (pa_cons (pv 1) (pa_cons pe_int pa_nil))) pe_int (nomark _))
        (pss_one (ps_set (i := 4) nd rfl (Or.inr rfl) (pe_lc (own := [("k", 13)]) (g := gName 13) (tt := tYes) rfl nd (pi_range1 (by rfl) Z.range (pa_cons (pv 2) pa_nil))
          (blkOk_by (own := [("k", 13)]) (N := nL) (sc := defScope s_law) (by decide +kernel)) (fun _ _ _ _ _ => pg_name (i := 13) nd rfl (Or.inl rfl)) (fun _ _ _ _ _ => pts_nil)
          (fun _ _ _ _ _ => pe_or (pe_ix (Vx.ix_listK (K := K) rfl) (pv 3) (pv 13) (fun _ _ => rfl)) (pe_one (pe_ix (Vx.ix_listK (K := K) rfl) (pv 4) (pv 13) (fun _ _ => rfl))))))) pss_nil)
      (C8.pss_cut (ps_if (pt_cmpR op_eq (pe_call Z.draw.G hr1 (by rfl) Z.draw.g Z.draw.k Z.draw.b .nil pass0 (pa_cons (pv 1) (pa_cons pe_int pa_nil))) pe_int (nomark _))
        (pss_one (ps_set (i := 4) nd rfl (Or.inr rfl) (pe_op op_cat (pe_slice sl_list (pv 4) (po_some pe_int) po_none)
          (pe_ifExp (PW.pt (pw_or (pt_cmpR op_lt (pv 2) pe_int (nomark _)) (pw_or1 (pt_cmpR (op_eqD hr.units) (pe_slice sl_list (pv 4) (po_some pe_int) po_none) (pe_lst pa_nil) (nomark _))))) (pe_lst (pa_cons pe_bl (pa_cons pe_bl pa_nil))) (pe_lst pa_nil))))) pss_nil)
      (pss_cons (ps_set (i := 5) nd rfl (Or.inl rfl) (pe_call Z.L.mks.G hr5 (by rfl) Z.L.mks.g Z.L.mks.k Z.L.mks.b .nil pass0 (pa_cons (pv 3) pa_nil)))
      (pss_cons (ps_set (i := 6) nd rfl (Or.inl rfl) (pe_call Z.L.mks.G hr5 (by rfl) Z.L.mks.g Z.L.mks.k Z.L.mks.b .nil pass0 (pa_cons (pv 4) pa_nil)))
      (C8.pss_cut (ps_set (i := 7) nd rfl (Or.inl rfl) (pe_and (pe_cmpR op_eq (pe_callB call_len_seq (by rfl) Z.len PySem.boot_len (pa_cons (pv 3) pa_nil)) (pe_callB call_len_seq (by rfl) Z.len PySem.boot_len (pa_cons (pv 4) pa_nil)) (nomark _))
        (pe_one (pe_cmpR (op_eqD hr.units) (pe_lc (own := [("k", 13)]) (g := gName 13) rfl nd (pi_range1 (by rfl) Z.range (pa_cons (pe_callB call_len_seq (by rfl) Z.len PySem.boot_len (pa_cons (pv 3) pa_nil)) pa_nil)) (blkOk_by (own := [("k", 13)]) (N := nL) (sc := defScope s_law) (by decide +kernel)) (fun _ _ _ _ _ => pg_name (i := 13) nd rfl (Or.inl rfl))
          (fun _ _ _ _ _ => pts_one (PW.pt (pw_and (pt_val (pe_ix (Vx.ix_listK (K := K) rfl) (pv 3) (pv 13) (fun _ _ => rfl))) (pw_and1 (pt_not (pt_val (pe_ix (Vx.ix_listK (K := K) rfl) (pv 4) (pv 13) (fun _ _ => rfl)))))))) (fun _ _ _ _ _ => pv 13)) (pe_lst pa_nil) (nomark _)))))
      (pss_cons (ps_if (PW.pt (pw_or (pt_cmpR op_ne (pe_cmpR (Vx.op_cmpAny (op := .LtE) (fun _ _ => rfl) Z.L.leA Z.L.leF Z.L.FLe hr6 pass0) (pv 5) (pv 6) (nomark _)) (pv 7) (nomark _))
          (pw_or1 (pt_cmpR op_ne (pe_cmpR (Vx.op_cmpAny (op := .Eq) (fun _ _ => rfl) Z.eqA Z.eqF Z.FE hr1 pass0) (pv 5) (pv 6) (nomark _)) (pe_cmpR (op_eqD hr.units) (pv 3) (pv 4) (nomark _)) (nomark _))))) (pss_one ps_never) pss_nil)
      (pss_cons (ps_if (pt_cmpR op_ne (pe_callB call_len_seq (by rfl) Z.len PySem.boot_len (pa_cons (pv 3) pa_nil)) (pe_callB call_len_seq (by rfl) Z.len PySem.boot_len (pa_cons (pv 4) pa_nil)) (nomark _))
        (pss_cons (ps_for PassesOwn.never rfl (pi_range1 (by rfl) Z.range (pa_cons pe_int pa_nil)) (pg_name (i := 8) nd rfl (Or.inl rfl))
            (pss_one (ps_if (PW.pt (pw_or (pt_cmpR (op_neD hr.units) (pe_call Z.refd.G hr (by rfl) Z.refd.g Z.refd.k Z.refd.b .nil pass0 (pa_cons (pv 5) (pa_cons (pv 6) (pa_cons (pv 8) pa_nil)))) (pe_lst (pa_cons pe_non (pa_cons pe_bl (pa_cons pe_bl pa_nil)))) (nomark _))
              (pw_or1 (pt_cmpR (op_neD hr.units) (pe_call Z.L.tru.G hr5 (by rfl) Z.L.tru.g Z.L.tru.k Z.L.tru.b .nil pass0 (pa_cons (pv 5) pa_nil)) (pv 3) (nomark _))))) (pss_one ps_never) pss_nil)))
          (pss_one (ps_ret (pe_and (pe_cmpR (op_eqD hr.units) (pe_call Z.L.tru.G hr5 (by rfl) Z.L.tru.g Z.L.tru.k Z.L.tru.b .nil pass0 (pa_cons (pv 6) pa_nil)) (pv 4) (nomark _))
            (pe_and (pe_not (pe_cmpR (Vx.op_cmpAny (op := .LtE) (fun _ _ => rfl) Z.L.leA Z.L.leF Z.L.FLe hr6 pass0) (pv 5) (pv 6) (nomark _)))
            (pe_one (pe_cmpR (Vx.op_neAny Z.ne Z.eqA Z.eqF Z.L.C.cM Z.FE hr2 pass0) (pv 5) (pv 6) (nomark _))))))) ) pss_nil)
      (pss_cons (ps_setLc (i := 9) (own := [("k", 13)]) (g := gName 13) (tt := tYes) rfl nd rfl rfl (sw_true rfl rfl rfl (by decide +kernel)) (pi_range1 (by rfl) Z.range (pa_cons (pv 2) pa_nil))
          (blkOk_by (own := [("k", 13)]) (N := nL) (sc := defScope s_law) (by decide +kernel)) (fun _ _ _ _ _ => pg_name (i := 13) nd rfl (Or.inl rfl)) (fun _ _ _ _ _ => pts_nil)
          (fun _ _ _ _ _ => pe_or (pe_ix (Vx.ix_listK (K := K) rfl) (pv 3) (pv 13) (fun _ _ => rfl)) (pe_one (pe_ix (Vx.ix_listK (K := K) rfl) (pv 4) (pv 13) (fun _ _ => rfl)))))
      (pss_cons (ps_setLc (i := 10) (own := [("k", 13)]) (g := gName 13) (tt := tYes) rfl nd rfl rfl (sw_true rfl rfl rfl (by decide +kernel)) (pi_range1 (by rfl) Z.range (pa_cons (pv 2) pa_nil))
          (blkOk_by (own := [("k", 13)]) (N := nL) (sc := defScope s_law) (by decide +kernel)) (fun _ _ _ _ _ => pg_name (i := 13) nd rfl (Or.inl rfl)) (fun _ _ _ _ _ => pts_nil)
          (fun _ _ _ _ _ => pe_and (pe_ix (Vx.ix_listK (K := K) rfl) (pv 3) (pv 13) (fun _ _ => rfl)) (pe_one (pe_ix (Vx.ix_listK (K := K) rfl) (pv 4) (pv 13) (fun _ _ => rfl)))))
      (pss_cons (ps_set (i := 11) nd rfl (Or.inl rfl) (Vx.pe_opE (E := fun _ => E0) Z.O.sf Z.O.oA Z.O.oF Z.O.FO hr7 Vx.passO (pv 5) (pv 6)))
      (pss_cons (ps_set (i := 12) nd rfl (Or.inl rfl) (Vx.pe_opE (E := fun _ => E0) Z.O.sf Z.O.aA Z.O.aF Z.O.FA hr7 Vx.passO (pv 5) (pv 6)))
      (pss_cons (ps_if (PW.pt (pw_or (pt_cmpR (op_neD hr.units) (pe_call Z.L.tru.G hr5 (by rfl) Z.L.tru.g Z.L.tru.k Z.L.tru.b .nil pass0 (pa_cons (pv 11) pa_nil)) (pv 9) (nomark _)) (pw_or (pt_cmpR (op_neD hr.units) (pe_call Z.L.tru.G hr5 (by rfl) Z.L.tru.g Z.L.tru.k Z.L.tru.b .nil pass0 (pa_cons (pv 12) pa_nil)) (pv 10) (nomark _))
          (pw_or1 (pt_cmpR (op_neD hr.units) (pe_call Z.L.tru.G hr5 (by rfl) Z.L.tru.g Z.L.tru.k Z.L.tru.b .nil pass0 (pa_cons (pv 5) pa_nil)) (pv 3) (nomark _)))))) (pss_one ps_never) pss_nil)
      (pss_cons (ps_asg (pe_not (pe_ix ix_list (pv 9) pe_int (fun _ _ => rfl))) (pg_sub (pv 11) pe_int (Vx.set_own (E := E0) Z.M.nq Z.M.sA Z.M.sF Z.M.FS hr3 passL)))
      (pss_cons (ps_if (PW.pt (pw_or (pt_cmpR (op_neD hr.units) (pe_call Z.L.tru.G hr5 (by rfl) Z.L.tru.g Z.L.tru.k Z.L.tru.b .nil pass0 (pa_cons (pv 5) pa_nil)) (pv 3) (nomark _)) (pw_or (pt_cmpR (op_neD hr.units) (pe_call Z.L.tru.G hr5 (by rfl) Z.L.tru.g Z.L.tru.k Z.L.tru.b .nil pass0 (pa_cons (pv 6) pa_nil)) (pv 4) (nomark _))
          (pw_or (pt_not (pt_cmpR (Vx.op_cmpAny (op := .LtE) (fun _ _ => rfl) Z.L.leA Z.L.leF Z.L.FLe hr6 pass0) (pv 12) (pv 5) (nomark _)))
          (pw_or1 (pt_not (pt_cmpR (Vx.op_cmpAny (op := .LtE) (fun _ _ => rfl) Z.L.leA Z.L.leF Z.L.FLe hr6 pass0) (pv 5) (Vx.pe_opE (E := fun _ => E0) Z.O.sf Z.O.oA Z.O.oF Z.O.FO hr7 Vx.passO (pv 5) (pv 6)) (nomark _)))))))) (pss_one ps_never) pss_nil)
      (pss_one (ps_ret (pe_call Z.inpl.G hr (by rfl) Z.inpl.g Z.inpl.k Z.inpl.b .nil pass0 (pa_cons (pv 5) (pa_cons (pv 6) (pa_cons (pv 3) (pa_cons (pv 4) (pa_cons (pv 9) (pa_cons (pv 10) pa_nil)))))))))))))))))))))))))), ?_⟩
    refine ⟨_, rfl, a, ns, rfl, hS, hlen, fun H1 p c s1 p0 c0 P1 => ?_⟩
    refine ⟨_, rfl, p, c, 64, rfl, P1, by decide, by decide, fun H2 d P2 K2 d0 d1 => ⟨_, _, rfl, rfl, ?_⟩⟩
    refine ⟨_, rfl, p, c, 9, rfl, P2, by decide, by decide, fun H3 e P3 K3 e0 e1 => ⟨_, _, rfl, rfl, ?_⟩⟩
    refine ⟨by show 3 ≤ sizeLine; decide, fun lm nlm => ?_⟩
    have om := off P3 nlm
    refine ⟨_, rfl, p, c, 3, rfl, P3.same (same_upd nlm), by decide, by decide, fun H4 u P4 K4 u0 u1 => ?_⟩
    have em := K4 _ _ om.1 om.2 upd_same
    obtain ⟨ku, rfl⟩ := Int.eq_ofNat_of_zero_le u0
    obtain ⟨n, hn1, hn2, hv⟩ : ∃ n : Nat, 1 ≤ n ∧ n ≤ 64 ∧ [V.int (1 + d), V.int 64, V.int (1 + e)][ku]? = some (.int (n : Int)) := by
      obtain ⟨kd, rfl⟩ := Int.eq_ofNat_of_zero_le d0
      obtain ⟨ke, rfl⟩ := Int.eq_ofNat_of_zero_le e0
      match ku, u1 with
      | 0, _ => exact ⟨1 + kd, by omega, by omega, rfl⟩
      | 1, _ => exact ⟨64, by decide, by decide, rfl⟩
      | 2, _ => exact ⟨1 + ke, by omega, by omega, rfl⟩
      | k + 3, h => omega
    refine ⟨lm, _, _, _, rfl, rfl, SqL.of em, atI_nat hv, ?_⟩
    clear hv em u1 e0 e1 d0 d1 u0
    dsimp only [gName, tSeq, tAsg]
    refine comp_draw P4 hn2 fun H5 la fl P5 K5 nla ap ac zfl ea => ?_
    refine comp_draw P5 hn2 fun H6 lb gl P6 K6 nlb bp bc zgl eb => ?_
    have ea6 := K6 _ _ ap ac ea
    have nab : la ≠ lb := ne_of_none ea nlb
    clear K6 K5 nla nlb ea P5 P4 K4 om nlm P3 K3 P2 K2 P1 s1
    -- b = a or b
    refine ⟨fun σ H' => ∃ (lb : Addr) (gl : List Bool) (x13 : Option V), σ = [some (.ref a), some (.ref p), some (.int (n : Nat)), some (.ref la), some (.ref lb), none, none, none, none, none, none, none, none, x13] ∧ gl.length = n ∧ Pot H' p c ∧ H' la = some (.lst (fl.map V.bl)) ∧ H' lb = some (.lst (gl.map V.bl)) ∧ lb ≠ p ∧ lb ≠ c, ?_, ?_⟩
    · refine ⟨_, rfl, p, c, 3, rfl, P6, by decide, by decide, fun H7 d P7 K7 d0 d1 => ⟨rfl, _, rfl, ite2 (fun _ => ?_) (fun _ => ?_)⟩⟩
      · have oD : ∀ D : Addr, H7 D = none → D ≠ p ∧ D ≠ c := fun D z => off P7 z
        refine comp_or (K7 _ _ ap ac ea6) (K7 _ _ bp bc eb) zfl zgl hn2 fun H8 D s8 nD eD => ?_
        exact ⟨D, _, _, rfl, (jn_len (by omega)).trans zfl, P7.same s8, s8 _ _ (K7 _ _ ap ac ea6), eD, (oD D nD).1, (oD D nD).2⟩
      · exact ⟨lb, gl, _, rfl, zgl, P7, K7 _ _ ap ac ea6, K7 _ _ bp bc eb, bp, bc⟩
    clear eb ea6 P6 nab bp bc zgl gl lb
    rintro σ H7 ⟨lb, gl, x13, rfl, zgl, P7, ea, eb, bp, bc⟩
    -- b of another length
    refine ⟨fun σ H' => ∃ (lb : Addr) (gl : List Bool), σ = [some (.ref a), some (.ref p), some (.int (n : Nat)), some (.ref la), some (.ref lb), none, none, none, none, none, none, none, none, x13] ∧ 1 ≤ gl.length ∧ gl.length ≤ 64 ∧ H' la = some (.lst (fl.map V.bl)) ∧ H' lb = some (.lst (gl.map V.bl)), ?_, ?_⟩
    · refine ⟨_, rfl, p, c, 6, rfl, P7, by decide, by decide, fun H8 d P8 K8 d0 d1 => ⟨rfl, _, rfl, ite2 (fun _ => ?_) (fun _ => ?_)⟩⟩
      · have ea8 := K8 _ _ ap ac ea
        have eb8 := K8 _ _ bp bc eb
        refine ⟨_, rfl, 1, rfl, lb, _, rfl, SqL.of eb8, fun m nm => ?_⟩
        have ec : cutV (gl.map V.bl) (some 1) none = (gl.drop 1).map V.bl := by
          rw [show (1 : Int) = ((1 : Nat) : Int) from rfl, cut_from, List.map_drop]
        rw [ec]
        have sm := same_upd (o := .lst ((gl.drop 1).map V.bl)) nm
        have em : (upd H8 m (.lst ((gl.drop 1).map V.bl))) m = some (.lst ((gl.drop 1).map V.bl)) := upd_same
        generalize upd H8 m (HO.lst ((gl.drop 1).map V.bl)) = H9 at sm em
        have ea9 := sm _ _ ea8
        have eb9 := sm _ _ eb8
        have zd : ((gl.drop 1).map V.bl).length = n - 1 := by rw [List.length_map, List.length_drop, zgl]
        refine ⟨_, rfl, _, _, rfl, rfl, _, rfl, ite2 (fun h => ?_) (fun h => ?_)⟩
        · have hn64 : n < 64 := by have := of_decide_eq_true h; omega
          refine iteT ⟨by show 2 ≤ sizeLine; decide, fun t nt => ?_⟩
          have st := same_upd (o := .lst [V.bl true, V.bl true]) nt
          refine ⟨m, t, _, _, rfl, rfl, st _ _ em, upd_same, ?_, fun D nD => ?_⟩
          · rw [zd]
            exact Nat.le_trans (show n - 1 + 2 ≤ 100 by omega) (by decide)
          have sD := same_upd (o := .lst ((gl.drop 1).map V.bl ++ [V.bl true, V.bl true])) nD
          have zg : (gl.drop 1 ++ [true, true]).length = n - 1 + 2 := by rw [List.length_append, List.length_drop, zgl]; rfl
          refine ⟨D, gl.drop 1 ++ [true, true], rfl, by omega, by omega, sD _ _ (st _ _ ea9), ?_⟩
          rw [upd_same, List.map_append]
          rfl
        · have hn64 : n = 64 := by
            have h : ¬ (decide (((n : Nat) : Int) < 64) = true) := h
            rw [decide_eq_true_iff] at h
            omega
          refine ⟨_, rfl, 1, rfl, lb, _, rfl, SqL.of eb9, fun m2 nm2 => ?_⟩
          rw [ec]
          have sm2 := same_upd (o := .lst ((gl.drop 1).map V.bl)) nm2
          have em2 : (upd H9 m2 (.lst ((gl.drop 1).map V.bl))) m2 = some (.lst ((gl.drop 1).map V.bl)) := upd_same
          generalize upd H9 m2 (HO.lst ((gl.drop 1).map V.bl)) = HA at sm2 em2
          refine ⟨by show 0 ≤ sizeLine; decide, fun z nz => ?_⟩
          have sz := same_upd (o := .lst []) nz
          have ez : (upd HA z (.lst [])) z = some (.lst (([] : List Bool).map V.bl)) := upd_same
          generalize upd HA z (HO.lst []) = HB at sz ez
          have hne : gl.drop 1 ≠ [] := fun e => by
            have := congrArg List.length e
            rw [List.length_drop] at this
            simp at this
            omega
          refine ⟨_, _, dp_bl (sz _ _ em2), dp_bl ez, bD_shp _, bD_shp _, false, by rw [bD_eqv, decide_eq_false hne], iteF ?_⟩
          refine ⟨by show 0 ≤ sizeLine; decide, fun t nt => ?_⟩
          have st := same_upd (o := .lst []) nt
          have S := sm2.trans (sz.trans st)
          refine ⟨m, t, _, _, rfl, rfl, S _ _ em, upd_same, ?_, fun D nD => ?_⟩
          · rw [zd]
            exact Nat.le_trans (show n - 1 + 0 ≤ 100 by omega) (by decide)
          have sD := same_upd (o := .lst ((gl.drop 1).map V.bl ++ [])) nD
          have zg : (gl.drop 1).length = n - 1 := by rw [List.length_drop, zgl]
          refine ⟨D, gl.drop 1, rfl, by omega, by omega, sD _ _ (S _ _ ea9), ?_⟩
          rw [upd_same, List.append_nil]
      · exact ⟨lb, gl, rfl, by omega, by omega, K8 _ _ ap ac ea, K8 _ _ bp bc eb⟩
    clear P7 zgl bp bc ea eb gl lb
    rintro σ H8 ⟨lb, gl, rfl, zg0, zg1, ea, eb⟩
    refine ⟨_, rfl, la, fl, rfl, ea, by omega, by omega, fun H9 q1 m1 s9 nq1 nm1 M1 => ?_⟩
    have ma1 : m1 ≠ la ∧ m1 ≠ lb := ⟨(ne_of_none ea nm1).symm, (ne_of_none eb nm1).symm⟩
    have ea := s9 _ _ ea
    have eb := s9 _ _ eb
    refine ⟨_, rfl, lb, gl, rfl, eb, by omega, by omega, fun HA q2 m2 sA nq2 nm2 M2 => ?_⟩
    have ma2 : m2 ≠ la ∧ m2 ≠ lb := ⟨(ne_of_none ea nm2).symm, (ne_of_none eb nm2).symm⟩
    have n12 : q1 ≠ q2 := by
      obtain ⟨⟨d1, e1⟩, _⟩ := M1
      exact ne_of_none e1 nq2
    have m12 : m1 ≠ m2 := ne_of_none M1.2 nm2
    have M1 := M1.same sA
    have ea := sA _ _ ea
    have eb := sA _ _ eb
    have zfl1 : ((fl.map V.bl).length : Nat) = n := by rw [List.length_map, zfl]
    have zgl1 : ((gl.map V.bl).length : Nat) = gl.length := List.length_map _
    clear s9 nq1 nm1 sA nq2 nm2
    -- inside
    refine ⟨fun σ H' => σ = [some (.ref a), some (.ref p), some (.int (n : Nat)), some (.ref la), some (.ref lb), some (.ref q1), some (.ref q2), some (.bl (decide (fl.length = gl.length) && leB fl gl)), none, none, none, none, none, x13] ∧ Same HA H', ?_, ?_⟩
    · refine ⟨_, rfl, la, _, rfl, .inl (SqL.of ea), _, rfl, lb, _, rfl, .inl (SqL.of eb), rfl, _, rfl, ?_⟩
      rw [zfl1, zgl1]
      by_cases he : n = gl.length
      · rw [decide_eq_true (by rw [← he] : V.int ((n : Nat) : Int) = V.int ((gl.length : Nat) : Int))]
        refine iteT ⟨_, rfl, la, _, rfl, .inl (SqL.of ea), _, rfl, by omega, by omega, fun D nD => ?_⟩
        rw [zfl1]
        refine lc_range (lo := 0) (n := ((n : Nat) : Int).toNat) (fun i H' => Same HA H' ∧ H' D = some (.lst ((pgs 0 (jn nb (fl.take i) (gl.take i))).map vi))) ⟨same_upd nD, upd_same⟩ ?_ ?_
        · rintro i H' hi ⟨s1, e1⟩
          rw [Int.toNat_natCast] at hi
          have h1 : i < fl.length := by omega
          have h2 : i < gl.length := by omega
          have zt : (jn nb (fl.take i) (gl.take i)).length = i := by rw [jn_len (by rw [List.length_take, List.length_take]; omega), List.length_take]; omega
          have tk : pgs 0 (jn nb (fl.take (i + 1)) (gl.take (i + 1))) = pgs 0 (jn nb (fl.take i) (gl.take i)) ++ (if nb fl[i] gl[i] = true then [i] else []) := by
            rw [jn_take h1 h2, pgs_app, zt, Nat.zero_add]
            show _ ++ ((if nb fl[i] gl[i] = true then [i] else []) ++ []) = _
            rw [List.append_nil]
          have g1 : (fl.map V.bl)[i]? = some (V.bl fl[i]) := by rw [List.getElem?_map, List.getElem?_eq_getElem h1]; rfl
          have g2 : (gl.map V.bl)[i]? = some (V.bl gl[i]) := by rw [List.getElem?_map, List.getElem?_eq_getElem h2]; rfl
          rw [Int.zero_add]
          refine ⟨rfl, _, rfl, _, rfl, la, _, _, _, rfl, rfl, SqL.of (s1 _ _ ea), atI_nat g1, fl[i], rfl, ?_⟩
          rw [tk]
          have no : Same HA H' ∧ H' D = some (.lst ((pgs 0 (jn nb (fl.take i) (gl.take i)) ++ []).map vi)) := ⟨s1, by rw [List.append_nil]; exact e1⟩
          have yes : (pgs 0 (jn nb (fl.take i) (gl.take i))).length < sizeLine := by
            have := pgs_len (jn nb (fl.take i) (gl.take i)) 0
            exact Nat.lt_of_le_of_lt (show _ ≤ 64 by omega) (by decide)
          cases ha : fl[i] with
          | false =>
            refine iteF (iteF ?_)
            exact no
          | true =>
            refine iteT ⟨_, rfl, _, rfl, lb, _, _, _, rfl, rfl, SqL.of (s1 _ _ eb), atI_nat g2, gl[i], rfl, ?_⟩
            cases hb : gl[i] with
            | true => exact iteF no
            | false =>
              refine iteT ⟨_, rfl, _, e1, by rw [List.length_map]; exact yes, fun z o ez => by rw [upd_ne (ne_of_none ez nD)]; exact s1 _ _ ez, ?_⟩
              rw [upd_same, List.map_append]
              rfl
        · rintro H' ⟨s1, e1⟩
          rw [Int.toNat_natCast, List.take_of_length_le (by omega), List.take_of_length_le (by omega)] at e1
          refine ⟨by show 0 ≤ sizeLine; decide, fun z nz => ?_⟩
          have sz := same_upd (o := .lst []) nz
          have ez : (upd H' z (.lst [])) z = some (.lst (([] : List Nat).map vi)) := upd_same
          refine ⟨_, _, dp_vi (sz _ _ e1), dp_vi ez, shp_dk _, shp_dk _, ?_⟩
          refine ⟨?_, s1.trans sz⟩
          rw [show PyData.eqv (.list ((pgs 0 (jn nb fl gl)).map dk)) (.list (([] : List Nat).map dk)) = decide (pgs 0 (jn nb fl gl) = []) from eqv_dk _ [], inside_eq, decide_eq_true (show fl.length = gl.length by omega), Bool.true_and]
          rfl
      · rw [decide_eq_false (fun z => he (by injection z with z; omega) : ¬ V.int ((n : Nat) : Int) = V.int ((gl.length : Nat) : Int))]
        refine iteF ⟨?_, fun _ _ e => e⟩
        rw [decide_eq_false (show ¬ fl.length = gl.length by omega), Bool.false_and]
        rfl
    rintro σ HB ⟨rfl, sB⟩
    have M1 := M1.same sB
    have M2 := M2.same sB
    have ea := sB _ _ ea
    have eb := sB _ _ eb
    clear sB
    obtain ⟨⟨d1, e1⟩, f1⟩ := id M1
    obtain ⟨⟨d2, e2⟩, f2⟩ := id M2
    refine ⟨_, rfl, _, rfl, ⟨q1, d1, _, rfl, e1⟩, ⟨_, .base (.ins e2 Z.L.C.cl Z.L.C.cC Z.L.C.cG Z.L.C.cT Z.L.C.cM), Z.L.nfM⟩, q1, m1, q2, m2, fl, gl, rfl, M1, M2, by omega, by omega, fun HC sC => ?_⟩
    refine ⟨_, rfl, rfl, false, neF rfl, iteF ?_⟩
    have M1 := M1.same sC
    have M2 := M2.same sC
    have ea := sC _ _ ea
    have eb := sC _ _ eb
    have e1 := sC _ _ e1
    have e2 := sC _ _ e2
    have f1 := sC _ _ f1
    have f2 := sC _ _ f2
    clear sC
    refine ⟨_, rfl, _, rfl, ⟨q1, d1, _, rfl, e1⟩, ⟨_, .base (.ins e2 Z.L.C.cl Z.L.C.cC Z.L.C.cG Z.L.C.cT Z.L.C.cM), Z.L.nfM⟩, q1, m1, fl, _, rfl, M1, .inl ⟨q2, m2, gl, rfl, M2, ?_⟩⟩
    refine ⟨_, rfl, _, rfl, _, _, dp_bl ea, dp_bl eb, bD_shp _, bD_shp _, ?_⟩
    rw [bD_eqv]
    refine ⟨rfl, false, neF rfl, iteF ?_⟩
    refine ⟨_, rfl, la, _, rfl, .inl (SqL.of ea), _, rfl, lb, _, rfl, .inl (SqL.of eb), rfl, _, rfl, ?_⟩
    rw [zfl1, zgl1]
    by_cases he : n = gl.length
    · rw [decide_eq_true (by rw [← he] : V.int ((n : Nat) : Int) = V.int ((gl.length : Nat) : Int))]
      refine iteF ?_
      dsimp only [tNext, gName, tSeq, tAsg]
      have he' : fl.length = gl.length := by omega
      refine comp_or ea eb zfl he.symm hn2 fun HD D1 sD nD1 ej => ?_
      have ea' := sD _ _ ea
      have eb' := sD _ _ eb
      refine comp_and ea' eb' zfl he.symm hn2 fun HE D2 sE nD2 ec => ?_
      have I : IP MC q1 d1 m1 q2 d2 m2 la lb D1 D2 fl gl fl gl HE :=
        { a1 := sE _ _ (sD _ _ e1), b1 := sE _ _ (sD _ _ f1), a2 := sE _ _ (sD _ _ e2), b2 := sE _ _ (sD _ _ f2), ea := sE _ _ ea', eb := sE _ _ eb', ej := sE _ _ ej, ec := ec, n := n12, nm := m12, n1 := ⟨ma1.1, ma1.2, ne_of_none f1 nD1, ne_of_none (sD _ _ f1) nD2⟩, n2 := ⟨ma2.1, ma2.2, ne_of_none f2 nD1, ne_of_none (sD _ _ f2) nD2⟩ }
      clear M1 M2 ea eb e1 e2 f1 f2 ea' eb' sD sE nD1 nD2 ej ec
      have t1 : ∃ a dx fs, V.ref q1 = .ref a ∧ HE a = some (.ins MC dx fs) := ⟨q1, d1, _, rfl, I.a1⟩
      have t2 : ∃ a dx fs, V.ref q2 = .ref a ∧ HE a = some (.ins MC dx fs) := ⟨q2, d2, _, rfl, I.a2⟩
      refine ⟨_, rfl, _, rfl, t1, t2, q1, m1, q2, m2, fl, gl, rfl, I.ma, I.mb, by omega, by omega, fun _ HF r3 m3 sF nr3 nm3 M3 => ?_, fun hn => (hn he').elim⟩
      have zj : (jn or fl gl).length = fl.length := jn_len he'
      have zc : (jn and fl gl).length = fl.length := jn_len he'
      have same3 : ∀ {H' : Hp} {w' : HO}, Same HE H' → Same HE (upd H' m3 w') := fun {H' w'} s z o ez => by
        rw [upd_ne (ne_of_none ez nm3)]
        exact s _ _ ez
      refine ⟨_, rfl, _, rfl, ⟨q1, d1, _, rfl, sF _ _ I.a1⟩, ⟨q2, d2, _, rfl, sF _ _ I.a2⟩, q1, m1, q2, m2, fl, gl, rfl, I.ma.same sF, I.mb.same sF, by omega, by omega, fun _ HG r4 m4 sG nr4 nm4 M4 => ?_, fun hn => (hn he').elim⟩
      have n43 : m4 ≠ m3 := (ne_of_none M3.2 nm4).symm
      have M3 := M3.same sG
      have S := sF.trans sG
      clear sF sG nr3 nr4 nm4
      refine ⟨_, rfl, r3, m3, _, rfl, M3, by omega, fun HH DH sH nDH eDH => ?_⟩
      have M3 := M3.same sH
      have M4 := M4.same sH
      have S := S.trans sH
      refine ⟨_, rfl, _, _, dp_bl eDH, dp_bl (S _ _ I.ej), bD_shp _, bD_shp _, false, by rw [bD_eqv, decide_eq_true rfl]; rfl, iteF ?_⟩
      refine ⟨_, rfl, r4, m4, _, rfl, M4, by omega, fun HI DI sI nDI eDI => ?_⟩
      have M3 := M3.same sI
      have M4 := M4.same sI
      have S := S.trans sI
      refine ⟨_, rfl, _, _, dp_bl eDI, dp_bl (S _ _ I.ec), bD_shp _, bD_shp _, false, by rw [bD_eqv, decide_eq_true rfl]; rfl, iteF ?_⟩
      refine ⟨_, rfl, q1, m1, _, rfl, I.ma.same S, by omega, fun HJ DJ sJ nDJ eDJ => ?_⟩
      have M3 := M3.same sJ
      have M4 := M4.same sJ
      have S := S.trans sJ
      refine ⟨_, rfl, _, _, dp_bl eDJ, dp_bl (S _ _ I.ea), bD_shp _, bD_shp _, false, by rw [bD_eqv, decide_eq_true rfl]; rfl, iteF ?_⟩
      clear sH nDH eDH sI nDI eDI sJ nDJ eDJ
      -- both[0] = not joined[0]
      obtain ⟨jb, hj1⟩ : ∃ b, ((jn or fl gl).map V.bl)[0]? = some (V.bl b) := by
        have h0 : 0 < (jn or fl gl).length := by omega
        exact ⟨(jn or fl gl)[0], by rw [List.getElem?_map, List.getElem?_eq_getElem h0]; rfl⟩
      obtain ⟨⟨d3, e3⟩, f3⟩ := id M3
      refine ⟨_, rfl, D1, _, _, _, rfl, rfl, SqL.of (S _ _ I.ej), atI_nat hj1, jb, rfl, _, rfl, ⟨r3, d3, _, rfl, e3⟩, r3, m3, _, _, _, some ((0 : Nat) : Int), rfl, M3, .int _, .inl ⟨_, rfl⟩, fun j b ej hj eb => ?_, fun hb => (by rw [btw_in (by omega)] at hb; cases hb), fun j ej hj ne => (ne _ rfl).elim⟩
      have S := same3 (w' := .lst (((jn or fl gl).set j b).map V.bl)) S
      have M4 := M4.off (zs := ((jn or fl gl).set j b).map V.bl) f3 n43
      generalize upd HJ m3 (HO.lst (((jn or fl gl).set j b).map V.bl)) = HK at S M4
      clear M3 e3 f3
      refine ⟨_, rfl, q1, m1, _, rfl, I.ma.same S, by omega, fun HL DL sL nDL eDL => ?_⟩
      have M4 := M4.same sL
      have S := S.trans sL
      refine ⟨_, rfl, _, _, dp_bl eDL, dp_bl (S _ _ I.ea), bD_shp _, bD_shp _, false, by rw [bD_eqv, decide_eq_true rfl]; rfl, iteF ?_⟩
      refine ⟨_, rfl, q2, m2, _, rfl, I.mb.same S, by omega, fun HM DM sM nDM eDM => ?_⟩
      have M4 := M4.same sM
      have S := S.trans sM
      refine ⟨_, rfl, _, _, dp_bl eDM, dp_bl (S _ _ I.eb), bD_shp _, bD_shp _, false, by rw [bD_eqv, decide_eq_true rfl]; rfl, iteF ?_⟩
      obtain ⟨⟨d4, e4⟩, f4⟩ := id M4
      refine ⟨_, rfl, _, rfl, ⟨r4, d4, _, rfl, e4⟩, ⟨_, .base (.ins (S _ _ I.a1) Z.L.C.cl Z.L.C.cC Z.L.C.cG Z.L.C.cT Z.L.C.cM), Z.L.nfM⟩, r4, m4, q1, m1, _, _, rfl, M4, I.ma.same S, by omega, by omega, fun HN sN => ?_⟩
      rw [decide_eq_true zc, le_and_self]
      have S := S.trans sN
      refine ⟨true, rfl, iteF ?_⟩
      refine ⟨_, rfl, _, rfl, _, rfl, ⟨q1, d1, _, rfl, S _ _ I.a1⟩, ⟨q2, d2, _, rfl, S _ _ I.a2⟩, q1, m1, q2, m2, fl, gl, rfl, I.ma.same S, I.mb.same S, by omega, by omega, fun _ HO r5 m5 sO nr5 nm5 M5 => ?_, fun hn => (hn he').elim⟩
      have S := S.trans sO
      obtain ⟨⟨d5, e5⟩, f5⟩ := id M5
      refine ⟨⟨q1, d1, _, rfl, S _ _ I.a1⟩, ⟨_, .base (.ins e5 Z.L.C.cl Z.L.C.cC Z.L.C.cG Z.L.C.cT Z.L.C.cM), Z.L.nfM⟩, q1, m1, r5, m5, _, _, rfl, I.ma.same S, M5, by omega, by omega, fun HQ sQ => ?_⟩
      rw [decide_eq_true zj.symm, le_self_or]
      have S := S.trans sQ
      refine ⟨true, rfl, iteF ?_⟩
      refine ⟨_, rfl, _, rfl, _, rfl, _, rfl, _, rfl, _, rfl, q1, d1, m1, q2, d2, m2, la, lb, D1, D2, fl, gl, rfl, I.same S, he', by omega, by omega, fun HR => q HR⟩
    · rw [decide_eq_false (fun z => he (by injection z with z; omega) : ¬ V.int ((n : Nat) : Int) = V.int ((gl.length : Nat) : Int))]
      have hne : fl.length ≠ gl.length := by omega
      refine iteT ⟨4, rfl, by decide, by decide, ?_⟩
      refine for_range (lo := 0) (n := 4) (fun i σ H' => ∃ x8 : Option V, σ = [some (.ref a), some (.ref p), some (.int (n : Nat)), some (.ref la), some (.ref lb), some (.ref q1), some (.ref q2), some (.bl (decide (fl.length = gl.length) && leB fl gl)), x8, none, none, none, none, x13] ∧ Same HC H') ⟨_, rfl, fun _ _ e => e⟩ ?_ ?_
      · rintro i σ H' hi ⟨x8, rfl, sH⟩
        refine ⟨_, rfl, _, rfl, _, rfl, q1, m1, q2, m2, fl, gl, _, rfl, M1.same sH, M2.same sH, by omega, by omega, hne, fun HD t sD nt et => ?_⟩
        refine ⟨by show 3 ≤ sizeLine; decide, fun u nu => ?_⟩
        have su := same_upd (o := .lst [V.non, V.bl true, V.bl true]) nu
        have et := su _ _ et
        have eu : (upd HD u (.lst [V.non, V.bl true, V.bl true])) u = some (.lst [V.non, V.bl true, V.bl true]) := upd_same
        have S := sD.trans su
        generalize upd HD u (HO.lst [V.non, V.bl true, V.bl true]) = HE at et eu S
        refine ⟨.list [.none, .bool true, .bool true], .list [.none, .bool true, .bool true], .lst (SqL.of et) (.cons .non (.cons (.bl _) (.cons (.bl _) .nil))), .lst (SqL.of eu) (.cons .non (.cons (.bl _) (.cons (.bl _) .nil))), by decide +kernel, by decide +kernel, false, by decide +kernel, iteF ?_⟩
        refine ⟨_, rfl, q1, m1, fl, rfl, (M1.same sH).same S, by omega, fun HF D sF nD eD => ?_⟩
        refine ⟨_, rfl, _, _, dp_bl eD, dp_bl (sF _ _ (S _ _ (sH _ _ ea))), bD_shp _, bD_shp _, false, by rw [bD_eqv, decide_eq_true rfl]; rfl, iteF ⟨_, rfl, sH.trans (S.trans sF)⟩⟩
      · rintro σ H' ⟨x8, rfl, sH⟩
        refine ⟨_, rfl, q2, m2, gl, rfl, M2.same sH, by omega, fun HF D sF nD eD => ?_⟩
        have S := sH.trans sF
        refine ⟨_, rfl, _, _, dp_bl eD, dp_bl (S _ _ eb), bD_shp _, bD_shp _, true, by rw [bD_eqv, decide_eq_true rfl], iteT ?_⟩
        refine ⟨_, rfl, _, rfl, ⟨q1, d1, _, rfl, S _ _ e1⟩, ⟨_, .base (.ins (S _ _ e2) Z.L.C.cl Z.L.C.cC Z.L.C.cG Z.L.C.cT Z.L.C.cM), Z.L.nfM⟩, q1, m1, q2, m2, fl, gl, rfl, M1.same S, M2.same S, by omega, by omega, fun HG sG => ?_⟩
        rw [decide_eq_false hne, Bool.false_and]
        have S := S.trans sG
        refine ⟨false, rfl, true, rfl, iteT ?_⟩
        refine ⟨_, rfl, _, rfl, ⟨q1, d1, _, rfl, S _ _ e1⟩, ⟨_, .base (.ins (S _ _ e2) Z.L.C.cl Z.L.C.cC Z.L.C.cG Z.L.C.cT Z.L.C.cM), Z.L.nfM⟩, q1, m1, fl, _, rfl, M1.same S, .inl ⟨q2, m2, gl, rfl, M2.same S, _, rfl, ?_⟩⟩
        rw [decide_eq_false (fun e => hne (congrArg List.length e))]
        exact q _
end
end Toy
set_option Elab.async false
set_option linter.all false
set_option maxRecDepth 100000
set_option maxHeartbeats 4000000
namespace Toy
open PySem PySem.Spec PyProof.Rows L2
theorem all_mk {l : PySem.W.OpenLaw} {w : World} {K : PySem.W.Frag} {h : Heap} {mg : Str → Option Value} {fa f_is_whole f_is_between f_pairs f_either f_both f_law_pot f_law_draw f_law_marks f_law_truths f_law_refused f_law_in_place f_law MC f_mi f_gi f_ms f_ml f_me f_mle f_mo f_ma f_io f_ia MD f_di D W f_iW : Addr}  (X : K.In h) (G : h.Ns mainGlobals mg) (hfa : mg "law" = some (.ref fa))
    {od_is_whole an_is_whole : Option Addr} {sl_is_whole : Array (Option Value)} {oc_is_whole kV_is_whole dc_is_whole pm_is_whole cd_is_whole ct_is_whole : Value} {od_is_between an_is_between : Option Addr} {sl_is_between : Array (Option Value)} {oc_is_between kV_is_between dc_is_between pm_is_between cd_is_between ct_is_between : Value} {od_pairs an_pairs : Option Addr} {sl_pairs : Array (Option Value)} {oc_pairs kV_pairs dc_pairs pm_pairs cd_pairs ct_pairs : Value} {od_either an_either : Option Addr} {sl_either : Array (Option Value)} {oc_either kV_either dc_either pm_either cd_either ct_either : Value} {od_both an_both : Option Addr} {sl_both : Array (Option Value)} {oc_both kV_both dc_both pm_both cd_both ct_both : Value} {od_law_pot an_law_pot : Option Addr} {sl_law_pot : Array (Option Value)} {oc_law_pot kV_law_pot dc_law_pot pm_law_pot cd_law_pot ct_law_pot : Value} {od_law_draw an_law_draw : Option Addr} {sl_law_draw : Array (Option Value)} {oc_law_draw kV_law_draw dc_law_draw pm_law_draw cd_law_draw ct_law_draw : Value} {od_law_marks an_law_marks : Option Addr} {sl_law_marks : Array (Option Value)} {oc_law_marks kV_law_marks dc_law_marks pm_law_marks cd_law_marks ct_law_marks : Value} {od_law_truths an_law_truths : Option Addr} {sl_law_truths : Array (Option Value)} {oc_law_truths kV_law_truths dc_law_truths pm_law_truths cd_law_truths ct_law_truths : Value} {od_law_refused an_law_refused : Option Addr} {sl_law_refused : Array (Option Value)} {oc_law_refused kV_law_refused dc_law_refused pm_law_refused cd_law_refused ct_law_refused : Value} {od_law_in_place an_law_in_place : Option Addr} {sl_law_in_place : Array (Option Value)} {oc_law_in_place kV_law_in_place dc_law_in_place pm_law_in_place cd_law_in_place ct_law_in_place : Value} {od_law an_law : Option Addr} {sl_law : Array (Option Value)} {oc_law kV_law dc_law pm_law cd_law ct_law : Value} {od_mi an_mi : Option Addr} {sl_mi : Array (Option Value)} {oc_mi kV_mi dc_mi pm_mi cd_mi ct_mi : Value} {od_gi an_gi : Option Addr} {sl_gi : Array (Option Value)} {oc_gi kV_gi dc_gi pm_gi cd_gi ct_gi : Value} {od_ms an_ms : Option Addr} {sl_ms : Array (Option Value)} {oc_ms kV_ms dc_ms pm_ms cd_ms ct_ms : Value} {od_ml an_ml : Option Addr} {sl_ml : Array (Option Value)} {oc_ml kV_ml dc_ml pm_ml cd_ml ct_ml : Value} {od_me an_me : Option Addr} {sl_me : Array (Option Value)} {oc_me kV_me dc_me pm_me cd_me ct_me : Value} {od_mle an_mle : Option Addr} {sl_mle : Array (Option Value)} {oc_mle kV_mle dc_mle pm_mle cd_mle ct_mle : Value} {od_mo an_mo : Option Addr} {sl_mo : Array (Option Value)} {oc_mo kV_mo dc_mo pm_mo cd_mo ct_mo : Value} {od_ma an_ma : Option Addr} {sl_ma : Array (Option Value)} {oc_ma kV_ma dc_ma pm_ma cd_ma ct_ma : Value} {od_io an_io : Option Addr} {sl_io : Array (Option Value)} {oc_io kV_io dc_io pm_io cd_io ct_io : Value} {od_ia an_ia : Option Addr} {sl_ia : Array (Option Value)} {oc_ia kV_ia dc_ia pm_ia cd_ia ct_ia : Value} {od_di an_di : Option Addr} {sl_di : Array (Option Value)} {oc_di kV_di dc_di pm_di cd_di ct_di : Value} {nm_W qn_W : Str} {ns_W : Addr} {bs_W bm_W : List Value} {sn_W : List Str} {sb_W : List Value} {ab_W : Bool} {co_W : Option Bool} {dd_W : Option Addr} {m0_W m1_W m2_W m3_W m5_W : Option Value} {od_iW an_iW : Option Addr} {sl_iW : Array (Option Value)} {oc_iW kV_iW dc_iW pm_iW cd_iW ct_iW : Value} {tm : Tok}
    (a_is_whole : PySem.W.nsIn K mainGlobals "is_whole" = some (some (.ref f_is_whole)))
    (l_is_whole : K.lookup f_is_whole = some ⟨oc_is_whole, od_is_whole, .func (PySem.W.fnOf "is_whole" "is_whole" (defArgs s_is_whole) (defBody s_is_whole) (defScope s_is_whole) .none kV_is_whole dc_is_whole pm_is_whole an_is_whole cd_is_whole ct_is_whole), sl_is_whole⟩)
    (c_is_whole : PySem.W.codeIn K cd_is_whole "is_whole" = true)
    (k_is_whole : PySem.W.keepIn K (.ref f_is_whole) = true)
    (a_is_between : PySem.W.nsIn K mainGlobals "is_between" = some (some (.ref f_is_between)))
    (l_is_between : K.lookup f_is_between = some ⟨oc_is_between, od_is_between, .func (PySem.W.fnOf "is_between" "is_between" (defArgs s_is_between) (defBody s_is_between) (defScope s_is_between) .none kV_is_between dc_is_between pm_is_between an_is_between cd_is_between ct_is_between), sl_is_between⟩)
    (c_is_between : PySem.W.codeIn K cd_is_between "is_between" = true)
    (k_is_between : PySem.W.keepIn K (.ref f_is_between) = true)
    (a_pairs : PySem.W.nsIn K mainGlobals "_pairs" = some (some (.ref f_pairs)))
    (l_pairs : K.lookup f_pairs = some ⟨oc_pairs, od_pairs, .func (PySem.W.fnOf "_pairs" "_pairs" (defArgs s_pairs) (defBody s_pairs) (defScope s_pairs) .none kV_pairs dc_pairs pm_pairs an_pairs cd_pairs ct_pairs), sl_pairs⟩)
    (c_pairs : PySem.W.codeIn K cd_pairs "_pairs" = true)
    (k_pairs : PySem.W.keepIn K (.ref f_pairs) = true)
    (a_either : PySem.W.nsIn K mainGlobals "_either" = some (some (.ref f_either)))
    (l_either : K.lookup f_either = some ⟨oc_either, od_either, .func (PySem.W.fnOf "_either" "_either" (defArgs s_either) (defBody s_either) (defScope s_either) .none kV_either dc_either pm_either an_either cd_either ct_either), sl_either⟩)
    (c_either : PySem.W.codeIn K cd_either "_either" = true)
    (k_either : PySem.W.keepIn K (.ref f_either) = true)
    (a_both : PySem.W.nsIn K mainGlobals "_both" = some (some (.ref f_both)))
    (l_both : K.lookup f_both = some ⟨oc_both, od_both, .func (PySem.W.fnOf "_both" "_both" (defArgs s_both) (defBody s_both) (defScope s_both) .none kV_both dc_both pm_both an_both cd_both ct_both), sl_both⟩)
    (c_both : PySem.W.codeIn K cd_both "_both" = true)
    (k_both : PySem.W.keepIn K (.ref f_both) = true)
    (a_law_pot : PySem.W.nsIn K mainGlobals "_law_pot" = some (some (.ref f_law_pot)))
    (l_law_pot : K.lookup f_law_pot = some ⟨oc_law_pot, od_law_pot, .func (PySem.W.fnOf "_law_pot" "_law_pot" (defArgs s_law_pot) (defBody s_law_pot) (defScope s_law_pot) .none kV_law_pot dc_law_pot pm_law_pot an_law_pot cd_law_pot ct_law_pot), sl_law_pot⟩)
    (c_law_pot : PySem.W.codeIn K cd_law_pot "_law_pot" = true)
    (k_law_pot : PySem.W.keepIn K (.ref f_law_pot) = true)
    (a_law_draw : PySem.W.nsIn K mainGlobals "_law_draw" = some (some (.ref f_law_draw)))
    (l_law_draw : K.lookup f_law_draw = some ⟨oc_law_draw, od_law_draw, .func (PySem.W.fnOf "_law_draw" "_law_draw" (defArgs s_law_draw) (defBody s_law_draw) (defScope s_law_draw) .none kV_law_draw dc_law_draw pm_law_draw an_law_draw cd_law_draw ct_law_draw), sl_law_draw⟩)
    (c_law_draw : PySem.W.codeIn K cd_law_draw "_law_draw" = true)
    (k_law_draw : PySem.W.keepIn K (.ref f_law_draw) = true)
    (a_law_marks : PySem.W.nsIn K mainGlobals "_law_marks" = some (some (.ref f_law_marks)))
    (l_law_marks : K.lookup f_law_marks = some ⟨oc_law_marks, od_law_marks, .func (PySem.W.fnOf "_law_marks" "_law_marks" (defArgs s_law_marks) (defBody s_law_marks) (defScope s_law_marks) .none kV_law_marks dc_law_marks pm_law_marks an_law_marks cd_law_marks ct_law_marks), sl_law_marks⟩)
    (c_law_marks : PySem.W.codeIn K cd_law_marks "_law_marks" = true)
    (k_law_marks : PySem.W.keepIn K (.ref f_law_marks) = true)
    (a_law_truths : PySem.W.nsIn K mainGlobals "_law_truths" = some (some (.ref f_law_truths)))
    (l_law_truths : K.lookup f_law_truths = some ⟨oc_law_truths, od_law_truths, .func (PySem.W.fnOf "_law_truths" "_law_truths" (defArgs s_law_truths) (defBody s_law_truths) (defScope s_law_truths) .none kV_law_truths dc_law_truths pm_law_truths an_law_truths cd_law_truths ct_law_truths), sl_law_truths⟩)
    (c_law_truths : PySem.W.codeIn K cd_law_truths "_law_truths" = true)
    (k_law_truths : PySem.W.keepIn K (.ref f_law_truths) = true)
    (a_law_refused : PySem.W.nsIn K mainGlobals "_law_refused" = some (some (.ref f_law_refused)))
    (l_law_refused : K.lookup f_law_refused = some ⟨oc_law_refused, od_law_refused, .func (PySem.W.fnOf "_law_refused" "_law_refused" (defArgs s_law_refused) (defBody s_law_refused) (defScope s_law_refused) .none kV_law_refused dc_law_refused pm_law_refused an_law_refused cd_law_refused ct_law_refused), sl_law_refused⟩)
    (c_law_refused : PySem.W.codeIn K cd_law_refused "_law_refused" = true)
    (k_law_refused : PySem.W.keepIn K (.ref f_law_refused) = true)
    (a_law_in_place : PySem.W.nsIn K mainGlobals "_law_in_place" = some (some (.ref f_law_in_place)))
    (l_law_in_place : K.lookup f_law_in_place = some ⟨oc_law_in_place, od_law_in_place, .func (PySem.W.fnOf "_law_in_place" "_law_in_place" (defArgs s_law_in_place) (defBody s_law_in_place) (defScope s_law_in_place) .none kV_law_in_place dc_law_in_place pm_law_in_place an_law_in_place cd_law_in_place ct_law_in_place), sl_law_in_place⟩)
    (c_law_in_place : PySem.W.codeIn K cd_law_in_place "_law_in_place" = true)
    (k_law_in_place : PySem.W.keepIn K (.ref f_law_in_place) = true)
    (a_law : PySem.W.nsIn K mainGlobals "law" = some (some (.ref f_law)))
    (l_law : K.lookup f_law = some ⟨oc_law, od_law, .func (PySem.W.fnOf "law" "law" (defArgs s_law) (defBody s_law) (defScope s_law) .none kV_law dc_law pm_law an_law cd_law ct_law), sl_law⟩)
    (c_law : PySem.W.codeIn K cd_law "law" = true)
    (k_law : PySem.W.keepIn K (.ref f_law) = true)
    (cG : PySem.W.specialIn K (.builtin "object.__class__") "__get__" = some (some (.builtin "getset_descriptor.__get__")))
    (cT : PySem.W.takesIn K (.builtin "object.__class__") = some true)
    (a_MC : PySem.W.nsIn K mainGlobals "Marks" = some (some (.ref MC)))
    (pg_MC : PySem.W.plainGet K MC Str.empty = true)
    (hd_MC : PySem.W.hasDictIn K MC = true)
    (po_MC : PySem.W.plainOver K MC = true)
    (sa_MC : PySem.W.findIn K (.ref MC) "__setattr__" = some (some (.builtin "object.__setattr__")))
    (mk_MC : PySem.W.makesIn K MC = true)
    (kc_MC : PySem.W.keepIn K (.ref MC) = true)
    (cC_MC : PySem.W.findIn K (.ref MC) "__class__" = some (some (.builtin "object.__class__")))
    (cM_MC : PySem.W.mroIn K MC (.type "object") = some true)
    (kk_MC : PySem.W.kitOne K (.ref MC) (.ref MC) = some true)
    (n_MC__flags : PySem.W.findIn K (.ref MC) "_flags" = some none)
    (a_mi : PySem.W.findIn K (.ref MC) "__init__" = some (some (.ref f_mi)))
    (i_mi : PySem.W.isFn K (.ref f_mi) = true)
    (l_mi : K.lookup f_mi = some ⟨oc_mi, od_mi, .func (PySem.W.fnOf "__init__" "Marks.__init__" (defArgs s_Marks_init) (defBody s_Marks_init) (defScope s_Marks_init) .none kV_mi dc_mi pm_mi an_mi cd_mi ct_mi), sl_mi⟩)
    (c_mi : PySem.W.codeIn K cd_mi "Marks.__init__" = true)
    (k_mi : PySem.W.keepIn K (.ref f_mi) = true)
    (a_gi : PySem.W.findIn K (.ref MC) "__getitem__" = some (some (.ref f_gi)))
    (i_gi : PySem.W.isFn K (.ref f_gi) = true)
    (l_gi : K.lookup f_gi = some ⟨oc_gi, od_gi, .func (PySem.W.fnOf "__getitem__" "Marks.__getitem__" (defArgs s_Marks_getitem) (defBody s_Marks_getitem) (defScope s_Marks_getitem) .none kV_gi dc_gi pm_gi an_gi cd_gi ct_gi), sl_gi⟩)
    (c_gi : PySem.W.codeIn K cd_gi "Marks.__getitem__" = true)
    (k_gi : PySem.W.keepIn K (.ref f_gi) = true)
    (a_ms : PySem.W.findIn K (.ref MC) "__setitem__" = some (some (.ref f_ms)))
    (i_ms : PySem.W.isFn K (.ref f_ms) = true)
    (l_ms : K.lookup f_ms = some ⟨oc_ms, od_ms, .func (PySem.W.fnOf "__setitem__" "Marks.__setitem__" (defArgs s_Marks_setitem) (defBody s_Marks_setitem) (defScope s_Marks_setitem) .none kV_ms dc_ms pm_ms an_ms cd_ms ct_ms), sl_ms⟩)
    (c_ms : PySem.W.codeIn K cd_ms "Marks.__setitem__" = true)
    (k_ms : PySem.W.keepIn K (.ref f_ms) = true)
    (a_ml : PySem.W.findIn K (.ref MC) "__len__" = some (some (.ref f_ml)))
    (i_ml : PySem.W.isFn K (.ref f_ml) = true)
    (l_ml : K.lookup f_ml = some ⟨oc_ml, od_ml, .func (PySem.W.fnOf "__len__" "Marks.__len__" (defArgs s_Marks_len) (defBody s_Marks_len) (defScope s_Marks_len) .none kV_ml dc_ml pm_ml an_ml cd_ml ct_ml), sl_ml⟩)
    (c_ml : PySem.W.codeIn K cd_ml "Marks.__len__" = true)
    (k_ml : PySem.W.keepIn K (.ref f_ml) = true)
    (a_me : PySem.W.findIn K (.ref MC) "__eq__" = some (some (.ref f_me)))
    (i_me : PySem.W.isFn K (.ref f_me) = true)
    (l_me : K.lookup f_me = some ⟨oc_me, od_me, .func (PySem.W.fnOf "__eq__" "Marks.__eq__" (defArgs s_Marks_eq) (defBody s_Marks_eq) (defScope s_Marks_eq) .none kV_me dc_me pm_me an_me cd_me ct_me), sl_me⟩)
    (c_me : PySem.W.codeIn K cd_me "Marks.__eq__" = true)
    (k_me : PySem.W.keepIn K (.ref f_me) = true)
    (a_mle : PySem.W.findIn K (.ref MC) "__le__" = some (some (.ref f_mle)))
    (i_mle : PySem.W.isFn K (.ref f_mle) = true)
    (l_mle : K.lookup f_mle = some ⟨oc_mle, od_mle, .func (PySem.W.fnOf "__le__" "Marks.__le__" (defArgs s_Marks_le) (defBody s_Marks_le) (defScope s_Marks_le) .none kV_mle dc_mle pm_mle an_mle cd_mle ct_mle), sl_mle⟩)
    (c_mle : PySem.W.codeIn K cd_mle "Marks.__le__" = true)
    (k_mle : PySem.W.keepIn K (.ref f_mle) = true)
    (a_mo : PySem.W.findIn K (.ref MC) "__or__" = some (some (.ref f_mo)))
    (i_mo : PySem.W.isFn K (.ref f_mo) = true)
    (l_mo : K.lookup f_mo = some ⟨oc_mo, od_mo, .func (PySem.W.fnOf "__or__" "Marks.__or__" (defArgs s_Marks_or) (defBody s_Marks_or) (defScope s_Marks_or) .none kV_mo dc_mo pm_mo an_mo cd_mo ct_mo), sl_mo⟩)
    (c_mo : PySem.W.codeIn K cd_mo "Marks.__or__" = true)
    (k_mo : PySem.W.keepIn K (.ref f_mo) = true)
    (a_ma : PySem.W.findIn K (.ref MC) "__and__" = some (some (.ref f_ma)))
    (i_ma : PySem.W.isFn K (.ref f_ma) = true)
    (l_ma : K.lookup f_ma = some ⟨oc_ma, od_ma, .func (PySem.W.fnOf "__and__" "Marks.__and__" (defArgs s_Marks_and) (defBody s_Marks_and) (defScope s_Marks_and) .none kV_ma dc_ma pm_ma an_ma cd_ma ct_ma), sl_ma⟩)
    (c_ma : PySem.W.codeIn K cd_ma "Marks.__and__" = true)
    (k_ma : PySem.W.keepIn K (.ref f_ma) = true)
    (a_io : PySem.W.findIn K (.ref MC) "__ior__" = some (some (.ref f_io)))
    (i_io : PySem.W.isFn K (.ref f_io) = true)
    (l_io : K.lookup f_io = some ⟨oc_io, od_io, .func (PySem.W.fnOf "__ior__" "Marks.__ior__" (defArgs s_Marks_ior) (defBody s_Marks_ior) (defScope s_Marks_ior) .none kV_io dc_io pm_io an_io cd_io ct_io), sl_io⟩)
    (c_io : PySem.W.codeIn K cd_io "Marks.__ior__" = true)
    (k_io : PySem.W.keepIn K (.ref f_io) = true)
    (a_ia : PySem.W.findIn K (.ref MC) "__iand__" = some (some (.ref f_ia)))
    (i_ia : PySem.W.isFn K (.ref f_ia) = true)
    (l_ia : K.lookup f_ia = some ⟨oc_ia, od_ia, .func (PySem.W.fnOf "__iand__" "Marks.__iand__" (defArgs s_Marks_iand) (defBody s_Marks_iand) (defScope s_Marks_iand) .none kV_ia dc_ia pm_ia an_ia cd_ia ct_ia), sl_ia⟩)
    (c_ia : PySem.W.codeIn K cd_ia "Marks.__iand__" = true)
    (k_ia : PySem.W.keepIn K (.ref f_ia) = true)
    (nqM : PySem.W.noSeq K MC = true)
    (fnG : PySem.W.fnIn K f_gi = true)
    (neM : PySem.W.findIn K (.ref MC) "__ne__" = some (some (.builtin "object.__ne__")))
    (nfM : PySem.W.notFirst K MC (.ref MC) = true)
    (sfM : PySem.W.selfFirst K MC = true)
    (a_MD : PySem.W.nsIn K mainGlobals "Made" = some (some (.ref MD)))
    (pg_MD : PySem.W.plainGet K MD Str.empty = true)
    (hd_MD : PySem.W.hasDictIn K MD = true)
    (po_MD : PySem.W.plainOver K MD = true)
    (sa_MD : PySem.W.findIn K (.ref MD) "__setattr__" = some (some (.builtin "object.__setattr__")))
    (mk_MD : PySem.W.makesIn K MD = true)
    (kc_MD : PySem.W.keepIn K (.ref MD) = true)
    (cC_MD : PySem.W.findIn K (.ref MD) "__class__" = some (some (.builtin "object.__class__")))
    (cM_MD : PySem.W.mroIn K MD (.type "object") = some true)
    (kk_MD : PySem.W.kitOne K (.ref MD) (.ref MD) = some true)
    (n_MD_flags : PySem.W.findIn K (.ref MD) "flags" = some none)
    (a_di : PySem.W.findIn K (.ref MD) "__init__" = some (some (.ref f_di)))
    (i_di : PySem.W.isFn K (.ref f_di) = true)
    (l_di : K.lookup f_di = some ⟨oc_di, od_di, .func (PySem.W.fnOf "__init__" "Made.__init__" (defArgs s_Made_init) (defBody s_Made_init) (defScope s_Made_init) .none kV_di dc_di pm_di an_di cd_di ct_di), sl_di⟩)
    (c_di : PySem.W.codeIn K cd_di "Made.__init__" = true)
    (k_di : PySem.W.keepIn K (.ref f_di) = true)
    (kDi : PySem.W.kitOne K (.type "int") (.ref MD) = some false)
    (a_D : PySem.W.nsIn K mainGlobals "PagesError" = some (some (.ref D)))
    (rd_D : PySem.W.readsIn K D (.type "type") = true)
    (ga_D : PySem.W.specialIn K (.ref D) "__getattribute__" = some (some (.builtin "type.__getattribute__")))
    (up_D : PySem.W.findCls K (.ref D) (.type "type") "__init__" = some (.val (.builtin "ValueError.__init__")))
    (a_W : PySem.W.nsIn K mainGlobals "BadMarks" = some (some (.ref W)))
    (x_W : K.lookup W = some (excClassObj nm_W qn_W W ns_W bs_W bm_W true sn_W sb_W ab_W co_W dd_W m0_W m1_W m2_W m3_W m5_W "ValueError.__new__"))
    (rv_W : PySem.HandSPX.refsVE bm_W = true)
    (sa_W : PySem.W.findIn K (.ref W) "__setattr__" = some (some (.builtin "object.__setattr__")))
    (gt_W : PySem.W.findIn K (.ref W) "__getattribute__" = some (some (.builtin "BaseException.__getattribute__")))
    (gg_W : PySem.W.findIn K (.ref W) "__getattr__" = some none)
    (cC_W : PySem.W.findIn K (.ref W) "__class__" = some (some (.builtin "object.__class__")))
    (no_W : PySem.W.findIn K (.ref W) "at" = some none)
    (ex_W : PySem.W.subIn K (.ref W) (.type "BaseException") = some true)
    (ty_W : PySem.W.typeIn K (.ref W) = some (.type "type"))
    (kc_W : PySem.W.keepIn K (.ref W) = true)
    (hd_W : PySem.W.hasDictIn K W = true)
    (ic_W : (PySem.W.clsIn K W).isSome = true)
    (cM_W : PySem.W.mroIn K W (.type "object") = some true)
    (ss_W : PySem.W.subIn K (.ref W) (.ref W) = some true)
    (in_W : PySem.W.findIn K (.ref W) "__init__" = some (some (.ref f_iW)))
    (it_W : PySem.W.typeIn K (.ref f_iW) = some (.type "function"))
    (l_iW : K.lookup f_iW = some ⟨oc_iW, od_iW, .func (PySem.W.fnOf "__init__" "BadMarks.__init__" (defArgs s_BadMarks_init) (defBody s_BadMarks_init) (defScope s_BadMarks_init) .none kV_iW dc_iW pm_iW an_iW cd_iW ct_iW), sl_iW⟩)
    (c_iW : PySem.W.codeIn K cd_iW "BadMarks.__init__" = true)
    (k_iW : PySem.W.keepIn K (.ref f_iW) = true)
    (kWD : PySem.W.kitOne K (.ref W) (.ref D) = some true)
    (kWV : PySem.W.kitOne K (.ref W) (.type "ValueError") = some true)
    (mpg : PySem.W.nsIn K mainGlobals "MOST_PAGES" = some (some (.int 64 tm)))
    (z_len : PySem.W.nsIn K mainGlobals "len" = some none)
    (z_int : PySem.W.nsIn K mainGlobals "int" = some none)
    (z_bool : PySem.W.nsIn K mainGlobals "bool" = some none)
    (z_isinstance : PySem.W.nsIn K mainGlobals "isinstance" = some none)
    (z_range : PySem.W.nsIn K mainGlobals "range" = some none)
    (z_sum : PySem.W.nsIn K mainGlobals "sum" = some none)
    (z_list : PySem.W.nsIn K mainGlobals "list" = some none)
    (z_enumerate : PySem.W.nsIn K mainGlobals "enumerate" = some none)
    (z_all : PySem.W.nsIn K mainGlobals "all" = some none)
    (z_ValueError : PySem.W.nsIn K mainGlobals "ValueError" = some none) :
    ∃ fd : FuncData, (∀ (s : Shared) (v : Value), BindsTo s fd ⟨[v], []⟩ [("script", v)]) ∧ ∀ base : Heap, K.In base → base.Ns mainGlobals mg → FnOk l.prog w K mg base CX0 9 fa fd ["script"] (spLaw K) := by
  have e := hfa.symm.trans (PySem.W.mg_of X G a_law)
  cases e
  have F_is_whole := fun_mk (st := s_is_whole) l_is_whole c_is_whole k_is_whole
  have b_is_whole := F_is_whole.binds (ps := ["value"]) fun _ _ _ _ _ _ us hl => match us, hl with | [_], _ => rfl
  have F_is_between := fun_mk (st := s_is_between) l_is_between c_is_between k_is_between
  have b_is_between := F_is_between.binds (ps := ["value", "low", "high"]) fun _ _ _ _ _ _ us hl => match us, hl with | [_, _, _], _ => rfl
  have F_pairs := fun_mk (st := s_pairs) l_pairs c_pairs k_pairs
  have b_pairs := F_pairs.binds (ps := ["one", "other"]) fun _ _ _ _ _ _ us hl => match us, hl with | [_, _], _ => rfl
  have F_either := fun_mk (st := s_either) l_either c_either k_either
  have b_either := F_either.binds (ps := ["one", "other"]) fun _ _ _ _ _ _ us hl => match us, hl with | [_, _], _ => rfl
  have F_both := fun_mk (st := s_both) l_both c_both k_both
  have b_both := F_both.binds (ps := ["one", "other"]) fun _ _ _ _ _ _ us hl => match us, hl with | [_, _], _ => rfl
  have F_law_pot := fun_mk (st := s_law_pot) l_law_pot c_law_pot k_law_pot
  have b_law_pot := F_law_pot.binds (ps := ["script"]) fun _ _ _ _ _ _ us hl => match us, hl with | [_], _ => rfl
  have F_law_draw := fun_mk (st := s_law_draw) l_law_draw c_law_draw k_law_draw
  have b_law_draw := F_law_draw.binds (ps := ["pot", "many"]) fun _ _ _ _ _ _ us hl => match us, hl with | [_, _], _ => rfl
  have F_law_marks := fun_mk (st := s_law_marks) l_law_marks c_law_marks k_law_marks
  have b_law_marks := F_law_marks.binds (ps := ["truths"]) fun _ _ _ _ _ _ us hl => match us, hl with | [_], _ => rfl
  have F_law_truths := fun_mk (st := s_law_truths) l_law_truths c_law_truths k_law_truths
  have b_law_truths := F_law_truths.binds (ps := ["marks"]) fun _ _ _ _ _ _ us hl => match us, hl with | [_], _ => rfl
  have F_law_refused := fun_mk (st := s_law_refused) l_law_refused c_law_refused k_law_refused
  have b_law_refused := F_law_refused.binds (ps := ["one", "other", "word"]) fun _ _ _ _ _ _ us hl => match us, hl with | [_, _, _], _ => rfl
  have F_law_in_place := fun_mk (st := s_law_in_place) l_law_in_place c_law_in_place k_law_in_place
  have b_law_in_place := F_law_in_place.binds (ps := ["one", "other", "a", "b", "joined", "cut"]) fun _ _ _ _ _ _ us hl => match us, hl with | [_, _, _, _, _, _], _ => rfl
  have F_law := fun_mk (st := s_law) l_law c_law k_law
  have F_mi := fun_mk (st := s_Marks_init) l_mi c_mi k_mi
  have b_mi := F_mi.binds (ps := ["self", "many"]) fun _ _ _ _ _ _ us hl => match us, hl with | [_, _], _ => rfl
  have F_gi := fun_mk (st := s_Marks_getitem) l_gi c_gi k_gi
  have b_gi := F_gi.binds (ps := ["self", "at"]) fun _ _ _ _ _ _ us hl => match us, hl with | [_, _], _ => rfl
  have F_ms := fun_mk (st := s_Marks_setitem) l_ms c_ms k_ms
  have b_ms := F_ms.binds (ps := ["self", "at", "value"]) fun _ _ _ _ _ _ us hl => match us, hl with | [_, _, _], _ => rfl
  have F_ml := fun_mk (st := s_Marks_len) l_ml c_ml k_ml
  have b_ml := F_ml.binds (ps := ["self"]) fun _ _ _ _ _ _ us hl => match us, hl with | [_], _ => rfl
  have F_me := fun_mk (st := s_Marks_eq) l_me c_me k_me
  have b_me := F_me.binds (ps := ["self", "other"]) fun _ _ _ _ _ _ us hl => match us, hl with | [_, _], _ => rfl
  have F_mle := fun_mk (st := s_Marks_le) l_mle c_mle k_mle
  have b_mle := F_mle.binds (ps := ["self", "other"]) fun _ _ _ _ _ _ us hl => match us, hl with | [_, _], _ => rfl
  have F_mo := fun_mk (st := s_Marks_or) l_mo c_mo k_mo
  have b_mo := F_mo.binds (ps := ["self", "other"]) fun _ _ _ _ _ _ us hl => match us, hl with | [_, _], _ => rfl
  have F_ma := fun_mk (st := s_Marks_and) l_ma c_ma k_ma
  have b_ma := F_ma.binds (ps := ["self", "other"]) fun _ _ _ _ _ _ us hl => match us, hl with | [_, _], _ => rfl
  have F_io := fun_mk (st := s_Marks_ior) l_io c_io k_io
  have b_io := F_io.binds (ps := ["self", "other"]) fun _ _ _ _ _ _ us hl => match us, hl with | [_, _], _ => rfl
  have F_ia := fun_mk (st := s_Marks_iand) l_ia c_ia k_ia
  have b_ia := F_ia.binds (ps := ["self", "other"]) fun _ _ _ _ _ _ us hl => match us, hl with | [_, _], _ => rfl
  have F_di := fun_mk (st := s_Made_init) l_di c_di k_di
  have b_di := F_di.binds (ps := ["self", "flags"]) fun _ _ _ _ _ _ us hl => match us, hl with | [_, _], _ => rfl
  have F_iW := fun_mk (st := s_BadMarks_init) l_iW c_iW k_iW
  have b_iW := F_iW.binds (ps := ["self", "at"]) fun _ _ _ _ _ _ us hl => match us, hl with | [_, _], _ => rfl
  have ox_W : OexC K W := ⟨⟨_, _, _, _, _, _, _, _, _, _, _, _, _, _, _, x_W, rv_W⟩, sa_W, ex_W, ty_W, kc_W⟩
  refine ⟨PySem.W.fnOf "law" "law" (defArgs s_law) (defBody s_law) (defScope s_law) .none kV_law dc_law pm_law an_law cd_law ct_law, fun s v => .of_eq rfl, fun base _ _ => ?_⟩
  have mz : ∀ {n : Str}, PySem.W.nsIn K mainGlobals n = some none → mg n = none := fun z => PySem.W.mg_none_of X G z
  have TI : NmI mg := ⟨mz z_isinstance, mz z_int, mz z_bool⟩
  have GW := ok_wholeG (P := l.prog) (w := w) (base := base) F_is_whole TI
  have GB := ok_betwG F_is_between GW k_is_whole b_is_whole (PySem.W.mg_of X G a_is_whole)
  have CBt : Cal l.prog w K mg base CX0 2 f_is_between _ "is_between" ["value", "low", "high"] (spBetwG K) := ⟨GB, k_is_between, b_is_between, PySem.W.mg_of X G a_is_between⟩
  have GD : FnOk l.prog w K mg base CX0 1 f_law_draw _ ["pot", "many"] spDraw := ok_draw F_law_draw (mz z_int) (mz z_len)
  have MT : MkT K mg MC MD := ⟨⟨pg_MC, hd_MC, po_MC, sa_MC⟩, n_MC__flags, PySem.W.mg_of X G a_MD, mz z_isinstance, mz z_bool, mz z_len, mz z_list, mz z_enumerate, mz z_sum, ⟨tm, PySem.W.mg_of X G mpg⟩⟩
  have erW : Err l.prog w K mg base "BadMarks" "at" W f_iW _ (spErr K "at") := ⟨ox_W, no_W, PySem.W.mg_of X G a_W, in_W, it_W, ok_BadMarks_init F_iW (PySem.W.mg_of X G a_D) ⟨⟨rd_D, ga_D⟩, up_D⟩, b_iW⟩
  have SU : Sui K W "at" := ⟨⟨ic_W, gt_W, gg_W, ex_W, cC_W, cG, cT, cM_W⟩, ⟨gt_W, gg_W, ex_W, hd_W⟩, no_W, PySem.W.exm_ref ex_W hd_W ty_W ss_W⟩
  have KW : KitW K mg W D := ⟨mz z_isinstance, PySem.W.mg_of X G a_W, PySem.W.mg_of X G a_D, mz z_ValueError, kWD, kWV⟩
  have gM := PySem.W.mg_of X G a_MC
  have CM : MkC K MC := ⟨MT.cl, cC_MC, cG, cT, cM_MC, kk_MC⟩
  have clD : Cls K MD := ⟨pg_MD, hd_MD, po_MD, sa_MD⟩
  have CD : MkC K MD := ⟨clD, cC_MD, cG, cT, cM_MD, kk_MD⟩
  have MM : Mk K MC f_mi := ⟨mk_MC, a_mi, i_mi, kc_MC⟩
  have MMD : Mk K MD f_di := ⟨mk_MD, a_di, i_di, kc_MD⟩
  have FI := ok_mk_init F_mi MT CBt erW
  have FS := Vx.fnR (ok_mk_set F_ms MT CBt erW) b_ms
  have FG := Vx.fnR (ok_mk_get F_gi MT CBt erW) b_gi
  have FM := ok_mk_initM (P := l.prog) (w := w) (base := base) F_mi MT CD n_MD_flags
  have FD := ok_md_init (P := l.prog) (w := w) (mg := mg) (base := base) F_di clD n_MD_flags
  have O2 : Own2 l.prog w K mg base MC W f_ml f_gi := ⟨a_ml, i_ml, Vx.fnR (ok_mk_len F_ml MT) b_ml, a_gi, fnG, i_gi, FG, mz z_len, mz z_range⟩
  have PR : Cal l.prog w K mg base (L2.CX l.prog w) 5 f_pairs _ "_pairs" ["one", "other"] (spPairs MC W) := ⟨ok_pairs F_pairs O2 erW, k_pairs, b_pairs, PySem.W.mg_of X G a_pairs⟩
  have CE : Cal l.prog w K mg base (L2.CX l.prog w) 6 f_either _ "_either" ["one", "other"] (spJn MC W or) := ⟨ok_either F_either PR, k_either, b_either, PySem.W.mg_of X G a_either⟩
  have CB : Cal l.prog w K mg base (L2.CX l.prog w) 6 f_both _ "_both" ["one", "other"] (spJn MC W and) := ⟨ok_both F_both PR, k_both, b_both, PySem.W.mg_of X G a_both⟩
  have OO : Ops l.prog w K mg base MC W f_mo f_ma f_io f_ia := ⟨sfM, a_mo, i_mo, Vx.fnR (ok_or F_mo MT CM gM MM FM b_mi MMD FD b_di CE) b_mo, a_ma, i_ma, Vx.fnR (ok_and F_ma MT CM gM MM FM b_mi MMD FD b_di CB) b_ma, a_io, i_io, Vx.fnR (ok_ior F_io MT CM gM CE) b_io, a_ia, i_ia, Vx.fnR (ok_iand F_ia MT CM gM CB) b_ia⟩
  have MF : MkF l.prog w K mg base MC MD W f_mi f_ms _ := ⟨MM, gM, FI, b_mi, nqM, a_ms, i_ms, FS, kDi⟩
  have LT : LawT l.prog w K mg base MC f_law_truths f_law_marks f_mle _ _ := ⟨⟨ok_truths F_law_truths O2, k_law_truths, b_law_truths, PySem.W.mg_of X G a_law_truths⟩, ⟨ok_marks F_law_marks MF (mz z_len) (mz z_enumerate), k_law_marks, b_law_marks, PySem.W.mg_of X G a_law_marks⟩, a_mle, i_mle, Vx.fnR (ok_le F_mle MT CM gM (mz z_all) O2 PR) b_mle, nfM, CM⟩
  exact ok_law F_law { pot := ⟨ok_pot F_law_pot (mz z_int), k_law_pot, b_law_pot, PySem.W.mg_of X G a_law_pot⟩, draw := ⟨GD, k_law_draw, b_law_draw, PySem.W.mg_of X G a_law_draw⟩, refd := ⟨ok_ref F_law_refused OO SU KW, k_law_refused, b_law_refused, PySem.W.mg_of X G a_law_refused⟩, inpl := ⟨ok_in_place F_law_in_place OO MF LT, k_law_in_place, b_law_in_place, PySem.W.mg_of X G a_law_in_place⟩, M := MF, L := LT, O := OO, eqA := a_me, eqF := i_me, FE := Vx.fnR (ok_mk_eq F_me MT CM gM) b_me, ne := neM, range := mz z_range, len := mz z_len }
theorem walk {l : PySem.W.OpenLaw} {q : Program} {loose : List Str} {XP : (Str → Option Value) → Heap → Prop} {YP : World → Heap → Prop} {d : DefRec} {K : Params → PySem.W.Frag} (hn : l.most = some 63) (hdf : d.params.defaults = [])
    (hY : ∀ (w : World) (h : Heap), YP w h → (K w.params).In h)
    (F : ∀ (w : World) (mg : Str → Option Value) (fa : Addr) (h : Heap), (K w.params).In h → h.Ns mainGlobals mg → mg d.name = some (.ref fa) →
      ∃ fd : FuncData, (∀ (s : Shared) (u : Value), BindsTo s fd ⟨[u], []⟩ [("script", u)]) ∧ ∀ base : Heap, (K w.params).In base → base.Ns mainGlobals mg → FnOk l.prog w (K w.params) mg base CX0 9 fa fd ["script"] (spLaw (K w.params))) :
    PySem.W.WalkO q loose XP YP l.row.toRowW d [] (fun f vs => PySem.call f vs) :=
  L2.walk_of (n := 63) (k := 9) (x := "script") (CX := fun _ => CX0) (sp := fun w => spLaw (K w.params)) hn (by decide) hdf ⟨rfl, by decide, by decide⟩ hY F (fun _ _ a ns hl _ hS => ⟨a, ns, rfl, hS, hl, fun _ => rfl⟩) fun _ _ _ _ _ z => z
end Toy
open PySem PySem.W PyProof.Rows in
set_option maxRecDepth 100000 in
set_option maxHeartbeats 0 in
theorem PySem.Challenge.cw_trustedpages_k12_marks_joined_and_cut_holds : PySem.Challenge.rw_trustedpages_k12_marks_joined_and_cut.Holds := by
  w_on; o_law; k_head; (case hw => w_witness2)
  k_fill
  refine Toy.walk (l := PySem.Challenge.rw_trustedpages_k12_marks_joined_and_cut) rfl rfl (fun w h Y => PySem.W.kIn_of Y) ?F
  case F =>
    intro w mg fa h KX G hmg
    refine' Toy.all_mk KX G hmg ?a_is_whole ?l_is_whole ?c_is_whole ?k_is_whole ?a_is_between ?l_is_between ?c_is_between ?k_is_between ?a_pairs ?l_pairs ?c_pairs ?k_pairs ?a_either ?l_either ?c_either ?k_either ?a_both ?l_both ?c_both ?k_both ?a_law_pot ?l_law_pot ?c_law_pot ?k_law_pot ?a_law_draw ?l_law_draw ?c_law_draw ?k_law_draw ?a_law_marks ?l_law_marks ?c_law_marks ?k_law_marks ?a_law_truths ?l_law_truths ?c_law_truths ?k_law_truths ?a_law_refused ?l_law_refused ?c_law_refused ?k_law_refused ?a_law_in_place ?l_law_in_place ?c_law_in_place ?k_law_in_place ?a_law ?l_law ?c_law ?k_law ?cG ?cT ?a_MC ?pg_MC ?hd_MC ?po_MC ?sa_MC ?mk_MC ?kc_MC ?cC_MC ?cM_MC ?kk_MC ?n_MC__flags ?a_mi ?i_mi ?l_mi ?c_mi ?k_mi ?a_gi ?i_gi ?l_gi ?c_gi ?k_gi ?a_ms ?i_ms ?l_ms ?c_ms ?k_ms ?a_ml ?i_ml ?l_ml ?c_ml ?k_ml ?a_me ?i_me ?l_me ?c_me ?k_me ?a_mle ?i_mle ?l_mle ?c_mle ?k_mle ?a_mo ?i_mo ?l_mo ?c_mo ?k_mo ?a_ma ?i_ma ?l_ma ?c_ma ?k_ma ?a_io ?i_io ?l_io ?c_io ?k_io ?a_ia ?i_ia ?l_ia ?c_ia ?k_ia ?nqM ?fnG ?neM ?nfM ?sfM ?a_MD ?pg_MD ?hd_MD ?po_MD ?sa_MD ?mk_MD ?kc_MD ?cC_MD ?cM_MD ?kk_MD ?n_MD_flags ?a_di ?i_di ?l_di ?c_di ?k_di ?kDi ?a_D ?rd_D ?ga_D ?up_D ?a_W ?x_W ?rv_W ?sa_W ?gt_W ?gg_W ?cC_W ?no_W ?ex_W ?ty_W ?kc_W ?hd_W ?ic_W ?cM_W ?ss_W ?in_W ?it_W ?l_iW ?c_iW ?k_iW ?kWD ?kWV ?mpg ?z_len ?z_int ?z_bool ?z_isinstance ?z_range ?z_sum ?z_list ?z_enumerate ?z_all ?z_ValueError
    (case a_is_whole => k_is)
    (case l_is_whole => k_is)
    (case c_is_whole => k_is)
    (case k_is_whole => k_is)
    (case a_is_between => k_is)
    (case l_is_between => k_is)
    (case c_is_between => k_is)
    (case k_is_between => k_is)
    (case a_pairs => k_is)
    (case l_pairs => k_is)
    (case c_pairs => k_is)
    (case k_pairs => k_is)
    (case a_either => k_is)
    (case l_either => k_is)
    (case c_either => k_is)
    (case k_either => k_is)
    (case a_both => k_is)
    (case l_both => k_is)
    (case c_both => k_is)
    (case k_both => k_is)
    (case a_law_pot => k_is)
    (case l_law_pot => k_is)
    (case c_law_pot => k_is)
    (case k_law_pot => k_is)
    (case a_law_draw => k_is)
    (case l_law_draw => k_is)
    (case c_law_draw => k_is)
    (case k_law_draw => k_is)
    (case a_law_marks => k_is)
    (case l_law_marks => k_is)
    (case c_law_marks => k_is)
    (case k_law_marks => k_is)
    (case a_law_truths => k_is)
    (case l_law_truths => k_is)
    (case c_law_truths => k_is)
    (case k_law_truths => k_is)
    (case a_law_refused => k_is)
    (case l_law_refused => k_is)
    (case c_law_refused => k_is)
    (case k_law_refused => k_is)
    (case a_law_in_place => k_is)
    (case l_law_in_place => k_is)
    (case c_law_in_place => k_is)
    (case k_law_in_place => k_is)
    (case a_law => k_is)
    (case l_law => k_is)
    (case c_law => k_is)
    (case k_law => k_is)
    (case cG => k_is)
    (case cT => k_is)
    (case a_MC => k_is)
    (case pg_MC => k_is)
    (case hd_MC => k_is)
    (case po_MC => k_is)
    (case sa_MC => k_is)
    (case mk_MC => k_is)
    (case kc_MC => k_is)
    (case cC_MC => k_is)
    (case cM_MC => k_is)
    (case kk_MC => exact if_pos (beq_self_eq_true _))
    (case n_MC__flags => k_is)
    (case a_mi => k_is)
    (case i_mi => k_is)
    (case l_mi => k_is)
    (case c_mi => k_is)
    (case k_mi => k_is)
    (case a_gi => k_is)
    (case i_gi => k_is)
    (case l_gi => k_is)
    (case c_gi => k_is)
    (case k_gi => k_is)
    (case a_ms => k_is)
    (case i_ms => k_is)
    (case l_ms => k_is)
    (case c_ms => k_is)
    (case k_ms => k_is)
    (case a_ml => k_is)
    (case i_ml => k_is)
    (case l_ml => k_is)
    (case c_ml => k_is)
    (case k_ml => k_is)
    (case a_me => k_is)
    (case i_me => k_is)
    (case l_me => k_is)
    (case c_me => k_is)
    (case k_me => k_is)
    (case a_mle => k_is)
    (case i_mle => k_is)
    (case l_mle => k_is)
    (case c_mle => k_is)
    (case k_mle => k_is)
    (case a_mo => k_is)
    (case i_mo => k_is)
    (case l_mo => k_is)
    (case c_mo => k_is)
    (case k_mo => k_is)
    (case a_ma => k_is)
    (case i_ma => k_is)
    (case l_ma => k_is)
    (case c_ma => k_is)
    (case k_ma => k_is)
    (case a_io => k_is)
    (case i_io => k_is)
    (case l_io => k_is)
    (case c_io => k_is)
    (case k_io => k_is)
    (case a_ia => k_is)
    (case i_ia => k_is)
    (case l_ia => k_is)
    (case c_ia => k_is)
    (case k_ia => k_is)
    (case nqM => k_is)
    (case fnG => k_is)
    (case neM => k_is)
    (case nfM => k_is)
    (case sfM => k_is)
    (case a_MD => k_is)
    (case pg_MD => k_is)
    (case hd_MD => k_is)
    (case po_MD => k_is)
    (case sa_MD => k_is)
    (case mk_MD => k_is)
    (case kc_MD => k_is)
    (case cC_MD => k_is)
    (case cM_MD => k_is)
    (case kk_MD => exact if_pos (beq_self_eq_true _))
    (case n_MD_flags => k_is)
    (case a_di => k_is)
    (case i_di => k_is)
    (case l_di => k_is)
    (case c_di => k_is)
    (case k_di => k_is)
    (case kDi => kit_is)
    (case a_D => k_is)
    (case rd_D => k_is)
    (case ga_D => k_is)
    (case up_D => k_is)
    (case a_W => k_is)
    (case x_W => k_is)
    (case rv_W => decide +kernel)
    (case sa_W => k_is)
    (case gt_W => k_is)
    (case gg_W => k_is)
    (case cC_W => k_is)
    (case no_W => k_is)
    (case ex_W => k_is)
    (case ty_W => k_is)
    (case kc_W => k_is)
    (case hd_W => k_is)
    (case ic_W => first | rfl | k_is)
    (case cM_W => k_is)
    (case ss_W => first | rfl | k_is)
    (case in_W => k_is)
    (case it_W => k_is)
    (case l_iW => k_is)
    (case c_iW => k_is)
    (case k_iW => k_is)
    (case kWD => kit_is)
    (case kWV => kit_is)
    (case mpg => k_is)
    (case z_len => k_is)
    (case z_int => k_is)
    (case z_bool => k_is)
    (case z_isinstance => k_is)
    (case z_range => k_is)
    (case z_sum => k_is)
    (case z_list => k_is)
    (case z_enumerate => k_is)
    (case z_all => k_is)
    (case z_ValueError => k_is)
