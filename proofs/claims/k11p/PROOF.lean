import PyProof.Rows.All
import Wide.All
import OpenK.AllK
import Wide.FinOn
import PyProof.EqAt
import PyProof.EqKinds
import PyProof.TupleCall
import KE.KOpsOwn
import HandS.ForMost
import HandS.OwnEq
import HandS.Star
import HandS.ClsMeth
import HandS.IsInst
import HandS.Codes
import HandS.Flow
import HandS.Wide
import PySem.Challenge.RW_trustedpages_k11_marks_deeds
import KE.KExcIs
import HandS.ExcInit
import HandS.ExcField
import HandS.ExcIs
import HandS.ExcOwn
import HandS.MakeKw
import HandS.MakeKwOnly
import HandS.Defaults
import HandS.Property
import HandS.WordsExc
import PyProof.ReprRoads
import PyProof.CallFns
import HandS.Ends
import HandS.Walk
import Open.Row
import KE.RegKIsAll
set_option Elab.async false
set_option linter.all false
set_option maxRecDepth 100000
set_option maxHeartbeats 2000000
/-! own operators, static methods, an own class called with a star -/
namespace Vx
open PySem PySem.Spec PyProof.Rows L2
section
variable {P : Program} {w : World} {K : PySem.W.Frag} {mg : Str → Option Value} {base : Heap} {CX : CXT} {k : Nat} {f : Addr} {fd : FuncData} {ps : List Str} {sp : Sp}
theorem fnR (F : FnOk P w K mg base CX k f fd ps sp) (hb : L2.Binds K fd ps []) : FnR P w K mg base CX k f sp := by
  intro A outer s H us vs Q E hr e0 r hsp
  have hl := F.len _ _ _ _ hsp
  have KX : K.In s.heap := e0.mod.kin.keeps fun b o e => (e0.bs b o e).1
  refine F.run A outer s H ⟨us, []⟩ us vs Q E hr e0 ?_ r hsp
  have := hb s us KX (by rw [List.append_nil, ← r.length]; exact hl)
  simpa using this
end
section
variable {X : Cx} {CX : CXT} {k : Nat} {C f : Addr} {sp : Sp} {E : XK} {pins : List (Addr × Obj)} {σ : L2.St} {H : Hp} {s : Shared} {Q : VK}
theorem cmpBack_of {v : Value} {s' : Shared} (h : EP X pins σ Q v s') : PySem.W.CmpBack (EP X pins σ Q) v s' := by
  cases v with
  | notImplemented =>
    obtain ⟨v', H', I', r, q⟩ := h
    cases v' with
    | int i => obtain ⟨t, e⟩ := r; cases e
    | str i => obtain ⟨t, e⟩ := r; cases e
    | byt i => obtain ⟨t, e⟩ := r; cases e
    | flt i => obtain ⟨t, e⟩ := r; cases e
    | non => cases r
    | bl b => cases r
    | ref a => cases r
    | ty n => cases r
  | _ => exact h
theorem call_cmp {us : List Value} {vs : List V} (F : FnR X.prog X.w X.K X.mg X.base CX k f sp) (hr : Room k X.A) (hx : Passes CX X E) (I : L2.Inv X pins σ H s) (r : Vals vs us) (h : sp vs H Q E) :
    wpAny (model X.prog X.w) X.A (call (.ref f) us) (PySem.W.CmpBack (EP X pins σ Q)) X.xe s :=
  wpAny_mono (wpAny_call (run_fnR F hr hx I r h)) (fun _ _ z => cmpBack_of z) fun _ _ z => z
/-- o op y by the own method of o's class; y of the same class, or an int -/
def rOwn (C : Addr) (sp : Sp) (E : XK) : R2 := fun x y H Q => (∃ a dx fs, x = .ref a ∧ H a = some (.ins C dx fs)) ∧ ((∃ b dy gs, y = .ref b ∧ H b = some (.ins C dy gs)) ∨ ∃ i, y = .int i) ∧ sp [x, y] H Q E
/-- what the text says of an operator of the class at C -/
structure OpF (K : PySem.W.Frag) (C f : Addr) (op : Operator) : Prop where
  sf : PySem.W.selfFirst K C = true
  at_ : PySem.W.findIn K (.ref C) (PySem.dunder op.info.2) = some (some (.ref f))
  fn : PySem.W.isFn K (.ref f) = true
  rf : ∃ rc, PySem.W.findIn K (.ref C) (PySem.dunderR op.info.2) = some rc ∧ (rc = none ∨ ∃ g : Addr, rc = some (.ref g))
  i1 : ∃ fo, PySem.W.findIn K (.type "int") (PySem.dunder op.info.2) = some fo
  i2 : ∃ ro, PySem.W.findIn K (.type "int") (PySem.dunderR op.info.2) = some ro
  sub : PySem.W.subIn K (.type "int") (.ref C) = some false
theorem op_own {op : Operator} (O : OpF X.K C f op) (F : FnR X.prog X.w X.K X.mg X.base CX k f sp) (hr : Room k X.A) (hx : Passes CX X E) : OpR X (binaryOp op) (rOwn C sp E) := by
  intro pins s σ H x y v u Q I rx ry hq
  obtain ⟨⟨a, dx, fs, rfl, ha⟩, hy, hsp⟩ := hq
  have ev : v = Value.ref a := rx
  have cl := call_cmp F hr hx I (us := [v, u]) (vs := [V.ref a, y]) (.cons rx (.cons ry .nil)) hsp
  subst ev
  obtain ⟨mA, J, _⟩ := ins_get I.hok ha
  obtain ⟨od, J, _⟩ := J.look
  obtain ⟨m, hF⟩ := I.fr
  rcases hy with ⟨b, dy, gs, rfl, hb⟩ | ⟨i, rfl⟩
  · have eu : u = Value.ref b := ry
    subst eu
    obtain ⟨mB, J', _⟩ := ins_get I.hok hb
    obtain ⟨od', J', _⟩ := J'.look
    exact PySem.W.binop_K hF I.ok.mod.kin J J'.type O.sf O.at_ O.fn cl
  · obtain ⟨t, rfl⟩ := ry
    obtain ⟨rc, r1, r2⟩ := O.rf
    obtain ⟨fo, i1⟩ := O.i1
    obtain ⟨ro, i2⟩ := O.i2
    exact PySem.W.ksp_binT (T := "int") hF I.ok.mod.kin J rfl O.sf O.at_ O.fn r1 r2 i1 i2 O.sub cl
/-- o cmp y by the own method, y of the same class -/
def rCmp (C : Addr) (sp : Sp) (E : XK) : R2 := fun x y H Q => (∃ a dx fs, x = .ref a ∧ H a = some (.ins C dx fs)) ∧ (∃ b dy gs, y = .ref b ∧ H b = some (.ins C dy gs)) ∧ sp [x, y] H Q E
theorem op_cmpOwn {op : CmpOp} (hc : ∀ v u, compareOp op v u = richCompare op v u) (nf : PySem.W.notFirst X.K C (.ref C) = true) (at_ : PySem.W.findIn X.K (.ref C) (cmpInfo op).2.1 = some (some (.ref f))) (fn : PySem.W.isFn X.K (.ref f) = true)
    (F : FnR X.prog X.w X.K X.mg X.base CX k f sp) (hr : Room k X.A) (hx : Passes CX X E) : OpR X (compareOp op) (rCmp C sp E) := by
  intro pins s σ H x y v u Q I rx ry hq
  obtain ⟨⟨a, dx, fs, rfl, ha⟩, ⟨b, dy, gs, rfl, hb⟩, hsp⟩ := hq
  have ev : v = Value.ref a := rx
  have eu : u = Value.ref b := ry
  have cl := call_cmp F hr hx I (us := [v, u]) (vs := [V.ref a, V.ref b]) (.cons rx (.cons ry .nil)) hsp
  subst ev eu
  obtain ⟨mA, J, _⟩ := ins_get I.hok ha
  obtain ⟨od, J, _⟩ := J.look
  obtain ⟨mB, J', _⟩ := ins_get I.hok hb
  obtain ⟨od', J', _⟩ := J'.look
  obtain ⟨m, hF⟩ := I.fr
  rw [hc]
  exact PySem.W.cmp_K hr.units0 hF I.ok.mod.kin J J'.type nf at_ fn cl
/-- x in o by the own method -/
def rInOwn (C : Addr) (sp : Sp) (E : XK) (neg : Bool) : R2 := fun x y H Q => (∃ a dx fs, y = .ref a ∧ H a = some (.ins C dx fs)) ∧ sp [y, x] H (fun v H' => ∃ b, v = .bl b ∧ Q (.bl (if neg then !b else b)) H') E
theorem op_inOwn (at_ : PySem.W.findIn X.K (.ref C) "__contains__" = some (some (.ref f))) (fn : PySem.W.isFn X.K (.ref f) = true)
    (F : FnR X.prog X.w X.K X.mg X.base CX k f sp) (hr : Room k X.A) (hx : Passes CX X E) : OpR X (compareOp .In) (rInOwn C sp E false) := by
  intro pins s σ H x y v u Q I rx ry hq
  obtain ⟨⟨a, dx, fs, rfl, ha⟩, hsp⟩ := hq
  have eu : u = Value.ref a := ry
  have cl := wpAny_call (run_fnR (us := [u, v]) (vs := [V.ref a, x]) F hr hx I (.cons ry (.cons rx .nil)) hsp)
  subst eu
  obtain ⟨mA, J, _⟩ := ins_get I.hok ha
  obtain ⟨od, J, _⟩ := J.look
  obtain ⟨m, hF⟩ := I.fr
  refine PySem.W.in_K hF I.ok.mod.kin J at_ fn (wpAny_mono cl (fun r s' z => ?_) fun _ _ z => z)
  obtain ⟨v', H', I', rv, b, rfl, q⟩ := z
  have er : r = Value.bool b := rv
  subst er
  exact wpAny_truthy_bool ⟨.bl b, H', I', rfl, q⟩
end
/-! static methods -/
structure SMet (K : PySem.W.Frag) (C : Addr) (mc : Value) (m : Str) (p g : Addr) : Prop where
  at_ : PySem.W.findCls K (.ref C) mc m = some (.get (.builtin "staticmethod.__get__") (.ref p) .none (.ref C))
  rc : ∃ rest, PySem.W.recIn K p "staticmethod" = some (.ref g :: rest)
  kp : PySem.W.keepIn K (.ref g) = true
def tSMeth (C : Addr) (sp : Sp) (E : XK) (ta : TE) (t : TA) : TE := fun σ H Q => ta σ H fun x H1 => x = .ref C ∧ t σ H1 fun vs H2 => sp vs H2 Q E
section
variable {X : Cx} {CX : CXT} {k : Nat} {C p g : Addr} {mc : Value} {sp : Sp} {E : XK} {o e : Expr} {es : List Expr} {m : Str} {pos apos : Pos} {ta : TE} {t : TA} {pl : Sem Bool}
theorem pe_smeth (he : PE X o ta) (r : ClX.CRead X.K C mc) (c : SMet X.K C mc m p g) (F : FnR X.prog X.w X.K X.mg X.base CX k g sp) (hr : Room k X.A) (hx : Passes CX X E) (ha : PA X (e :: es) t)
    (hst : starEach (e :: es) X.env = (false, eval e X.env) :: starEach es X.env := by rfl) (hpl : (backTo pos (starEach es X.env)).any (·.1) = false := by rfl)
    (ht : eval (.Call (.Attribute o m apos) (e :: es) [] pos) X.env = (do
      let ov ← eval o X.env
      standAt apos.atName
      let (f, first) ← holding [ov] (getMethod ov m pl)
      callWith pos f first (backTo pos (starEach (e :: es) X.env)) (backToKw pos (keywordEach [] X.env))) := by rfl) :
    PE X (.Call (.Attribute o m apos) (e :: es) [] pos) (tSMeth C sp E ta t) := by
  refine ⟨fun pins s σ H Q I h => ?_⟩
  refine PySem.W.methodCall_KW (pl := pl) (thn (he.run pins s σ H _ I h) fun u s1 ⟨x, H1, I1, rx, ex, q⟩ => ?_) ht
  subst ex
  obtain rfl : u = Value.ref C := rx
  obtain ⟨rest, hp⟩ := c.rc
  refine PySem.W.method_cls I1.kIn r.ga (PySem.W.cls_bind I1.kIn r.rd c.at_ (wpAny_call (PySem.W.sm_get (s := { s1 with toks := s1.toks + 1 }) I1.kIn hp (PySem.W.handed_on rfl ?_))))
  have I2 : L2.Inv X pins σ H1 { s1 with toks := s1.toks + 1 } := I1.tok _
  refine PySem.W.callWith_K (h₀ := X.base) I2.ok.mod.kin c.kp (thn (ha.run pos pins _ σ H1 _ I2 q) fun us s3 ⟨vs, H2, I3, rv, q2⟩ => ⟨I3.kIn, ?_⟩) hst hpl
  exact wpAny_call (run_fnR F hr hx I3 rv q2)
end
/-! C(*xs) -/
section
variable {X : Cx} {CX : CXT} {k : Nat} {f C : Addr} {sp : Sp} {E : XK} {x : Str} {e : Expr} {te : TE} {p pos sp_ : Pos}
def tMakeS (K : PySem.W.Frag) (C : Addr) (sp : Sp) (E : XK) (te : TE) : TE := fun σ H Q => te σ H fun y H1 => ∃ a xs, y = V.ref a ∧ (SqT K H1 a xs ∨ SqL K H1 a xs) ∧ ∀ x dx, H1 x = Option.none → H1 dx = Option.none → dx ≠ x →
  sp (V.ref x :: xs) (upd (upd H1 dx (.own x)) x (.ins C dx [])) (fun v H2 => v = .non ∧ Q (.ref x) H2) E
theorem pe_makeS (M : Mk X.K C f) (F : FnR X.prog X.w X.K X.mg X.base CX k f sp) (hr : Room (k + 1) X.A) (hg : Gl X x) (hm : X.mg x = some (.ref C)) (hx : Passes CX X E) (he : PE X e te) (hd : (x == ("__debug__" : Str)) = false := by decide)
    (hst : starEach [.Starred e sp_] X.env = [(true, eval e X.env)] := by rfl) :
    PE X (.Call (.Name x p) [.Starred e sp_] [] pos) (tMakeS X.K C sp E te) := by
  refine ⟨fun pins s σ H Q I h => ?_⟩
  refine wpAny_Call_Name_kw (ld_glob I hg hm ?_ hd)
  refine PySem.W.callWith_S (h₀ := X.base) I.ok.mod.kin M.kp (thn (he.run pins s σ H _ I h) fun v s1 ⟨y, H1, I1, ry, a, xs, ey, hxs, q⟩ => ?_) hst
  subst ey
  obtain rfl : v = Value.ref a := ry
  exact StX.star_any I1 hxs fun us s2 I2 rv => ⟨I2.kIn, StX.run_makeR M F hr hx I2 rv q⟩
def tMakeZ (C : Addr) (sp : Sp) (E : XK) : TE := fun _ H Q => ∀ x dx, H x = Option.none → H dx = Option.none → dx ≠ x →
  sp [V.ref x] (upd (upd H dx (.own x)) x (.ins C dx [])) (fun v H2 => v = .non ∧ Q (.ref x) H2) E
end
end Vx
set_option Elab.async false
set_option linter.all false
set_option maxRecDepth 100000
namespace Toy
open PySem PySem.Spec PyProof.Rows L2
def topS (i : Nat) : Stmt := PySem.Challenge.pw_trustedpages_k11_marks_deeds.main.body.getD i (.Pass ⟨0, 0, 0, 0⟩)
abbrev s_wall : Stmt := topS 0
theorem sc_wall : FnScope ["k"] ["k"] (defScope s_wall) := ⟨rfl, rfl, rfl, by decide +kernel, rfl, by decide +kernel, by decide +kernel⟩
-- wall cells []
abbrev s_BadPage_init : Stmt := inClass (topS 3) 0
theorem sc_BadPage_init : FnScope ["self", "at"] ["self", "at"] (defScope s_BadPage_init) := ⟨rfl, rfl, rfl, by decide +kernel, rfl, by decide +kernel, by decide +kernel⟩
-- BadPage_init cells []
abbrev s_BadBytes_init : Stmt := inClass (topS 4) 0
theorem sc_BadBytes_init : FnScope ["self", "at"] ["self", "at"] (defScope s_BadBytes_init) := ⟨rfl, rfl, rfl, by decide +kernel, rfl, by decide +kernel, by decide +kernel⟩
-- BadBytes_init cells []
abbrev s_BadMarks_init : Stmt := inClass (topS 5) 0
theorem sc_BadMarks_init : FnScope ["self", "at"] ["self", "at"] (defScope s_BadMarks_init) := ⟨rfl, rfl, rfl, by decide +kernel, rfl, by decide +kernel, by decide +kernel⟩
-- BadMarks_init cells []
abbrev s_is_whole : Stmt := topS 7
theorem sc_is_whole : FnScope ["value"] ["value"] (defScope s_is_whole) := ⟨rfl, rfl, rfl, by decide +kernel, rfl, by decide +kernel, by decide +kernel⟩
-- is_whole cells []
abbrev s_is_between : Stmt := topS 8
theorem sc_is_between : FnScope ["value", "low", "high"] ["value", "low", "high"] (defScope s_is_between) := ⟨rfl, rfl, rfl, by decide +kernel, rfl, by decide +kernel, by decide +kernel⟩
-- is_between cells []
abbrev s_Made_init : Stmt := inClass (topS 11) 0
theorem sc_Made_init : FnScope ["self", "flags"] ["self", "flags"] (defScope s_Made_init) := ⟨rfl, rfl, rfl, by decide +kernel, rfl, by decide +kernel, by decide +kernel⟩
-- Made_init cells []
abbrev s_pairs : Stmt := topS 12
theorem sc_pairs : FnScope ["one", "other", "k"] ["one", "other"] (defScope s_pairs) := ⟨rfl, rfl, rfl, by decide +kernel, rfl, by decide +kernel, by decide +kernel⟩
-- pairs cells ['one', 'other']
abbrev s_either : Stmt := topS 13
theorem sc_either : FnScope ["one", "other", "a", "b"] ["one", "other"] (defScope s_either) := ⟨rfl, rfl, rfl, by decide +kernel, rfl, by decide +kernel, by decide +kernel⟩
-- either cells []
abbrev s_both : Stmt := topS 14
theorem sc_both : FnScope ["one", "other", "a", "b"] ["one", "other"] (defScope s_both) := ⟨rfl, rfl, rfl, by decide +kernel, rfl, by decide +kernel, by decide +kernel⟩
-- both cells []
abbrev s_Marks_init : Stmt := inClass (topS 15) 0
theorem sc_Marks_init : FnScope ["self", "many"] ["self", "many"] (defScope s_Marks_init) := ⟨rfl, rfl, rfl, by decide +kernel, rfl, by decide +kernel, by decide +kernel⟩
-- Marks_init cells []
abbrev s_Marks_read : Stmt := inClass (topS 15) 1
theorem sc_Marks_read : FnScope ["many", "data", "marks", "number", "k"] ["many", "data"] (defScope s_Marks_read) := ⟨rfl, rfl, rfl, by decide +kernel, rfl, by decide +kernel, by decide +kernel⟩
-- Marks_read cells []
abbrev s_Marks_raw : Stmt := inClass (topS 15) 2
theorem sc_Marks_raw : FnScope ["self"] ["self"] (defScope s_Marks_raw) := ⟨rfl, rfl, rfl, by decide +kernel, rfl, by decide +kernel, by decide +kernel⟩
-- Marks_raw cells []
abbrev s_Marks_pages : Stmt := inClass (topS 15) 3
theorem sc_Marks_pages : FnScope ["self", "k", "flag"] ["self"] (defScope s_Marks_pages) := ⟨rfl, rfl, rfl, by decide +kernel, rfl, by decide +kernel, by decide +kernel⟩
-- Marks_pages cells []
abbrev s_Marks_twin : Stmt := inClass (topS 15) 4
theorem sc_Marks_twin : FnScope ["self"] ["self"] (defScope s_Marks_twin) := ⟨rfl, rfl, rfl, by decide +kernel, rfl, by decide +kernel, by decide +kernel⟩
-- Marks_twin cells []
abbrev s_Marks_len : Stmt := inClass (topS 15) 5
theorem sc_Marks_len : FnScope ["self"] ["self"] (defScope s_Marks_len) := ⟨rfl, rfl, rfl, by decide +kernel, rfl, by decide +kernel, by decide +kernel⟩
-- Marks_len cells []
abbrev s_Marks_iter : Stmt := inClass (topS 15) 6
theorem sc_Marks_iter : FnScope ["self"] ["self"] (defScope s_Marks_iter) := ⟨rfl, rfl, rfl, by decide +kernel, rfl, by decide +kernel, by decide +kernel⟩
-- Marks_iter cells []
abbrev s_Marks_getitem : Stmt := inClass (topS 15) 7
theorem sc_Marks_getitem : FnScope ["self", "at"] ["self", "at"] (defScope s_Marks_getitem) := ⟨rfl, rfl, rfl, by decide +kernel, rfl, by decide +kernel, by decide +kernel⟩
-- Marks_getitem cells []
abbrev s_Marks_setitem : Stmt := inClass (topS 15) 8
theorem sc_Marks_setitem : FnScope ["self", "at", "value"] ["self", "at", "value"] (defScope s_Marks_setitem) := ⟨rfl, rfl, rfl, by decide +kernel, rfl, by decide +kernel, by decide +kernel⟩
-- Marks_setitem cells []
abbrev s_Marks_or : Stmt := inClass (topS 15) 9
theorem sc_Marks_or : FnScope ["self", "other"] ["self", "other"] (defScope s_Marks_or) := ⟨rfl, rfl, rfl, by decide +kernel, rfl, by decide +kernel, by decide +kernel⟩
-- Marks_or cells []
abbrev s_Marks_and : Stmt := inClass (topS 15) 10
theorem sc_Marks_and : FnScope ["self", "other"] ["self", "other"] (defScope s_Marks_and) := ⟨rfl, rfl, rfl, by decide +kernel, rfl, by decide +kernel, by decide +kernel⟩
-- Marks_and cells []
abbrev s_Marks_ior : Stmt := inClass (topS 15) 11
theorem sc_Marks_ior : FnScope ["self", "other"] ["self", "other"] (defScope s_Marks_ior) := ⟨rfl, rfl, rfl, by decide +kernel, rfl, by decide +kernel, by decide +kernel⟩
-- Marks_ior cells []
abbrev s_Marks_iand : Stmt := inClass (topS 15) 12
theorem sc_Marks_iand : FnScope ["self", "other"] ["self", "other"] (defScope s_Marks_iand) := ⟨rfl, rfl, rfl, by decide +kernel, rfl, by decide +kernel, by decide +kernel⟩
-- Marks_iand cells []
abbrev s_Marks_eq : Stmt := inClass (topS 15) 13
theorem sc_Marks_eq : FnScope ["self", "other"] ["self", "other"] (defScope s_Marks_eq) := ⟨rfl, rfl, rfl, by decide +kernel, rfl, by decide +kernel, by decide +kernel⟩
-- Marks_eq cells []
abbrev s_Marks_le : Stmt := inClass (topS 15) 14
theorem sc_Marks_le : FnScope ["self", "other", "a", "b"] ["self", "other"] (defScope s_Marks_le) := ⟨rfl, rfl, rfl, by decide +kernel, rfl, by decide +kernel, by decide +kernel⟩
-- Marks_le cells []
abbrev s_law_pot : Stmt := topS 17
theorem sc_law_pot : FnScope ["script", "cell"] ["script"] (defScope s_law_pot) := ⟨rfl, rfl, rfl, by decide +kernel, rfl, by decide +kernel, by decide +kernel⟩
-- law_pot cells []
abbrev s_law_draw : Stmt := topS 18
theorem sc_law_draw : FnScope ["pot", "many", "cells", "at", "cell"] ["pot", "many"] (defScope s_law_draw) := ⟨rfl, rfl, rfl, by decide +kernel, rfl, by decide +kernel, by decide +kernel⟩
-- law_draw cells []
abbrev s_law_odd : Stmt := topS 19
theorem sc_law_odd : FnScope ["pot", "odd"] ["pot"] (defScope s_law_odd) := ⟨rfl, rfl, rfl, by decide +kernel, rfl, by decide +kernel, by decide +kernel⟩
-- law_odd cells []
abbrev s_law_put : Stmt := topS 20
theorem sc_law_put : FnScope ["marks", "at", "value", "told", "e"] ["marks", "at", "value"] (defScope s_law_put) := ⟨rfl, rfl, rfl, by decide +kernel, rfl, by decide +kernel, by decide +kernel⟩
-- law_put cells []
abbrev s_law_item : Stmt := topS 21
theorem sc_law_item : FnScope ["marks", "at", "told", "e"] ["marks", "at"] (defScope s_law_item) := ⟨rfl, rfl, rfl, by decide +kernel, rfl, by decide +kernel, by decide +kernel⟩
-- law_item cells []
abbrev s_law_made : Stmt := topS 22
theorem sc_law_made : FnScope ["many", "told", "e"] ["many"] (defScope s_law_made) := ⟨rfl, rfl, rfl, by decide +kernel, rfl, by decide +kernel, by decide +kernel⟩
-- law_made cells []
abbrev s_law_is_page : Stmt := topS 23
theorem sc_law_is_page : FnScope ["at", "many"] ["at", "many"] (defScope s_law_is_page) := ⟨rfl, rfl, rfl, by decide +kernel, rfl, by decide +kernel, by decide +kernel⟩
-- law_is_page cells []
abbrev s_law_all_made : Stmt := topS 24
theorem sc_law_all_made : FnScope ["pot", "bad"] ["pot"] (defScope s_law_all_made) := ⟨rfl, rfl, rfl, by decide +kernel, rfl, by decide +kernel, by decide +kernel⟩
-- law_all_made cells []
abbrev s_law : Stmt := topS 25
theorem sc_law : FnScope ["script", "pot", "many", "marks", "twin", "kept", "truths", "k", "at", "value", "due", "pages", "page"] ["script"] (defScope s_law) := ⟨rfl, rfl, rfl, by decide +kernel, rfl, by decide +kernel, by decide +kernel⟩
-- law cells ['marks', 'kept', 'truths']
end Toy
set_option Elab.async false
set_option linter.all false
set_option maxRecDepth 100000
set_option maxHeartbeats 2000000
namespace Toy
open PySem PySem.Spec PyProof.Rows L2
/-! ### heaps -/
theorem same_upd {H : Hp} {p : Addr} {o : HO} (h : H p = none) : Same H (upd H p o) := fun b x e => by
  rw [upd_ne (ne_of_none e h)]
  exact e
/-! ### moments as numbers -/
def mo (n : Nat) : List (Str × V) := [("_number", .int n)]
def MoAt (C : Addr) (H : Hp) (p : Addr) (n : Nat) : Prop := n < 2147483648 ∧ ∃ dx, H p = some (.ins C dx (mo n))
theorem MoAt.same {C : Addr} {H H' : Hp} {p : Addr} {n : Nat} (h : MoAt C H p n) (s : Same H H') : MoAt C H' p n := ⟨h.1, h.2.imp fun _ e => s _ _ e⟩
def vi (k : Nat) : V := .int k
def bits (n : Nat) : List Nat := (List.range 31).filter fun k => n.testBit k
/-- what the text says of the class and the names -/
structure Txt (K : PySem.W.Frag) (mg : Str → Option Value) (C : Addr) : Prop where
  cl : Cls K C
  nN : NoAttr K C "_number"
  mgC : mg "Moment" = some (.ref C)
  len : mg "len" = none
  int : mg "int" = none
  bool : mg "bool" = none
  isi : mg "isinstance" = none
  range : mg "range" = none
  sum : mg "sum" = none
  list : mg "list" = none
  cC : PySem.W.findIn K (.ref C) "__class__" = some (some (.builtin "object.__class__"))
  cG : PySem.W.specialIn K (.builtin "object.__class__") "__get__" = some (some (.builtin "getset_descriptor.__get__"))
  cT : PySem.W.takesIn K (.builtin "object.__class__") = some true
  cM : PySem.W.mroIn K C (.type "object") = some true
  kCC : PySem.W.kitOne K (.ref C) (.ref C) = some true
  kIC : PySem.W.kitOne K (.type "int") (.ref C) = some false
  lw : ∃ t, mg "LAST_WRITER" = some (.int 30 t)
  ln : ∃ t, mg "LAST_NUMBER" = some (.int 2147483647 t)
section
variable {P : Program} {w : World} {K : PySem.W.Frag} {mg : Str → Option Value} {base : Heap} {C : Addr}
/-! ### is_whole -/
def spWhole : Sp := fun vs H Q _ => ∃ i : Int, vs = [.int i] ∧ Q (.bl true) H
theorem ok_is_whole {f : Addr} {fd : FuncData} (F : Fun K "is_whole" "is_whole" s_is_whole f fd) (T : Txt K mg C) : FnOk P w K mg base CX0 1 f fd ["value"] spWhole := by
  refine F.ok sc_is_whole (fun vs H Q E h => ?_) (fun cdv A outer s H vs Q E hr h => ?_)
  · obtain ⟨i, rfl, _⟩ := h
    rfl
  · obtain ⟨i, rfl, q⟩ := h
    refine ⟨_, pss_one (ps_ret (pe_and (pe_callB call_isi (by rfl) T.isi (by decide +kernel) (pa_cons (pv 0) (pa_cons (pe_bltn (v := .ty "int") (by rfl) T.int (by decide +kernel) rfl) pa_nil)))
      (pe_one (pe_not (pe_callB call_isi (by rfl) T.isi (by decide +kernel) (pa_cons (pv 0) (pa_cons (pe_bltn (v := .ty "bool") (by rfl) T.bool (by decide +kernel) rfl) pa_nil))))))), ?_⟩
    refine ⟨_, rfl, .int i, .ty "int", _, _, true, rfl, .ty _, .base (.int i), kit_ty (by decide +kernel), true, rfl, iteT ?_⟩
    exact ⟨_, rfl, .int i, .ty "bool", _, _, false, rfl, .ty _, .base (.int i), kit_ty (by decide +kernel), false, rfl, q⟩
/-! ### is_between -/
def spBetw : Sp := fun vs H Q _ => ∃ i l h : Int, vs = [.int i, .int l, .int h] ∧ Q (.bl (decide (l ≤ i ∧ i ≤ h))) H
theorem ok_is_between {f fW : Addr} {fd fdW : FuncData} (F : Fun K "is_between" "is_between" s_is_between f fd) (T : Txt K mg C) (FW : Fun K "is_whole" "is_whole" s_is_whole fW fdW) (bW : L2.Binds K fdW ["value"] []) (gW : mg "is_whole" = some (.ref fW)) :
    FnOk P w K mg base CX0 2 f fd ["value", "low", "high"] spBetw := by
  have GW : FnOk P w K mg base CX0 1 fW fdW ["value"] spWhole := ok_is_whole FW T
  refine F.ok sc_is_between (fun vs H Q E h => ?_) (fun cdv A outer s H vs Q E hr h => ?_)
  · obtain ⟨i, l, h, rfl, _⟩ := h
    rfl
  · obtain ⟨i, l, u, rfl, q⟩ := h
    refine ⟨_, pss_one (ps_ret (pe_and (pe_call GW hr (by rfl) gW FW.kp bW .nil pass0 (pa_cons (pv 0) pa_nil)) (pe_one (pe_chain op_le op_le (pv 1) (pv 0) (pv 2))))), ?_⟩
    refine ⟨_, rfl, i, rfl, true, rfl, iteT ?_⟩
    refine ⟨_, rfl, _, rfl, l, i, rfl, rfl, decide (l ≤ i), rfl, ?_⟩
    by_cases h1 : l ≤ i
    · rw [decide_eq_true h1]
      refine iteT ⟨_, rfl, i, u, rfl, rfl, ?_⟩
      have e : decide (l ≤ i ∧ i ≤ u) = decide (i ≤ u) := by by_cases h2 : i ≤ u <;> simp [h1, h2]
      rw [e] at q
      exact q
    · rw [decide_eq_false h1]
      have e : decide (l ≤ i ∧ i ≤ u) = false := by simp [h1]
      rw [e] at q
      exact iteF q
end
end Toy
set_option Elab.async false
set_option linter.all false
set_option maxRecDepth 100000
set_option maxHeartbeats 2000000
namespace Toy
open PySem PySem.Spec PyProof.Rows L2
/-! ### the mathematics of bits -/
theorem bits_succ (p : Nat → Bool) (i : Nat) : (List.range (i + 1)).filter p = if p i = true then (List.range i).filter p ++ [i] else (List.range i).filter p := by
  rw [List.range_succ, List.filter_append]
  by_cases h : p i = true
  · rw [if_pos h, List.filter_cons_of_pos h]
    rfl
  · rw [if_neg h, List.filter_cons_of_neg h, List.filter_nil, List.append_nil]
theorem mod_succ (n i : Nat) : n % 2 ^ (i + 1) = n % 2 ^ i + (if n.testBit i = true then 2 ^ i else 0) := by
  rw [Nat.pow_succ, Nat.mod_mul, Nat.testBit_eq_decide_div_mod_eq]
  by_cases h : n / 2 ^ i % 2 = 1
  · rw [h, if_pos (by decide), Nat.mul_one]
  · have h0 : n / 2 ^ i % 2 = 0 := by omega
    rw [h0, if_neg (by decide), Nat.mul_zero]
theorem sum_bits (n : Nat) : ∀ i : Nat, (((List.range i).filter fun k => n.testBit k).map fun k => ((2 ^ k : Nat) : Int)).sum = ((n % 2 ^ i : Nat) : Int)
  | 0 => by simp [Nat.mod_one]
  | i + 1 => by
    have ih := sum_bits n i
    rw [bits_succ, mod_succ]
    by_cases h : n.testBit i = true
    · rw [if_pos h, if_pos h, List.map_append, List.sum_append, ih]
      simp
    · rw [if_neg h, if_neg h, ih]
      simp
theorem mem_bits {n k : Nat} : k ∈ bits n ↔ k < 31 ∧ n.testBit k = true := by
  unfold bits
  rw [List.mem_filter, List.mem_range]
theorem inV_vi (k : Nat) (ws : List Nat) : inV (vi k) (ws.map vi) = decide (k ∈ ws) := by
  unfold inV
  induction ws with
  | nil => rfl
  | cons a r ih =>
    rw [List.map_cons, List.any_cons, ih]
    show ((((a : Nat) : Int) == ((k : Nat) : Int)) || decide (k ∈ r)) = decide (k ∈ a :: r)
    by_cases h : a = k
    · subst h
      simp
    · have h1 : (((a : Nat) : Int) == ((k : Nat) : Int)) = false := by
        simp
        omega
      rw [h1]
      have h2 : k ≠ a := fun e => h e.symm
      simp [h2]
theorem flat_vi (ws : List Nat) : (ws.map vi).all flatV = true := by
  rw [List.all_map]
  simp [Function.comp, vi, flatV]
theorem filter_bits_mem (n : Nat) (i : Nat) (hi : i ≤ 31) : (List.range i).filter (fun k => decide (k ∈ bits n)) = (List.range i).filter (fun k => n.testBit k) := by
  apply List.filter_congr
  intro k hk
  have h : k < 31 := Nat.lt_of_lt_of_le (List.mem_range.mp hk) hi
  by_cases b : n.testBit k = true
  · rw [b]
    exact decide_eq_true (mem_bits.mpr ⟨h, b⟩)
  · have b' : n.testBit k = false := by simpa using b
    rw [b']
    exact decide_eq_false fun z => b (mem_bits.mp z).2
theorem bit_test (n k : Nat) : ((Builtin.bitAnd ((n : Int) / 2 ^ k) 1 : Int) != 0) = n.testBit k := by
  have e : ((n : Int) / 2 ^ k) = ((n / 2 ^ k : Nat) : Int) := by simp
  rw [e, bitAnd_pp (Int.natCast_nonneg _) (by decide), Int.toNat_natCast]
  show (((n / 2 ^ k &&& 1 : Nat) : Int) != 0) = _
  rw [Nat.testBit_eq_decide_div_mod_eq, Nat.and_one_is_mod]
  by_cases h : n / 2 ^ k % 2 = 1
  · rw [h]
    decide
  · have h0 : n / 2 ^ k % 2 = 0 := by omega
    rw [h0]
    decide
end Toy
set_option Elab.async false
set_option linter.all false
set_option maxRecDepth 100000
set_option maxHeartbeats 2000000
namespace Toy
open PySem PySem.Spec PyProof.Rows L2
/-! ### the pot of drawn numbers -/
def Pot (H : Hp) (p c : Addr) : Prop := ∃ (cs : List Int) (at_ : Nat) (x : Int), H p = some (.lst [.ref c, .int at_, .int x]) ∧ H c = some (.lst (cs.map V.int)) ∧ cs.length ≤ 63 ∧ 0 ≤ x ∧ x < 2147483647
theorem Pot.ne {H : Hp} {p c : Addr} (h : Pot H p c) : p ≠ c := by
  obtain ⟨cs, a, x, h1, h2, _⟩ := h
  intro e
  rw [e, h2] at h1
  injection h1 with h1
  injection h1 with h1
  cases cs with
  | nil => cases h1
  | cons y r => injection h1 with z; cases z
theorem Pot.same {H H' : Hp} {p c : Addr} (h : Pot H p c) (s : Same H H') : Pot H' p c := by
  obtain ⟨cs, a, x, h1, h2, r⟩ := h
  exact ⟨cs, a, x, s _ _ h1, s _ _ h2, r⟩
/-- all but the pot stays -/
def Kept (p c : Addr) (H H' : Hp) : Prop := ∀ b o, b ≠ p → b ≠ c → H b = some o → H' b = some o
theorem Kept.rfl' {p c : Addr} {H : Hp} : Kept p c H H := fun _ _ _ _ e => e
theorem Kept.trans {p c : Addr} {H H1 H2 : Hp} (a : Kept p c H H1) (b : Kept p c H1 H2) : Kept p c H H2 := fun x o n m e => b x o n m (a x o n m e)
theorem Kept.of_same {p c : Addr} {H H' : Hp} (s : Same H H') : Kept p c H H' := fun b o _ _ e => s b o e
theorem ixN_nat {n k : Nat} (h : k < n) : ixN n (k : Int) = some k := by
  unfold ixN
  rw [if_pos (Int.natCast_nonneg _), if_pos (by omega), Int.toNat_natCast]
theorem cut63 {xs : List V} (h : xs.length ≤ 63) : cutV xs none (some 63) = xs := by
  unfold cutV
  rw [HT.sIx_none, show HT.sIx xs.length xs.length (some 63) = min 63 xs.length from HT.sIx_nat xs.length xs.length 63, List.drop_zero, Nat.sub_zero]
  exact List.take_of_length_le (by omega)
section
variable {P : Program} {w : World} {K : PySem.W.Frag} {mg : Str → Option Value} {base : Heap} {C : Addr}
def spPot (K : PySem.W.Frag) : Sp := fun vs H Q _ => ∃ (a : Addr) (ns : List Int), vs = [.ref a] ∧ SqL K H a (ns.map V.int) ∧ ns.length ≤ 63 ∧ ∀ H' p c, Same H H' → H p = none → H c = none → Pot H' p c → Q (.ref p) H'
theorem ok_pot {f : Addr} {fd : FuncData} (F : Fun K "_law_pot" "_law_pot" s_law_pot f fd) (mi : mg "int" = none) : FnOk P w K mg base CX0 1 f fd ["script"] (spPot K) := by
  refine F.ok sc_law_pot (fun vs H Q E h => ?_) (fun cdv A outer s H vs Q E hr h => ?_)
  · obtain ⟨a, ns, rfl, _⟩ := h
    rfl
  · obtain ⟨a, ns, rfl, hS, hn, q⟩ := h
    refine ⟨_, pss_one (ps_ret (pe_lst (pa_cons (pe_lc (own := [("cell", 1)]) (g := gName 1) (tt := tYes) rfl sc_law_pot.nd (pi_list (pe_slice sl_list (pv 0) po_none (po_some pe_int)))
        (blkOk_by (own := [("cell", 1)]) (N := ["script", "cell"]) (sc := defScope s_law_pot) (by decide +kernel)) (fun _ _ _ _ _ => pg_name (i := 1) sc_law_pot.nd rfl (Or.inl rfl))
        (fun _ _ _ _ _ => pts_nil) (fun _ _ _ _ _ => pe_callTy call_int1 (by rfl) mi (by decide +kernel) (pa_cons (pv 1) pa_nil))) (pa_cons pe_int (pa_cons pe_int pa_nil))))), ?_⟩
    refine ⟨.ref a, rfl, 63, rfl, a, _, rfl, hS, fun b nb => ?_⟩
    rw [cut63 (by rw [List.length_map]; exact hn)]
    refine ⟨b, rfl, ⟨_, SqL.of upd_same⟩, fun D hD => ?_⟩
    have hb : (upd H b (.lst (ns.map V.int))) b = some (.lst (ns.map V.int)) := upd_same
    have s1 : Same H (upd H b (.lst (ns.map V.int))) := same_upd nb
    have hD0 : H D = none := s1.free hD
    refine lc_list (K := K) (a := b) (xs := ns.map V.int) (fun i H2 => Same (upd H b (.lst (ns.map V.int))) H2 ∧ H2 D = some (.lst ((ns.take i).map V.int))) ⟨same_upd hD, upd_same⟩ (fun i H2 _ z => SqL.of (z.1 _ _ hb)) ?_ ?_
    · rintro i x H2 hx ⟨s2, e2⟩
      obtain ⟨n, hi, rfl⟩ : ∃ n, ns[i]? = some n ∧ x = V.int n := by
        rw [List.getElem?_map] at hx
        cases e : ns[i]? with
        | none => rw [e] at hx; cases hx
        | some n => rw [e] at hx; exact ⟨n, rfl, (Option.some.inj hx).symm⟩
      refine ⟨rfl, ?_⟩
      refine ⟨_, rfl, .inl ⟨n, rfl, _, e2, ?_, fun d o e => ?_, ?_⟩⟩
      · rw [List.length_map, List.length_take]
        exact Nat.lt_of_le_of_lt (Nat.le_trans (Nat.min_le_right _ _) hn) (by decide)
      · rw [upd_ne (ne_of_none e hD)]
        exact s2 _ _ e
      · rw [upd_same, List.take_add_one, hi, List.map_append]
        rfl
    · rintro H2 ⟨s2, e2⟩
      rw [List.length_map, List.take_length] at e2
      refine ⟨(by show 3 ≤ sizeLine; decide), fun p np => ?_⟩
      have s3 : Same H (upd H2 p (.lst [.ref D, .int 0, .int 7])) := s1.trans (s2.trans (same_upd np))
      have hDp : D ≠ p := ne_of_none e2 np
      refine q _ p D s3 ((s1.trans s2).free np) hD0 ⟨ns, 0, 7, upd_same, by rw [upd_ne hDp]; exact e2, hn, by decide, by decide⟩
/-! ### a draw -/
def spDraw : Sp := fun vs H Q _ => ∃ (p c : Addr) (m : Int), vs = [.ref p, .int m] ∧ Pot H p c ∧ 0 < m ∧ m ≤ 1000000000000 ∧ ∀ H' r, Pot H' p c → Kept p c H H' → 0 ≤ r → r < m → Q (.int r) H'
theorem fmod_lt {a m : Int} (h : 0 < m) : 0 ≤ a.fmod m ∧ a.fmod m < m := by
  rw [Int.fmod_eq_emod_of_nonneg _ (Int.le_of_lt h)]
  exact ⟨Int.emod_nonneg _ (by omega), Int.emod_lt_of_pos _ h⟩
def nxt (x cell : Int) : Int := (x * 48271 + cell * 69621 + 11).fmod 2147483647
theorem ok_draw {f : Addr} {fd : FuncData} (F : Fun K "_law_draw" "_law_draw" s_law_draw f fd) (mi : mg "int" = none) (ml : mg "len" = none) : FnOk P w K mg base CX0 1 f fd ["pot", "many"] spDraw := by
  refine F.ok sc_law_draw (fun vs H Q E h => ?_) (fun cdv A outer s H vs Q E hr h => ?_)
  · obtain ⟨p, c, m, rfl, _⟩ := h
    rfl
  · obtain ⟨p, c, m, rfl, hP, hm, hm2, q⟩ := h
    refine ⟨_, pss_cons (ps_set (i := 2) sc_law_draw.nd rfl (Or.inl rfl) (pe_ix ix_list (pv 0) pe_int (fun _ _ => rfl)))
      (pss_cons (ps_set (i := 3) sc_law_draw.nd rfl (Or.inl rfl) (pe_ix ix_list (pv 0) pe_int (fun _ _ => rfl)))
      (pss_cons (ps_set (i := 4) sc_law_draw.nd rfl (Or.inl rfl) pe_int)
      (C8.pss_cut (ps_if (pt_cmpR op_lt (pv 3) (pe_callB call_len_seq (by rfl) ml PySem.boot_len (pa_cons (pv 2) pa_nil)) (nomark _))
        (pss_cons (ps_set (i := 4) sc_law_draw.nd rfl (Or.inl rfl) (pe_ix ix_list (pv 2) (pv 3) (fun _ _ => rfl)))
        (pss_cons (ps_if (pt_cmpR op_ge (pv 4) (pe_op op_pow pe_int pe_int) (nomark _))
          (pss_cons (ps_asg (pe_op op_fdivW (pv 4) (pv 1)) (pg_sub (pv 2) (pv 3) set_list))
          (pss_one (ps_ret (pe_op op_modN (pe_callTy call_int1 (by rfl) mi (by decide +kernel) (pa_cons (pv 4) pa_nil)) (pv 1))))) pss_nil)
        (pss_one (ps_asg (pe_op op_add (pv 3) pe_int) (pg_sub (pv 0) pe_int set_list))))) pss_nil)
      (pss_cons (ps_asg (pe_op op_modN (pe_callTy call_int1 (by rfl) mi (by decide +kernel) (pa_cons (pe_op op_add (pe_op op_add (pe_op op_mul (pe_ix ix_list (pv 0) pe_int (fun _ _ => rfl)) pe_int) (pe_op op_mul (pv 4) pe_int)) pe_int) pa_nil)) pe_int) (pg_sub (pv 0) pe_int set_list))
      (pss_one (ps_ret (pe_op op_modN (pe_callTy call_int1 (by rfl) mi (by decide +kernel) (pa_cons (pe_op op_add (pe_op op_fdivN (pe_op op_mul (pe_ix ix_list (pv 0) pe_int (fun _ _ => rfl)) pe_int) pe_int) (pe_ix ix_list (pv 0) pe_int (fun _ _ => rfl))) pa_nil)) (pv 1)))))))), ?_⟩
    have pc : p ≠ c := hP.ne
    obtain ⟨cs, at_, x, h1, h2, hl, x0, x1⟩ := hP
    refine ⟨_, rfl, p, _, _, _, rfl, rfl, SqL.of h1, rfl, ?_⟩
    refine ⟨_, rfl, p, _, _, _, rfl, rfl, SqL.of h1, rfl, ?_⟩
    refine ⟨fun σ' H' => ∃ (a : Nat) (cell : Int), σ' = [some (.ref p), some (.int m), some (.ref c), some (.int at_), some (.int cell)] ∧ H' p = some (.lst [.ref c, .int a, .int x]) ∧ H' c = some (.lst (cs.map V.int)) ∧ Kept p c H H', ?_, ?_⟩
    · refine ⟨_, rfl, _, rfl, c, _, rfl, .inl (SqL.of h2), _, _, rfl, rfl, _, rfl, ?_⟩
      rw [List.length_map]
      refine ite2 (fun hlt => ?_) (fun _ => ⟨at_, 0, rfl, h1, h2, Kept.rfl'⟩)
      have hi : at_ < cs.length := by have := of_decide_eq_true hlt; omega
      have hg : (cs.map V.int)[at_]? = some (.int cs[at_]) := by rw [List.getElem?_map, List.getElem?_eq_getElem hi]; rfl
      refine ⟨_, rfl, _, rfl, c, _, _, _, rfl, rfl, SqL.of h2, atI_nat hg, ?_⟩
      refine ⟨_, rfl, 10, 18, rfl, rfl, ⟨by decide, by decide, by decide⟩, _, _, rfl, rfl, _, rfl, ?_⟩
      refine ite2 (fun _ => ?_) (fun _ => ?_)
      · refine ⟨_, rfl, _, rfl, _, _, rfl, rfl, wide_div (b := 42) hm (by omega) (by decide) (by decide), _, rfl, _, rfl, c, _, _, at_, rfl, rfl, h2, ixN_nat (by rw [List.length_map]; exact hi), ?_⟩
        refine ⟨_, rfl, .inl ⟨_, rfl, _, rfl, _, _, rfl, rfl, by omega, ?_⟩⟩
        have f := fmod_lt (a := cs[at_]) hm
        refine q _ _ ⟨cs.set at_ (cs[at_] / m), at_, x, by rw [upd_ne pc]; exact h1, ?_, by rw [List.length_set]; exact hl, x0, x1⟩ (fun b o n1 n2 e => ?_) f.1 f.2
        · rw [upd_same, List.map_set]
        · rw [upd_ne n2]
          exact e
      · refine ⟨_, rfl, _, _, rfl, rfl, _, rfl, p, _, _, 1, rfl, rfl, h1, rfl, ?_⟩
        refine ⟨at_ + 1, cs[at_], rfl, ?_, by rw [upd_ne pc.symm]; exact h2, fun b o n1 n2 e => ?_⟩
        · rw [upd_same]
          rfl
        · rw [upd_ne n1]
          exact e
    · rintro σ' H1 ⟨a, cell, rfl, g1, g2, kp⟩
      refine ⟨_, rfl, p, _, _, _, rfl, rfl, SqL.of g1, rfl, _, _, rfl, rfl, .inl ⟨by omega, by omega⟩, _, rfl, _, _, rfl, rfl, .inr ⟨by decide, by decide⟩, _, _, rfl, rfl, _, _, rfl, rfl, .inl ⟨_, rfl, _, _, rfl, rfl, (show (2147483647 : Int) ≠ 0 by decide), _, rfl, p, _, _, 2, rfl, rfl, g1, rfl, ?_⟩⟩
      have fy : 0 ≤ nxt x cell ∧ nxt x cell < 2147483647 := fmod_lt (by decide)
      have g3 : (upd H1 p (.lst ([V.ref c, V.int a, V.int x].set 2 (V.int (nxt x cell))))) p = some (.lst [V.ref c, V.int a, V.int (nxt x cell)]) := upd_same
      refine ⟨_, rfl, p, _, _, _, rfl, rfl, SqL.of g3, rfl, _, _, rfl, rfl, .inl ⟨by omega, by omega⟩, _, _, rfl, rfl, ⟨by decide, by decide⟩, _, rfl, p, _, _, _, rfl, rfl, SqL.of g3, rfl, _, _, rfl, rfl, .inl ⟨_, rfl, _, rfl, _, _, rfl, rfl, by omega, ?_⟩⟩
      have f := fmod_lt (a := (nxt x cell * 16807).fdiv 128 + nxt x cell) hm
      refine q _ _ ⟨cs, a, nxt x cell, g3, by rw [upd_ne pc.symm]; exact g2, hl, fy.1, fy.2⟩ (fun b o n1 n2 e => ?_) f.1 f.2
      rw [upd_ne n1]
      exact kp b o n1 n2 e
end
end Toy
set_option Elab.async false
set_option linter.all false
set_option maxRecDepth 100000
set_option maxHeartbeats 2000000
namespace Vx
open PySem PySem.Spec PyProof.Rows L2
section
variable {X : Cx} {CX : CXT} {k : Nat} {C f : Addr} {sp : Sp} {E : XK} {pins : List (Addr × Obj)} {σ : L2.St} {H : Hp} {s : Shared} {Q : VK} {A : Around}
/-- a def called somewhere below the running body -/
theorem run_in {us : List Value} {vs : List V} (sb : Sub X k A) (F : FnR X.prog X.w X.K X.mg X.base CX k f sp) (hx : Passes CX X E) (I : L2.Inv X pins σ H s) (r : Vals vs us) (h : sp vs H Q E) :
    codeAny (model X.prog X.w) A (.call (.ref f) ⟨us, []⟩) (fun r s' => match r with | .ok (.ret v) => EP X pins σ Q v s' | .ok _ => False | .error e => X.xe e s') s := by
  have e0 : Env0 X.prog X.w X.K X.mg X.base A X.stack s H := by
    have e := I.env0
    exact ⟨by rw [sb.fr]; exact e.frames, e.mod, e.bs, e.bsz, e.funs, e.frf, e.hok, e.bare⟩
  refine codeAny_mono (F A X.stack s H us vs Q E sb.room e0 r h) fun r s' hq => ?_
  cases r with
  | error e => exact hx pins σ H s e s' I hq
  | ok fl =>
    cases fl with
    | ret u => exact I.after hq
    | next => exact False.elim hq
    | brk => exact False.elim hq
    | cont => exact False.elim hq
end
section
variable {prog : Program} {w : World} {A : Around} {E : Value → Shared → Prop} {s : Shared} {K : PySem.W.Frag} {x C L f : Addr} {h₀ : Heap} {m : Str → Option Value} {ox : Obj} {od : Option Obj} {b : Value}
open PySem.W in
theorem ne_body (hu : A.units < cLine) (X : K.In s.heap) (I : InstAt s.heap x ox C od) (he : findIn K (.ref C) "__eq__" = some (some (.ref f))) (hf : isFn K (.ref f) = true) {Q : Value → Shared → Prop}
    (h : wpAny (model prog w) A (call (.ref f) [.ref x, b]) (fun v s' => ∃ r, v = .bool r ∧ Q (.bool (!r)) s') E s) :
    wpAny (model prog w) A (Builtin.«object.__ne__» ⟨[.ref x, b], []⟩) (fun fin s' => ∃ v, fin = .done (.ret v) ∧ Q v s') E s := by
  unfold Builtin.«object.__ne__»
  obtain ⟨hh, g, d, t, os⟩ := s
  have st : wpAny (model prog w) A (callSpecialIfBound? (.ref x) "__eq__" [b]) (fun r s' => ∃ v, r = some (.bool v) ∧ Q (.bool (!v)) s') E ⟨hh, g, d, t, os⟩ :=
    ifBound_K X I he hf (wpAny_mono h (fun v s' hv => by obtain ⟨r, rfl, q⟩ := hv; exact ⟨r, rfl, q⟩) fun _ _ z => z)
  repeat (first | with_reducible refine wpAny_cRoomFor hu ?_ | with_reducible refine wpAny_bind (wpAny_mono st (fun r s' hr => ?_) fun _ _ z => z) | wp_step)
  obtain ⟨v, rfl, q⟩ := hr
  refine wpAny_bind (wpAny_truthy_bool ?_)
  exact wpAny_pure ⟨_, rfl, q⟩
open PySem.W in
theorem ne_K {Q : Value → Shared → Prop} {tb : Value} (hu : A.units + 1 < cLine) (F : Fr h₀ L s.heap m) (X₀ : K.In h₀) (I : InstAt s.heap x ox C od) (hb : Looks (model prog w) s.heap (typeOf b) tb) (hn : notFirst K C tb = true)
    (hs : findIn K (.ref C) "__ne__" = some (some (.builtin "object.__ne__"))) (he : findIn K (.ref C) "__eq__" = some (some (.ref f))) (hf : isFn K (.ref f) = true) (ho : mroIn K C (.type "object") = some true)
    (h : wpAny (model prog w) A.in1 (call (.ref f) [.ref x, b]) (fun v s' => ∃ r, v = .bool r ∧ Q (.bool (!r)) s') E s) : wpAny (model prog w) A (richCompare .NotEq (.ref x) b) Q E s := by
  have X := X₀.keeps F.keep
  have hu0 : A.units < cLine := Nat.lt_trans (Nat.lt_succ_self _) hu
  have cb : wpAny (model prog w) A (call (.builtin "object.__ne__") ([.ref x] ++ [b])) (fun v s' => ∃ r, v = .bool r ∧ Q v s') E s := by
    refine wpAny_call (codeAny_call_builtin PySem.F.cmp_object.ne.plain PySem.F.cmpEntry_ne (check_slot PySem.F.cmpKind_ne PySem.F.cmpSplit_ne (I.type.andThen (looks_mroIn X ho)) (PySem.F.cmpArgs_ne _ _) ?_))
    have z : wpAny (model prog w) A.in1 (Builtin.«object.__ne__» ⟨[.ref x, b], []⟩) (fun fin s' => ∃ v, fin = .done (.ret v) ∧ ∃ r, v = .bool r ∧ Q v s') E s :=
      ne_body (Q := fun v s' => ∃ r, v = .bool r ∧ Q v s') (A := A.in1) hu X I he hf (wpAny_mono h (fun v s' hv => by obtain ⟨r, rfl, q⟩ := hv; exact ⟨r, rfl, _, rfl, q⟩) fun _ _ z => z)
    refine wpAny_mono z (fun fin s' hv => ?_) fun _ _ y => y
    obtain ⟨v, rfl, r, rfl, q⟩ := hv
    exact ⟨r, rfl, q⟩
  have one : wpAny (model prog w) A (tryCompare (.ref x) "__ne__" b) (fun r s' => ∃ v, r = some v ∧ Q v s') E s := by
    unfold tryCompare
    refine wpAny_bind ?_
    simp only [callSpecialIfBound?, bindSpecialIfBound?]
    refine wpAny_holding (wpAny_bind (wpAny_bind (wpAny_bind (I.type.here ((looks_findIn X hs).here ?_)))))
    simp only [PySem.F.cmp_object.ne.bind]
    refine wpAny_bind (wpAny_askSetting (wpAny_ite ?_))
    have fin : wpAny (model prog w) A (call (.builtin "object.__ne__") ([.ref x] ++ [b]) >>= fun v => pure (some v)) (fun r s' => ∃ v, r = some (.bool v) ∧ Q (.bool v) s') E s :=
      wpAny_bind (wpAny_mono cb (fun v s' h' => by obtain ⟨r, rfl, q⟩ := h'; exact wpAny_pure ⟨r, rfl, q⟩) fun _ _ h' => h')
    have fin2 := wpAny_mono fin (Q' := fun r s' => wpAny (model prog w) A (match r with | some .notImplemented => pure none | none => pure none | some v => pure (some v)) (fun r s' => ∃ v, r = some v ∧ Q v s') E s') (fun r s' h' => by obtain ⟨v, rfl, q⟩ := h'; exact wpAny_pure ⟨_, rfl, q⟩) fun _ _ z => z
    split
    · exact wpAny_bind (wpAny_pure (wpAny_pure fin2))
    · exact wpAny_tryCatch (wpAny_bind (wpAny_pure (wpAny_pure fin2)))
  unfold richCompare
  simp only [oneThing_ref]
  refine wpAny_holding (wpAny_bind (wpAny_cRoomFor hu0 ?_))
  refine wpAny_bind (I.type.here (wpAny_bind (hb.here ?_)))
  split
  · rename_i q
    have e : subIn K tb (.ref C) = some false := by
      rcases Bool.or_eq_true_iff.mp hn with e | e
      · rw [beq_iff_eq.mp e] at q; simp at q
      · exact beq_iff_eq.mp e
    refine wpAny_bind ((looks_subIn X e).here ?_)
    simp only [Bool.false_eq_true, if_false]
    refine wpAny_bind (wpAny_mono one (fun r s' z => ?_) fun _ _ e => e)
    obtain ⟨v, rfl, hq⟩ := z
    exact wpAny_pure hq
  · refine wpAny_bind (wpAny_pure ?_)
    simp only [Bool.false_eq_true, if_false]
    refine wpAny_bind (wpAny_mono one (fun r s' z => ?_) fun _ _ e => e)
    obtain ⟨v, rfl, hq⟩ := z
    exact wpAny_pure hq
end
section
variable {X : Cx} {CX : CXT} {k : Nat} {C f : Addr} {sp : Sp} {E : XK}
/-- o != y: not o == y, by the own == -/
def rNeOwn (C : Addr) (sp : Sp) (E : XK) : R2 := fun x y H Q => (∃ a dx fs, x = .ref a ∧ H a = some (.ins C dx fs)) ∧ (∃ b dy gs, y = .ref b ∧ H b = some (.ins C dy gs)) ∧ sp [x, y] H (fun v H' => ∃ r, v = .bl r ∧ Q (.bl (!r)) H') E
theorem op_neOwn (nf : PySem.W.notFirst X.K C (.ref C) = true) (hs : PySem.W.findIn X.K (.ref C) "__ne__" = some (some (.builtin "object.__ne__"))) (he : PySem.W.findIn X.K (.ref C) "__eq__" = some (some (.ref f))) (fn : PySem.W.isFn X.K (.ref f) = true)
    (ho : PySem.W.mroIn X.K C (.type "object") = some true) (F : FnR X.prog X.w X.K X.mg X.base CX k f sp) (hr : Room (k + 1) X.A) (hx : Passes CX X E) : OpR X (compareOp .NotEq) (rNeOwn C sp E) := by
  intro pins s σ H x y v u Q I rx ry hq
  obtain ⟨⟨a, dx, fs, rfl, ha⟩, ⟨b, dy, gs, rfl, hb⟩, hsp⟩ := hq
  have ev : v = Value.ref a := rx
  have eu : u = Value.ref b := ry
  have sb : Sub X k X.A.in1 := (⟨hr, rfl⟩ : Sub X (k + 1) X.A).in1
  have cl := wpAny_call (run_in (us := [v, u]) (vs := [V.ref a, V.ref b]) sb F hx I (.cons rx (.cons ry .nil)) hsp)
  subst ev eu
  obtain ⟨mA, J, _⟩ := ins_get I.hok ha
  obtain ⟨od, J, _⟩ := J.look
  obtain ⟨mB, J', _⟩ := ins_get I.hok hb
  obtain ⟨od', J', _⟩ := J'.look
  obtain ⟨m, hF⟩ := I.fr
  show wpAny (model X.prog X.w) X.A (richCompare .NotEq (.ref a) (.ref b)) (EP X pins σ Q) X.xe s
  refine ne_K (hu_of hr) hF I.ok.mod.kin J J'.type nf hs he fn ho (wpAny_mono cl (fun v s' hv => ?_) fun _ _ z => z)
  obtain ⟨v', H', I', rv, r, rfl, q⟩ := hv
  exact ⟨r, rv, .bl (!r), H', I', rfl, q⟩
end
end Vx
set_option Elab.async false
set_option linter.all false
set_option maxRecDepth 100000
set_option maxHeartbeats 2000000
/-! own errors: a base's __init__ said by the base's name; isinstance of what was caught; makings that may raise, within a try -/
namespace Vx
open PySem PySem.Spec PyProof.Rows L2
/-- the class at D, above an own error, whose __init__ is ValueError's -/
structure UpC (K : PySem.W.Frag) (D : Addr) (mc : Value) : Prop where
  rd : ClX.CRead K D mc
  ini : PySem.W.findCls K (.ref D) mc "__init__" = some (.val (.builtin "ValueError.__init__"))
def tUp (K : PySem.W.Frag) (D : Addr) (ta : TE) (t : TA) : TE := fun σ H Q => ta σ H fun x H1 => x = .ref D ∧ tVeI K t σ H1 Q
section
variable {X : Cx} {D : Addr} {mc : Value} {o e : Expr} {es : List Expr} {pos apos : Pos} {ta : TE} {t : TA} {pl : Sem Bool}
theorem pe_up (hO : PE X o ta) (U : UpC X.K D mc) (hA : PA X (e :: es) t) (h1 : starEach (e :: es) X.env = (false, eval e X.env) :: starEach es X.env := by rfl) (h2 : (backTo pos (starEach es X.env)).any (·.1) = false := by rfl)
    (hW : eval (.Call (.Attribute o "__init__" apos) (e :: es) [] pos) X.env = (do
      let ov ← eval o X.env
      standAt apos.atName
      let (f, first) ← holding [ov] (getMethod ov "__init__" pl)
      callWith pos f first (backTo pos (starEach (e :: es) X.env)) (backToKw pos (keywordEach [] X.env))) := by rfl) : PE X (.Call (.Attribute o "__init__" apos) (e :: es) [] pos) (tUp X.K D ta t) := by
  refine ⟨fun pn s σ H Q I h => PySem.W.methodCall_KW (pl := pl) (thn (hO.run pn s σ H _ I h) fun u s1 hh => ?_) hW⟩
  obtain ⟨x, H1, I1, rx, ex, q⟩ := hh
  subst ex
  obtain rfl : u = Value.ref D := rx
  refine PySem.W.method_cls I1.kIn U.rd.ga (PySem.W.cls_value I1.kIn U.rd.rd U.ini rfl ?_)
  refine PyProof.Rows.callWith_method1 (thn (hA.run pos pn _ σ H1 _ (I1.tok _) q) fun us s2 hh => ?_) h1 h2
  obtain ⟨vs, H2, I2, r2, a, C, ws, ev, hl, T, ea, q2⟩ := hh
  subst ev
  cases r2 with
  | @cons _ u0 _ ur ra rb =>
    obtain rfl : u0 = Value.ref a := ra
    exact oinit_ok T I2 ea (by rw [← Paired.length rb, sizeLine_eq]; omega) fun s3 J => ⟨.non, H2, J, rfl, q2⟩
end
/-! isinstance(e, c), e a caught error with its dict -/
structure ExcX (K : PySem.W.Frag) (C : Addr) : Prop where
  cl : (PySem.W.clsIn K C).isSome = true
  ga : PySem.W.findIn K (.ref C) "__getattribute__" = some (some (.builtin "BaseException.__getattribute__"))
  gt : PySem.W.findIn K (.ref C) "__getattr__" = some none
  sb : PySem.W.subIn K (.ref C) (.type "BaseException") = some true
  ac : PySem.W.findIn K (.ref C) "__class__" = some (some (.builtin "object.__class__"))
  gn : PySem.W.specialIn K (.builtin "object.__class__") "__get__" = some (some (.builtin "getset_descriptor.__get__"))
  tk : PySem.W.takesIn K (.builtin "object.__class__") = some true
  mo : PySem.W.mroIn K C (.type "object") = some true
def rIsX (K : PySem.W.Frag) (C a : Addr) (cls : Value) (d : Option Addr) : List V → Hp → VK → Prop := fun xs H Q => cls = .ref C ∧ ∃ (dd : Addr) (fs : List (Str × V)) (c : V) (cv : Value) (b : Bool), d = some dd ∧ H dd = some (.xd fs) ∧ xs = [.ref a, c] ∧ (∀ u, RelV c u → u = cv) ∧ PySem.W.kitOne K (.ref C) cv = some b ∧ Q (.bl b) H
theorem call_isX {X : Cx} {a C : Addr} {oe : Obj} {cls : Value} {d : Option Addr} {pn : List (Addr × Obj)} (T : ExcX X.K C) (hz : Zc cls d oe) (hf : ∃ vs, oe.data = .fields vs) : CallR (X.suite a ((a, oe) :: pn)) (.builtin "isinstance") (rIsX X.K C a cls d) := by
  intro pins s σ H xs us Q I r h
  obtain ⟨ec, dd, fs, c, cv, b, ed, hd, ex, hcv, e, q⟩ := h
  subst ec ed ex
  cases r with
  | cons rx rr =>
    cases rr with
    | cons rt rn =>
      cases rn
      cases rx
      obtain rfl := hcv _ rt
      obtain ⟨hget, _⟩ := I.pin (a, oe) (List.mem_append.mpr (.inl List.mem_cons_self))
      obtain ⟨vs, hv⟩ := hf
      have hx : ObjOk X.prog X.w H s.heap dd (.xd fs) := I.hok dd _ hd
      obtain ⟨mA, hns, _⟩ := hx
      obtain ⟨od, ho, _⟩ := lookIn_ns hns
      have J : PySem.W.InstAt s.heap a oe C (some od) := ⟨hget, hz.1, by unfold PySem.W.notCls; rw [hv] <;> rfl, by rw [hz.2]; exact ho⟩
      exact PySem.W.kia_one (PySem.W.kitx_exc T.cl T.ga T.gt T.sb T.ac T.gn T.tk T.mo) I.kIn J e (fun z => nomatch z) fun tk => ⟨.bl b, H, I.kept (t' := tk) fun _ _ z => z, rfl, q⟩
/-! makings and static calls that may raise, the wish at the caller's slots -/
section
variable {X : Cx} {CX : CXT} {k n : Nat} {f C : Addr} {fd : FuncData} {ps ks : List Str} {sp : Sp} {E : L2.St → XK} {x : Str} {p pos : Pos} {e : Expr} {es : List Expr} {kws : List Keyword} {t tk : TA} {g : List Value → List Value → List Value} {gV : List V → List V → List V}
def tMakeNS (C : Addr) (n m : Nat) (sp : Sp) (gV : List V → List V → List V) (E : L2.St → XK) (t tk : TA) : TE := fun σ H Q => t σ H fun vs H1 => tk σ H1 fun zs H2 => vs.length = n ∧ zs.length = m ∧
  ∀ y dy, H2 y = none → H2 dy = none → dy ≠ y → sp (gV (.ref y :: vs) zs) (upd (upd H2 dy (.own y)) y (.ins C dy [])) (fun v H3 => v = .non ∧ Q (.ref y) H3) (E σ)
theorem run_makeNS {pn : List (Addr × Obj)} {σ : L2.St} {H : Hp} {s : Shared} {Q : VK} {us ws : List Value} {vs zs : List V} (M : Mk X.K C f) (F : FnOk X.prog X.w X.K X.mg X.base CX k f fd ps sp) (hr : Room (k + 1) X.A) (hb : KBn X.K fd ps (n + 1) ks g gV)
    (hx : PassesAt CX X σ (E σ)) (I : L2.Inv X pn σ H s) (ru : Vals vs us) (rw_ : Vals zs ws) (e1 : vs.length = n) (e2 : zs.length = ks.length)
    (h : ∀ y dy, H y = none → H dy = none → dy ≠ y → sp (gV (.ref y :: vs) zs) (upd (upd H dy (.own y)) y (.ins C dy [])) (fun v H3 => v = .non ∧ Q (.ref y) H3) (E σ)) : wpAny (model X.prog X.w) X.A (call (.ref C) us (ks.zip ws)) (EP X pn σ Q) X.xe s := by
  have J : L2.Inv X pn σ _ _ := L2.Inv.made (C := C) I
  have r1 : Vals (V.ref (s.heap.objs.size + 1) :: vs) (Value.ref (s.heap.objs.size + 1) :: us) := Paired.cons rfl ru
  have z1 : (Value.ref (s.heap.objs.size + 1) :: us).length = n + 1 := r1.length.symm.trans (congrArg (· + 1) e1)
  have z2 : ws.length = ks.length := rw_.length.symm.trans e2
  have hq := h (s.heap.objs.size + 1) s.heap.objs.size (I.hok.fresh (Nat.le_succ _)) (I.hok.fresh Nat.le.refl) (Nat.ne_of_lt (Nat.lt_succ_self _))
  have run := F.run _ X.stack _ _ ⟨Value.ref (s.heap.objs.size + 1) :: us, ks.zip ws⟩ (g (Value.ref (s.heap.objs.size + 1) :: us) ws) _ _ (E σ) (hr.make C us (ks.zip ws)) (J.env0.make C us (ks.zip ws)) (hb.to _ _ ws J.kIn z1 z2) (hb.rel r1 rw_) hq
  refine wpAny_call (make_map (f := f) I.kIn M.makes M.init (beq_iff_eq.mp M.fn) (codeAny_mono run fun r s2 z => ?_))
  match r, z with
  | .error er, z => exact hx pn _ _ er s2 J z
  | .ok (.ret u), z =>
    obtain ⟨v, H3, J3, rv, ev, q⟩ := J.after z
    subst ev
    exact ⟨rv, .ref (s.heap.objs.size + 1), H3, J3, rfl, q⟩
theorem pe_makeNS (M : Mk X.K C f) (F : FnOk X.prog X.w X.K X.mg X.base CX k f fd ps sp) (hr : Room (k + 1) X.A) (hg : Gl X x) (hm : X.mg x = some (.ref C)) (hb : KBn X.K fd ps (n + 1) ks g gV) (hx : ∀ σ, PassesAt CX X σ (E σ)) (hA : PA X (e :: es) t) (hK : PK X kws tk)
    (h1 : (backToKw pos (keywordEach kws X.env)).all (·.1.isSome) = true := by rfl) (h2 : (backToKw pos (keywordEach kws X.env)).filterMap (·.1) = ks := by rfl) (h3 : (x == ("__debug__" : Str)) = false := by decide)
    (h4 : starEach (e :: es) X.env = (false, eval e X.env) :: starEach es X.env := by rfl) (h5 : ((backTo pos (starEach (e :: es) X.env)).any (·.1) || (backToKw pos (keywordEach kws X.env)).any (·.1.isNone)) = false := by rfl) :
    PE X (.Call (.Name x p) (e :: es) kws pos) (tMakeNS C n ks.length sp gV E t tk) := by
  refine ⟨fun pn s σ H Q I h => wpAny_Call_Name_kw (ld_glob I hg hm ?_ h3)⟩
  refine PySem.W.callWith_KW (h₀ := X.base) I.ok.mod.kin M.kp h1 (thn (hA.run pos pn s σ H _ I h) fun us s1 hh => ?_) h5 h4
  obtain ⟨vs, H1, I1, r1, q⟩ := hh
  refine thn (hK.run pos pn s1 σ H1 _ I1 q) fun ws s2 hh => ?_
  obtain ⟨zs, H2, I2, r2, l1, l2, q2⟩ := hh
  refine ⟨I2.kIn, ?_⟩
  rw [h2]
  exact run_makeNS M F hr hb (hx σ) I2 r1 r2 l1 l2 q2
end
section
variable {X : Cx} {CX : CXT} {k : Nat} {f C : Addr} {sp : Sp} {E : L2.St → XK}
theorem run_fnRS {pn : List (Addr × Obj)} {σ : L2.St} {H : Hp} {s : Shared} {Q : VK} {us : List Value} {vs : List V} (F : FnR X.prog X.w X.K X.mg X.base CX k f sp) (hr : Room k X.A) (hx : PassesAt CX X σ (E σ)) (I : L2.Inv X pn σ H s) (r : Vals vs us) (h : sp vs H Q (E σ)) :
    wpAny (model X.prog X.w) X.A (call (.ref f) us) (EP X pn σ Q) X.xe s := by
  refine wpAny_call (codeAny_mono (F X.A X.stack s H us vs Q (E σ) hr I.env0 r h) fun z s2 y => ?_)
  match z, y with
  | .error er, y => exact hx pn H s er s2 I y
  | .ok (.ret u), y => exact I.after y
theorem run_makeRS {pn : List (Addr × Obj)} {σ : L2.St} {H : Hp} {s : Shared} {Q : VK} {us : List Value} {vs : List V} (M : Mk X.K C f) (F : FnR X.prog X.w X.K X.mg X.base CX k f sp) (hr : Room (k + 1) X.A) (hx : PassesAt CX X σ (E σ)) (I : L2.Inv X pn σ H s) (r : Vals vs us)
    (h : ∀ y dy, H y = Option.none → H dy = Option.none → dy ≠ y → sp (V.ref y :: vs) (upd (upd H dy (.own y)) y (.ins C dy [])) (fun v H2 => v = .non ∧ Q (.ref y) H2) (E σ)) : wpAny (model X.prog X.w) X.A (call (.ref C) us) (EP X pn σ Q) X.xe s := by
  have J : L2.Inv X pn σ _ _ := L2.Inv.made (C := C) I
  have r1 : Vals (V.ref (s.heap.objs.size + 1) :: vs) (Value.ref (s.heap.objs.size + 1) :: us) := Paired.cons rfl r
  have hq := h (s.heap.objs.size + 1) s.heap.objs.size (I.hok.fresh (Nat.le_succ _)) (I.hok.fresh Nat.le.refl) (Nat.ne_of_lt (Nat.lt_succ_self _))
  refine wpAny_call (make_map (f := f) I.kIn M.makes M.init (beq_iff_eq.mp M.fn) (codeAny_mono (F _ X.stack _ _ (Value.ref (s.heap.objs.size + 1) :: us) _ _ (E σ) (hr.make C us []) (J.env0.make C us []) r1 hq) fun z s2 y => ?_))
  match z, y with
  | .error er, y => exact hx pn _ _ er s2 J y
  | .ok (.ret u), y =>
    obtain ⟨v, H3, J3, rv, ev, q⟩ := J.after y
    subst ev
    exact ⟨rv, .ref (s.heap.objs.size + 1), H3, J3, rfl, q⟩
def tMethE (C : Addr) (m : Str) (sp : Sp) (E : L2.St → XK) (ta : TE) (t : TA) : TE := fun σ H Q => ta σ H fun x H1 => ∃ a dx fs, x = .ref a ∧ H1 a = some (.ins C dx fs) ∧ fs.lookup m = Option.none ∧ t σ H1 fun vs H2 => sp (.ref a :: vs) H2 Q (E σ)
theorem pe_methE {o e : Expr} {es : List Expr} {m : Str} {pos apos : Pos} {ta : TE} {t : TA} {pl : Sem Bool} (hO : PE X o ta) (c : Cls X.K C) (hm : Meth X.K C m f) (F : FnR X.prog X.w X.K X.mg X.base CX k f sp) (hr : Room k X.A) (hx : ∀ σ, PassesAt CX X σ (E σ)) (hA : PA X (e :: es) t)
    (h1 : starEach (e :: es) X.env = (false, eval e X.env) :: starEach es X.env := by rfl) (h2 : (backTo pos (starEach es X.env)).any (·.1) = false := by rfl)
    (hW : eval (.Call (.Attribute o m apos) (e :: es) [] pos) X.env = (do
      let ov ← eval o X.env
      standAt apos.atName
      let (f, first) ← holding [ov] (getMethod ov m pl)
      callWith pos f first (backTo pos (starEach (e :: es) X.env)) (backToKw pos (keywordEach [] X.env))) := by rfl) : PE X (.Call (.Attribute o m apos) (e :: es) [] pos) (tMethE C m sp E ta t) := by
  refine ⟨fun pn s σ H Q I h => PySem.W.methodCall_KW (pl := pl) (thn (hO.run pn s σ H _ I h) fun u s1 hh => ?_) hW⟩
  obtain ⟨x, H1, I1, rx, a, dx, fs, ex, ea, l, q⟩ := hh
  subst ex
  obtain rfl : u = Value.ref a := rx
  refine getmeth_ok I1 ea c hm l (PySem.W.callWith_K (first := [.ref a]) (h₀ := X.base) I.ok.mod.kin hm.kp (thn (hA.run pos pn s1 σ H1 _ I1 q) fun us s2 hh => ?_) h1 h2)
  obtain ⟨vs, H2, I2, r, q2⟩ := hh
  exact ⟨I2.kIn, run_fnRS (us := .ref a :: us) (vs := .ref a :: vs) F hr (hx σ) I2 (.cons rfl r) q2⟩
def tSMethE (C : Addr) (sp : Sp) (E : L2.St → XK) (ta : TE) (t : TA) : TE := fun σ H Q => ta σ H fun x H1 => x = .ref C ∧ t σ H1 fun vs H2 => sp vs H2 Q (E σ)
theorem pe_smethE {o e : Expr} {es : List Expr} {m : Str} {g q : Addr} {mc : Value} {pos apos : Pos} {ta : TE} {t : TA} {pl : Sem Bool} (hO : PE X o ta) (cr : ClX.CRead X.K C mc) (c : SMet X.K C mc m q g) (F : FnR X.prog X.w X.K X.mg X.base CX k g sp) (hr : Room k X.A) (hx : ∀ σ, PassesAt CX X σ (E σ)) (hA : PA X (e :: es) t)
    (h1 : starEach (e :: es) X.env = (false, eval e X.env) :: starEach es X.env := by rfl) (h2 : (backTo pos (starEach es X.env)).any (·.1) = false := by rfl)
    (hW : eval (.Call (.Attribute o m apos) (e :: es) [] pos) X.env = (do
      let ov ← eval o X.env
      standAt apos.atName
      let (f, first) ← holding [ov] (getMethod ov m pl)
      callWith pos f first (backTo pos (starEach (e :: es) X.env)) (backToKw pos (keywordEach [] X.env))) := by rfl) : PE X (.Call (.Attribute o m apos) (e :: es) [] pos) (tSMethE C sp E ta t) := by
  refine ⟨fun pn s σ H Q I h => PySem.W.methodCall_KW (pl := pl) (thn (hO.run pn s σ H _ I h) fun u s1 hh => ?_) hW⟩
  obtain ⟨x, H1, I1, rx, ex, y⟩ := hh
  subst ex
  obtain rfl : u = Value.ref C := rx
  obtain ⟨rest, hp⟩ := c.rc
  refine PySem.W.method_cls I1.kIn cr.ga (PySem.W.cls_bind I1.kIn cr.rd c.at_ (wpAny_call (PySem.W.sm_get (s := { s1 with toks := s1.toks + 1 }) I1.kIn hp (PySem.W.handed_on rfl ?_))))
  have I2 : L2.Inv X pn σ H1 { s1 with toks := s1.toks + 1 } := I1.tok _
  refine PySem.W.callWith_K (h₀ := X.base) I2.ok.mod.kin c.kp (thn (hA.run pos pn _ σ H1 _ I2 y) fun us s3 hh => ?_) h1 h2
  obtain ⟨vs, H2, I3, rv, q2⟩ := hh
  exact ⟨I3.kIn, run_fnRS F hr (hx σ) I3 rv q2⟩
end
end Vx
set_option Elab.async false
set_option linter.all false
set_option maxRecDepth 100000
set_option maxHeartbeats 4000000
namespace L2
open PySem PySem.Spec PyProof.Rows
theorem FnOk.imp' {P : Program} {w : World} {K : PySem.W.Frag} {mg : Str → Option Value} {base : Heap} {CX : CXT} {k : Nat} {f : Addr} {fd : FuncData} {ps : List Str} {sp sp' : Sp} (F : FnOk P w K mg base CX k f fd ps sp) (h : ∀ vs H Q E, sp' vs H Q E → sp vs H Q E) : FnOk P w K mg base CX k f fd ps sp' :=
  ⟨fun vs H Q E z => F.len vs H Q E (h _ _ _ _ z), fun A outer s H args us vs Q E hr e0 b r z => F.run A outer s H args us vs Q E hr e0 b r (h _ _ _ _ z)⟩
end L2
namespace Toy
open PySem PySem.Spec PyProof.Rows L2
theorem TyX.same {K : PySem.W.Frag} {H H' : Hp} {v : V} {t : Value} (h : TyX K H v t) (s : Same H H') : TyX K H' v t := by
  cases h with
  | base h =>
    cases h with
    | non => exact .base .non
    | bl x => exact .base (.bl x)
    | int x => exact .base (.int x)
    | str x => exact .base (.str x)
    | flt x => exact .base (.flt x)
    | lst e => exact .base (.lst (s _ _ e))
    | frz e => exact .base (.frz (s _ _ e))
    | tup e => exact .base (.tup (s _ _ e))
    | dK e => exact .base (.dK (s _ _ e))
    | dT e => exact .base (.dT (s _ _ e))
    | ins e cl a b c d => exact .base (.ins (s _ _ e) cl a b c d)
  | byt b => exact .byt b
  | set e => exact .set (s _ _ e)
  | kList e c => exact .kList e c
  | kTuple e c => exact .kTuple e c
  | kDict e c => exact .kDict e c
  | fTuple e => exact .fTuple (s _ _ e)
  | fDict e => exact .fDict (s _ _ e)
/-- what a value is as a number: a number, or none (a truth value is none) -/
inductive NV (K : PySem.W.Frag) (H : Hp) : V → Option Int → Prop
  | int (i : Int) : NV K H (.int i) (some i)
  | bl (b : Bool) : NV K H (.bl b) none
  | oth {v : V} {t : Value} (h : TyX K H v t) (k : PySem.W.kitOne K t (.type "int") = some false) (kb : PySem.W.kitOne K t (.type "bool") = some false) (n : ∀ i, v ≠ .int i) : NV K H v none
theorem NV.same {K : PySem.W.Frag} {H H' : Hp} {v : V} {o : Option Int} (h : NV K H v o) (s : Same H H') : NV K H' v o := by
  cases h with
  | int i => exact .int i
  | bl b => exact .bl b
  | oth h k kb n => exact .oth (TyX.same h s) k kb n
theorem NV.non {K : PySem.W.Frag} {H : Hp} : NV K H .non none := .oth (t := .type "NoneType") (.base .non) (kit_ty (by decide +kernel)) (kit_ty (by decide +kernel)) (fun _ z => nomatch z)
theorem NV.str {K : PySem.W.Frag} {H : Hp} (z : Str) : NV K H (.str z) none := .oth (t := .type "str") (.base (.str z)) (kit_ty (by decide +kernel)) (kit_ty (by decide +kernel)) (fun _ z => nomatch z)
theorem NV.lst {K : PySem.W.Frag} {H : Hp} {a : Addr} {xs : List V} (h : H a = some (.lst xs)) : NV K H (.ref a) none := .oth (t := .type "list") (.base (.lst h)) (kit_ty (by decide +kernel)) (kit_ty (by decide +kernel)) (fun _ z => nomatch z)
theorem NV.tup {K : PySem.W.Frag} {H : Hp} {a : Addr} {xs : List V} (h : H a = some (.tup xs)) : NV K H (.ref a) none := .oth (t := .type "tuple") (.base (.tup h)) (kit_ty (by decide +kernel)) (kit_ty (by decide +kernel)) (fun _ z => nomatch z)
def btw (o : Option Int) (l h : Int) : Bool := match o with
  | some i => decide (l ≤ i ∧ i ≤ h)
  | none => false
structure NmI (mg : Str → Option Value) : Prop where
  isi : mg "isinstance" = none
  int : mg "int" = none
  bool : mg "bool" = none
section
variable {P : Program} {w : World} {K : PySem.W.Frag} {mg : Str → Option Value} {base : Heap}
def spWholeG (K : PySem.W.Frag) : Sp := fun vs H Q _ => ∃ (v : V) (o : Option Int), vs = [v] ∧ NV K H v o ∧ Q (.bl o.isSome) H
theorem ok_wholeG {f : Addr} {fd : FuncData} (F : Fun K "is_whole" "is_whole" s_is_whole f fd) (T : NmI mg) : FnOk P w K mg base CX0 1 f fd ["value"] (spWholeG K) := by
  refine F.ok sc_is_whole (fun vs H Q E h => ?_) (fun cdv A outer s H vs Q E hr h => ?_)
  · obtain ⟨v, o, rfl, _⟩ := h
    rfl
  · obtain ⟨v, o, rfl, hv, q⟩ := h
    refine ⟨_, pss_one (ps_ret (pe_and (pe_callB call_isi (by rfl) T.isi (by decide +kernel) (pa_cons (pv 0) (pa_cons (pe_bltn (v := .ty "int") (by rfl) T.int (by decide +kernel) rfl) pa_nil)))
      (pe_one (pe_not (pe_callB call_isi (by rfl) T.isi (by decide +kernel) (pa_cons (pv 0) (pa_cons (pe_bltn (v := .ty "bool") (by rfl) T.bool (by decide +kernel) rfl) pa_nil))))))), ?_⟩
    cases hv with
    | int i => exact ⟨_, rfl, .int i, .ty "int", _, _, true, rfl, .ty _, .base (.int i), kit_ty (by decide +kernel), true, rfl, iteT ⟨_, rfl, .int i, .ty "bool", _, _, false, rfl, .ty _, .base (.int i), kit_ty (by decide +kernel), false, rfl, q⟩⟩
    | bl b => exact ⟨_, rfl, .bl b, .ty "int", _, _, true, rfl, .ty _, .base (.bl b), kit_ty (by decide +kernel), true, rfl, iteT ⟨_, rfl, .bl b, .ty "bool", _, _, true, rfl, .ty _, .base (.bl b), kit_ty (by decide +kernel), true, rfl, q⟩⟩
    | oth ht k kb n => exact ⟨_, rfl, v, .ty "int", _, _, false, rfl, .ty _, ht, k, false, rfl, iteF q⟩
def spBetwG (K : PySem.W.Frag) : Sp := fun vs H Q _ => ∃ (v : V) (o : Option Int) (l h : Int), vs = [v, .int l, .int h] ∧ NV K H v o ∧ Q (.bl (btw o l h)) H
theorem NV.some_eq {H : Hp} {v : V} {i : Int} (h : NV K H v (some i)) : v = .int i := by
  cases h
  rfl
theorem ok_betwG {f fW : Addr} {fd fdW : FuncData} (F : Fun K "is_between" "is_between" s_is_between f fd) (GW : FnOk P w K mg base CX0 1 fW fdW ["value"] (spWholeG K)) (kW : PySem.W.keepIn K (.ref fW) = true) (bW : L2.Binds K fdW ["value"] []) (gW : mg "is_whole" = some (.ref fW)) :
    FnOk P w K mg base CX0 2 f fd ["value", "low", "high"] (spBetwG K) := by
  refine F.ok sc_is_between (fun vs H Q E h => ?_) (fun cdv A outer s H vs Q E hr h => ?_)
  · obtain ⟨v, o, l, h, rfl, _⟩ := h
    rfl
  · obtain ⟨v, o, l, u, rfl, hv, q⟩ := h
    refine ⟨_, pss_one (ps_ret (pe_and (pe_call GW hr (by rfl) gW kW bW .nil pass0 (pa_cons (pv 0) pa_nil)) (pe_one (pe_chain op_le op_le (pv 1) (pv 0) (pv 2))))), ?_⟩
    refine ⟨_, rfl, v, o, rfl, hv, o.isSome, rfl, ?_⟩
    cases o with
    | none => exact iteF q
    | some i =>
      obtain rfl := hv.some_eq
      refine iteT ⟨_, rfl, _, rfl, l, i, rfl, rfl, decide (l ≤ i), rfl, ?_⟩
      by_cases h1 : l ≤ i
      · rw [decide_eq_true h1]
        refine iteT ⟨_, rfl, i, u, rfl, rfl, ?_⟩
        have e : btw (some i) l u = decide (i ≤ u) := by by_cases h2 : i ≤ u <;> simp [btw, h1, h2]
        rw [e] at q
        exact q
      · rw [decide_eq_false h1]
        have e : btw (some i) l u = false := by simp [btw, h1]
        rw [e] at q
        exact iteF q
end
end Toy
set_option Elab.async false
set_option linter.all false
set_option maxRecDepth 100000
set_option maxHeartbeats 4000000
namespace Gd
open PySem PySem.Spec PyProof.Rows L2
/-! promises that are kept where no repr is under way: what repr of a list or a tuple asks -/
abbrev Calm0 (A : Around) : Prop := A.guards = some []
def FnG (P : Program) (w : World) (K : PySem.W.Frag) (mg : Str → Option Value) (base : Heap) (CX : CXT) (k : Nat) (f : Addr) (sp : Sp) : Prop :=
  ∀ (A : Around) (outer : List Env) (s : Shared) (H : Hp) (us : List Value) (vs : List V) (Q : VK) (E : XK), Calm0 A → Room k A → Env0 P w K mg base A outer s H → Vals vs us → sp vs H Q E →
    codeAny (model P w) A (.call (.ref f) ⟨us, []⟩) (CR CX outer P w H s Q E) s
section
variable {P : Program} {w : World} {K : PySem.W.Frag} {mg : Str → Option Value} {base : Heap} {k : Nat} {f : Addr} {fd : FuncData} {x qual : Str} {st : Stmt} {N ps : List Str} {sp : Sp}
theorem FnG.of {CX : CXT} (F : FnR P w K mg base CX k f sp) : FnG P w K mg base CX k f sp := fun A o s H us vs Q E _ hr e r h => F A o s H us vs Q E hr e r h
/-- a def by its body, run where no repr is under way -/
theorem fnG_ok (F : Fun K x qual st f fd) (S : FnScope N ps (defScope st)) (B : L2.Binds K fd ps []) (len : ∀ vs H Q E, sp vs H Q E → vs.length = ps.length)
    (body : ∀ (cdv : Value) (A : Around) (outer : List Env) (s : Shared) (H : Hp) (vs : List V) (Q : VK) (E : XK), Calm0 A → Room k (A.deeper (envOfC qual (defScope st) s.heap.objs.size f cdv)) → sp vs H Q E →
      ∃ t, PSs (cxOf CX0 P w K mg base N qual (defScope st) f cdv A outer s H E).nox (defBody st) t ∧ t { nx := fun _ G => Q .non G, rt := Q } (start N vs) H) : FnG P w K mg base CX0 (k + 1) f sp := by
  obtain ⟨oc, od, kV, doc, pm, an, cdv, ct, osl, rfl, lk, hcd⟩ := F.ex
  intro A outer s H us vs Q E g room e r h
  have n1 : vs.length = ps.length := len vs H Q E h
  have inH : K.In s.heap := e.mod.kin.keeps (fun b o z => (e.bs b o z).left)
  have nolim : s.heap.NoLimit := e.mod.nolimit.keeps (fun b o z => (e.bs b o z).left)
  have bd := B s us inH (by rw [List.append_nil, ← r.length]; exact n1)
  rw [List.append_nil] at bd
  have kinds : ∀ q ∈ ps.zip us, (defScope st).names.lookup q.1 = some .local ∨ ((defScope st).names.lookup q.1 = some .cell ∧ ((cellsFrom (s.heap.objs.size + 1) (defScope st).names []).lookup q.1).isSome = true) := by
    rintro ⟨n, v⟩ hq
    cases S.par n (List.of_mem_zip hq).1 with
    | inl z => exact Or.inl z
    | inr z => exact Or.inr ⟨z, PySem.W.cellsFrom_some _ _ _ (Or.inl z)⟩
  obtain ⟨t, ht, q⟩ := body cdv A outer s H vs Q E g (room.deeper _) h
  apply codeAny_call_function room.depth (inH _ _ lk) rfl S.co S.gen rfl (PySem.W.codeRec_of inH hcd) (bd _ _ _ _ _)
  apply wpAny_newFunctionEnv_cells S.kind kinds
  intro env he s1 z
  subst he
  refine And.intro (nolim.keeps z.toInCall.keep) (codeAny_func ?_)
  have I := inv_start (CX := CX0) (E := E) S room.hd e n1 r z
  apply wpAny_mono (ht.nox.run [] s1 (start N vs) H _ I q) (fun fl s2 hs => ?_) (fun _ _ hs => hs)
  cases fl with
  | ret u => obtain ⟨v, σ2, H2, J, rv, z2⟩ := hs; exact ⟨v, H2, J.os, J.bare, J.base, J.hok, rv, z2⟩
  | next => obtain ⟨σ2, H2, J, z2⟩ := hs; exact ⟨V.non, H2, J.os, J.bare, J.base, J.hok, rfl, z2⟩
  | brk => exact hs.elim fun _ z2 => z2.elim fun _ z3 => z3.2.elim
  | cont => exact hs.elim fun _ z2 => z2.elim fun _ z3 => z3.2.elim
end
section
variable {X : Cx} {CX : CXT} {k : Nat} {f : Addr} {sp : Sp} {E : XK} {x : Str} {p pos : Pos} {e : Expr} {es : List Expr} {t : TA}
theorem pe_callG (F : FnG X.prog X.w X.K X.mg X.base CX k f sp) (g : Calm0 X.A) (hr : Room k X.A) (hg : Gl X x) (hm : X.mg x = some (.ref f)) (hk : PySem.W.keepIn X.K (.ref f) = true) (hx : Passes CX X E)
    (ha : PA X (e :: es) t) (hdb : (x == ("__debug__" : Str)) = false := by decide) (he : starEach (e :: es) X.env = (false, eval e X.env) :: starEach es X.env := by rfl) (hpl : (backTo pos (starEach es X.env)).any (·.1) = false := by rfl) :
    PE X (.Call (.Name x p) (e :: es) [] pos) (tCall sp [] E t) := by
  constructor
  intro pins s σ H Q I h
  apply wpAny_Call_Name_kw (ld_glob I hg hm ?_ hdb)
  apply PySem.W.callWith_K (h₀ := X.base) I.ok.mod.kin hk (thn (ha.run pos pins s σ H _ I h) fun us s1 ⟨vs, H1, I1, r, q⟩ => ⟨I1.kIn, ?_⟩) he hpl
  have q : sp vs H1 Q E := by
    have z : sp (vs ++ []) H1 Q E := q
    rwa [List.append_nil] at z
  refine wpAny_call (codeAny_mono (F _ _ _ _ _ _ _ _ g hr I1.env0 r q) fun z s2 hq => ?_)
  match z, hq with
  | .error u, hq => exact hx pins σ H1 s1 u s2 I1 hq
  | .ok (.ret u), hq => exact I1.after hq
end
/-! repr of data -/
def okShow : PyData → Bool
  | .int i => decide (i.natAbs.log2 < 1920)
  | d => d.showable && !d.hasDict && decide (d.depth ≤ 8) && decide (d.shown.length ≤ 1000000)
theorem show_of {d : PyData} (n : ∀ i, d ≠ .int i) (h : okShow d = true) : d.showable = true ∧ d.hasDict = false ∧ d.depth ≤ 8 ∧ d.shown.length ≤ sizeLine := by
  cases d with
  | int i => exact (n i rfl).elim
  | _ =>
    simp only [okShow, Bool.and_eq_true, decide_eq_true_eq, Bool.not_eq_true'] at h
    exact ⟨h.1.1.1, h.1.1.2, h.1.2, Nat.le_trans h.2 (by decide)⟩
theorem call_reprD {X : Cx} (g : Calm0 X.A) (hu : X.A.units + 64 < cLine) : CallR X (.builtin "repr") (fun xs H Q => ∃ v d, xs = [v] ∧ Dp X.K H v d ∧ okShow d = true ∧ Q (.str d.shown) H) := by
  intro pins s σ H xs us Q I r ⟨v, d, e, hd, ok, q⟩
  subst e
  obtain ⟨u, rfl, ru⟩ := vals1 r
  cases hd with
  | non => cases ru; exact PySem.P.repr_of_none ⟨.str _, H, I.tok _, ⟨_, rfl⟩, q⟩
  | bl b => cases ru; exact PySem.P.repr_of_bool ⟨.str _, H, I.tok _, ⟨_, rfl⟩, q⟩
  | int i => obtain ⟨t, rfl⟩ := ru; exact PySem.P.repr_of_int (of_decide_eq_true ok) ⟨.str _, H, I.tok _, ⟨_, rfl⟩, q⟩
  | str z => obtain ⟨t, rfl⟩ := ru; exact PySem.P.repr_of_str ⟨.str _, H, I.tok _, ⟨_, rfl⟩, q⟩ (show_of (by intro i e; cases e) ok).2.2.2
  | lst h1 h2 =>
    obtain ⟨o1, o2, o3, o5⟩ := show_of (by intro i e; cases e) ok
    obtain ⟨as, rd⟩ := Dp.reads I _ _ _ (Dp.lst h1 h2) ru
    cases ru
    exact repr_of_reads' rd o1 (fun z => by rw [o2] at z; cases z) g (by omega) (fun _ _ z => z) (fun h' u tk hk => ⟨.str _, H, I.kept hk, ⟨_, rfl⟩, q⟩) o5
  | tup h1 h2 =>
    obtain ⟨o1, o2, o3, o5⟩ := show_of (by intro i e; cases e) ok
    obtain ⟨as, rd⟩ := Dp.reads I _ _ _ (Dp.tup h1 h2) ru
    cases ru
    exact repr_of_reads' rd o1 (fun z => by rw [o2] at z; cases z) g (by omega) (fun _ _ z => z) (fun h' u tk hk => ⟨.str _, H, I.kept hk, ⟨_, rfl⟩, q⟩) o5
/-! the head of a law that is kept where no repr is under way -/
section
variable {P : Program} {w : World} {K : PySem.W.Frag} {mg mb : Str → Option Value} {k : Nat} {fa a : Addr} {sp : Sp} {s : Shared} {vs : List Value} {ns : List Int}
/-- what the law's run is to give -/
abbrev Gives (s : Shared) (r : Result) (s2 : Shared) : Prop := r = .ok (.ret (.bool true)) ∧ OldK s.heap s2.heap ∧ s2.os = s.os ∧ AllBare s2.gens
/-- the ground of a heap H that tracks at most the script -/
theorem ground_of {H : Hp} (inH : K.In s.heap) (g : s.heap.Ns mainGlobals mg) (b : s.heap.Ns builtinsNs mb) (bb : ∀ x : Str, x ≠ "__name__" → mb x = bootBuiltins x) (nl : s.heap.NoLimit) (ng : s.gens = #[])
    (sc : s.heap.get? a = some { cls := .type "list", data := .seq vs.toArray }) (ok : HOk P w H s.heap) (one : ∀ b u, H b = some u → b = a ∧ K.lookup a = none) :
    K.In (hidT s.heap H) ∧ (hidT s.heap H).Ns mainGlobals mg ∧ Env0 P w K mg (hidT s.heap H) callerA [] s H := by
  have open_ : ∀ {b : Addr} {o : Obj}, s.heap.get? b = some o → b ≠ a → (hidT s.heap H).get? b = some o := fun {b o} e n => hidT_get e (by
    cases z : H b with
    | none => rfl
    | some u => exact (n (one b u z).1).elim)
  have names : ∀ {b : Addr} {m : Str → Option Value}, s.heap.Ns b m → (hidT s.heap H).Ns b m := by
    rintro b m ⟨o, es, ep, e, d, r⟩
    refine ⟨o, es, ep, open_ e ?_, d, r⟩
    rintro rfl
    rw [e] at sc
    cases sc
    cases d
  have inG : K.In (hidT s.heap H) := fun b o e => by
    by_cases z : b = a
    · subst z
      refine hidT_get (inH b o e) ?_
      cases y : H b with
      | none => rfl
      | some u => rw [(one b u y).2] at e; cases e
    · exact open_ (inH b o e) z
  obtain ⟨mc, l1, l2⟩ := nl
  exact ⟨inG, names g, ⟨rfl, ⟨inG, names g, ⟨mb, names b, bb⟩, ⟨mc, names l1, l2⟩⟩, fun b o e => of_hidT e, Nat.le_of_eq (hidT_size _ _), trivial, fun b hb => (nomatch hb), ok, .of_eq ng⟩⟩
theorem law_runG (inH : K.In s.heap) (g : s.heap.Ns mainGlobals mg) (b : s.heap.Ns builtinsNs mb) (bb : ∀ x : Str, x ≠ "__name__" → mb x = bootBuiltins x) (nl : s.heap.NoLimit) (ng : s.gens = #[])
    (sc : s.heap.get? a = some { cls := .type "list", data := .seq vs.toArray }) (hi : IntsAre vs ns) (hl : ns.length ≤ sizeLine) (hr : Room k callerA)
    (F : ∀ base : Heap, K.In base → base.Ns mainGlobals mg → FnG P w K mg base CX0 k fa sp) (hsp : ∀ H : Hp, SqL K H a (ns.map V.int) → sp [.ref a] H (fun v _ => v = .bl true) fun _ _ _ => False) :
    codeAny (model P w) callerA (.call (.ref fa) ⟨[.ref a], []⟩) (Gives s) s := by
  have rv := vals_ints hi
  have small : (ns.map V.int).length ≤ sizeLine := by rw [List.length_map]; exact hl
  have way : ∀ H : Hp, (∀ b u, H b = some u → ∃ o xs, u = .frz o (.lst xs)) → SqL K H a (ns.map V.int) → HOk P w H s.heap → (∀ b u, H b = some u → b = a ∧ K.lookup a = none) → codeAny (model P w) callerA (.call (.ref fa) ⟨[.ref a], []⟩) (Gives s) s := by
    intro H fz S ok one
    obtain ⟨g1, g2, g3⟩ := ground_of inH g b bb nl ng sc ok one
    refine codeAny_mono (F _ g1 g2 callerA [] s H [.ref a] [V.ref a] _ _ rfl hr g3 (.cons rfl .nil) (hsp H S)) fun r s2 h => ?_
    match r, h with
    | .ok (.ret u), ⟨v, H2, os, bare, un, ok2, ru, q⟩ =>
      have q : v = .bl true := q
      subst q
      have ru : u = Value.bool true := ru
      subst ru
      refine ⟨rfl, OldK.of_keep fun c o e => ?_, os, bare⟩
      cases z : H c with
      | none => exact un.keep c o e z (by intro y; cases y) (by simp)
      | some u =>
        obtain ⟨ob, xs, rfl⟩ := fz c u z
        have e1 := (ok c _ z).1
        rw [e] at e1
        cases e1
        exact (ok2 c _ (un.frzs c o _ z)).1
  cases own : K.lookup a with
  | some o =>
    have e := inH a o own
    rw [sc] at e
    cases e
    exact way (fun _ => none) (fun _ _ z => nomatch z) (.inr ⟨_, vs.toArray, _, own, rfl, rfl, rfl, by rw [List.size_toArray, hi.length]; exact hl, by simpa using rv⟩) (fun _ _ z => nomatch z) (fun _ _ z => nomatch z)
  | none =>
    have at_ : ∀ b u, (if b = a then some (HO.frz { cls := .type "list", data := .seq vs.toArray } (.lst (ns.map V.int))) else none) = some u → b = a ∧ u = .frz { cls := .type "list", data := .seq vs.toArray } (.lst (ns.map V.int)) := fun b u z => by
      by_cases y : b = a
      · rw [if_pos y] at z; cases z; exact ⟨y, rfl⟩
      · rw [if_neg y] at z; cases z
    refine way (fun b => if b = a then some (.frz { cls := .type "list", data := .seq vs.toArray } (.lst (ns.map V.int))) else none) (fun b u z => ⟨_, _, (at_ b u z).2⟩) (.inl (.inr ⟨_, if_pos rfl⟩)) (fun b u z => ?_) (fun b u z => ⟨(at_ b u z).1, own⟩)
    obtain ⟨rfl, rfl⟩ := at_ b u z
    exact ⟨sc, small, vs, _, rv, sc⟩
end
theorem walkG {l : PySem.W.OpenLaw} {n k : Nat} {q : Program} {loose : List Str} {XP : (Str → Option Value) → Heap → Prop} {YP : World → Heap → Prop} {d : DefRec} {K : Params → PySem.W.Frag} {sp : PySem.W.Frag → Sp}
    (hn : l.most = some n) (n2 : n ≤ sizeLine) (hdf : d.params.defaults = []) (hr : Room k callerA) (hY : ∀ (w : World) (h : Heap), YP w h → (K w.params).In h)
    (F : ∀ (w : World) (mg : Str → Option Value) (fa : Addr) (h : Heap), (K w.params).In h → h.Ns mainGlobals mg → mg d.name = some (.ref fa) → ∀ base : Heap, (K w.params).In base → base.Ns mainGlobals mg → FnG l.prog w (K w.params) mg base CX0 k fa (sp (K w.params)))
    (hsp : ∀ (K : PySem.W.Frag) (H : Hp) (a : Addr) (ns : List Int), ns.length ≤ n → SqL K H a (ns.map V.int) → sp K [.ref a] H (fun v _ => v = .bl true) fun _ _ _ => False) :
    PySem.W.WalkO q loose XP YP l.row.toRowW d [] (fun f vs => PySem.call f vs) := by
  apply Att.attach_call hn hdf
  intro w s₀ s₁ mg mb fa o pm cd doc a vs ns G Y ho hd hcd hmg hobj hints hlen hg
  exact law_runG (hY w _ Y) G.T.g G.T.b G.T.builtins G.T.nolimit hg hobj hints (Nat.le_trans hlen n2) hr (F w mg fa _ (hY w _ Y) G.T.g hmg) (fun H S => hsp _ H a ns hlen S)
end Gd
set_option Elab.async false
set_option linter.all false
set_option maxRecDepth 100000
set_option maxHeartbeats 4000000
namespace Vx
open PySem PySem.Spec PyProof.Rows L2
/-- o cmp y by the own method; y of any class that does not come first -/
def rCmpA (K : PySem.W.Frag) (C : Addr) (sp : Sp) (E : XK) : R2 := fun x y H Q => (∃ a dx fs, x = .ref a ∧ H a = some (.ins C dx fs)) ∧ (∃ t, TyX K H y t ∧ PySem.W.notFirst K C t = true) ∧ sp [x, y] H Q E
theorem op_cmpAny {X : Cx} {CX : CXT} {k : Nat} {C f : Addr} {sp : Sp} {E : XK} {op : CmpOp} (hc : ∀ v u, compareOp op v u = richCompare op v u) (at_ : PySem.W.findIn X.K (.ref C) (cmpInfo op).2.1 = some (some (.ref f))) (fn : PySem.W.isFn X.K (.ref f) = true)
    (F : FnR X.prog X.w X.K X.mg X.base CX k f sp) (hr : Room k X.A) (hx : Passes CX X E) : OpR X (compareOp op) (rCmpA X.K C sp E) := by
  intro pins s σ H x y v u Q I rx ry hq
  obtain ⟨⟨a, dx, fs, rfl, ha⟩, ⟨t, ty, nf⟩, hsp⟩ := hq
  have ev : v = Value.ref a := rx
  have cl := call_cmp F hr hx I (us := [v, u]) (vs := [V.ref a, y]) (.cons rx (.cons ry .nil)) hsp
  subst ev
  obtain ⟨mA, J, _⟩ := ins_get I.hok ha
  obtain ⟨od, J, _⟩ := J.look
  obtain ⟨m, hF⟩ := I.fr
  obtain ⟨PP, KX, hP, _⟩ := L2.kit_of I ry ty
  rw [hc]
  exact PySem.W.cmp_K hr.units0 hF I.ok.mod.kin J (KX.ty _ _ I.kIn hP) nf at_ fn cl
end Vx
namespace Toy
open PySem PySem.Spec PyProof.Rows L2
/-! ### own errors -/
/-- what the text says of an own error class: its attribute f, its __init__ at fI -/
structure Err (P : Program) (w : World) (K : PySem.W.Frag) (mg : Str → Option Value) (base : Heap) (x f : Str) (C fI : Addr) (fd : FuncData) (sp : Sp) : Prop where
  T : OexC K C
  no : PySem.W.findIn K (.ref C) f = some none
  gC : mg x = some (.ref C)
  iC : PySem.W.findIn K (.ref C) "__init__" = some (some (.ref fI))
  tI : PySem.W.typeIn K (.ref fI) = some (.type "function")
  F : FnOk P w K mg base CX0 1 fI fd ["self", f] sp
  b : L2.Binds K fd ["self", f] []
def spErr (K : PySem.W.Frag) (f : Str) : Sp := fun vs H Q _ => ∃ (a C : Addr) (v : V), vs = [.ref a, v] ∧ OexC K C ∧ PySem.W.findIn K (.ref C) f = some none ∧ H a = some (exo a C none) ∧ ∀ d, H d = none → d ≠ a → Q .non (upd (upd H d (exd d [(f, v)])) a (exo a C (some d)))
theorem err_end {K : PySem.W.Frag} {f : Str} {C a : Addr} {v : V} {H : Hp} {E : XK} (T : OexC K C) (no : PySem.W.findIn K (.ref C) f = some none) (na : H a = none)
    (q : ∀ H' d, Same H H' → H d = none → H' d = some (.xd [(f, v)]) → E (.ref C) (some d) H') :
    spErr K f (.ref a :: ([v] ++ [])) (upd H a (exo a C none)) (fun u H2 => u = .non ∧ ∃ (d : Addr) (fs : List (Str × V)), H2 a = some (exo a C (some d)) ∧ H2 d = some (exd d fs) ∧ H d = none ∧ E (.ref C) (some d) (upd (del H2 a) d (.xd fs))) (fun _ _ _ => False) := by
  refine ⟨a, C, v, rfl, T, no, upd_same, fun d hd ne => ⟨rfl, d, _, upd_same, by rw [upd_ne ne]; exact upd_same, ?_, ?_⟩⟩
  · rw [upd_ne ne] at hd
    exact hd
  · rw [upd_ne ne] at hd
    refine q _ d (fun b o e => ?_) hd upd_same
    have nba : b ≠ a := ne_of_none e na
    have nbd : b ≠ d := ne_of_none e hd
    rw [upd_ne nbd, del_ne nba, upd_ne nba, upd_ne nbd, upd_ne nba]
    exact e
section
variable {P : Program} {w : World} {K : PySem.W.Frag} {mg : Str → Option Value} {base : Heap}
theorem ok_BadMarks_init {f D : Addr} {mc : Value} {fd : FuncData} (F : Fun K "__init__" "BadMarks.__init__" s_BadMarks_init f fd) (gD : mg "PagesError" = some (.ref D)) (U : Vx.UpC K D mc) : FnOk P w K mg base CX0 1 f fd ["self", "at"] (spErr K "at") := by
  refine F.ok sc_BadMarks_init (fun vs H Q E h => ?_) (fun cdv A outer s H vs Q E hr h => ?_)
  · obtain ⟨a, C, v, rfl, _⟩ := h
    rfl
  · obtain ⟨a, C, v, rfl, T, no, ha, q⟩ := h
    refine ⟨_, pss_cons (ps_expr (Vx.pe_up (pe_glob (v := .ref D) (by rfl) gD rfl) U (pa_cons (pv 0) (pa_cons pe_str pa_nil)))) (pss_one (ps_ost (pv 0) (pv 1))), ?_⟩
    exact ⟨rfl, _, rfl, a, C, _, rfl, (by decide), T, ha, _, rfl, _, rfl, a, C, rfl, T, no, .inl ⟨ha, fun d nd ne => q d nd ne⟩⟩
end
end Toy
set_option Elab.async false
set_option linter.all false
set_option maxRecDepth 100000
set_option maxHeartbeats 4000000
namespace Toy
open PySem PySem.Spec PyProof.Rows L2
structure Cal (P : Program) (w : World) (K : PySem.W.Frag) (mg : Str → Option Value) (base : Heap) (CX : CXT) (k : Nat) (f : Addr) (fd : FuncData) (x : Str) (ps : List Str) (sp : Sp) : Prop where
  G : FnOk P w K mg base CX k f fd ps sp
  k : PySem.W.keepIn K (.ref f) = true
  b : L2.Binds K fd ps []
  g : mg x = some (.ref f)
theorem sum_vi (l : List Nat) : (l.map fun (k : Nat) => (k : Int)).sum = ((l.sum : Nat) : Int) := by
  induction l with
  | nil => rfl
  | cons a r ih => rw [List.map_cons, List.sum_cons, List.sum_cons, ih, Int.natCast_add]
theorem map_int_vi (l : List Nat) : (l.map fun (k : Nat) => (k : Int)).map V.int = l.map vi := by
  rw [List.map_map]
  rfl
theorem neF {x y : V} (h : x = y) : V.bl (!decide (x = y)) = V.bl false := by rw [decide_eq_true h]; rfl
end Toy
set_option Elab.async false
set_option linter.all false
set_option maxRecDepth 100000
set_option maxHeartbeats 4000000
namespace Vx
open PySem PySem.SeqAt
open AutoSeq1 (wpAny_loadPart')
open MeetsSeq MeetsSeq2 MeetsSeq3 SeqRoads2
/-- c at k places from i on -/
def allC (c : Nat → Bool) : Nat → Nat → Bool
  | _, 0 => true
  | i, k + 1 => c i && allC c (i + 1) k
section
variable {prog : Program} {w : World} {A : Around} {R : Result → Shared → Prop}
def ListB (prog : Program) (w : World) (A : Around) (E : Value → Shared → Prop) (l b : Addr) (N : Nat) (J : Shared → Prop) (c : Nat → Bool) : Prop :=
  ∀ i s, J s → ∃ (items items2 : Array Value) (n n2 : Nat), s.heap.get? l = some { cls := .type "list", data := .seq items n } ∧ s.heap.get? b = some { cls := .type "list", data := .seq items2 n2 } ∧ items.size = N ∧ items2.size = N ∧
    ∀ (h1 : i < items.size) (h2 : i < items2.size), wpAny (model prog w) A.in1 (eqBool items[i] items2[i]) (fun r s' => r = c i ∧ J s') E s
theorem eq_loopB (l b : Addr) (N : Nat) (J : Shared → Prop) (c : Nat → Bool) (hl : ListB prog w A (fun e s' => R (.error e) s') l b N J c) (k : Nat) :
    ∀ i : Nat, N - i = k → i ≤ N → ∀ s, J s → (∀ s, J s → R (.ok (.ret (.bool (allC c i k)))) s) →
      wpAny (model prog w) A.in1 (Builtin.«list.__eq__.loop» ⟨[.ref l, .ref b, rawInt i, rawInt 2], []⟩) (GQ.FinOf prog w A R) (fun e s' => R (.error e) s') s := by
  induction k with
  | zero =>
    intro i hk hi s h fin
    obtain ⟨items, items2, n, n2, hl1, hb1, hs1, hs2, _⟩ := hl i _ h
    have hi' : i = N := by omega
    have hR : R (.ok (.ret (.bool true))) s := fin s h
    obtain ⟨hp, g, d, tk, os⟩ := s
    wp_walk using wpAny_loadPart' hl1, wpAny_loadPart' hb1
    have hi1 : items[((i : Nat) : Int).toNat]? = none := by simp; omega
    have hi2 : items2[((i : Nat) : Int).toNat]? = none := by simp; omega
    rw [hi1, hi2]
    wp_walk using wpAny_loadPart' hl1, wpAny_loadPart' hb1
    show R (.ok (.ret (.bool (items.size == items2.size)))) _
    rw [hs1, hs2]
    simpa using hR
  | succ k ih =>
    intro i hk hi s h fin
    obtain ⟨items, items2, n, n2, hl1, hb1, hs1, hs2, turn⟩ := hl i _ h
    have hlt : i < items.size := by omega
    have hlt2 : i < items2.size := by omega
    have ht := turn hlt hlt2
    obtain ⟨hp, g, d, tk, os⟩ := s
    wp_walk using wpAny_loadPart' hl1, wpAny_loadPart' hb1
    have hi1 : items[((i : Nat) : Int).toNat]? = some items[i] := by simp [hlt]
    have hi2 : items2[((i : Nat) : Int).toNat]? = some items2[i] := by simp [hlt2]
    have hc : ((i : Int) + 1) = ((i + 1 : Nat) : Int) := by omega
    rw [hi1, hi2]
    refine wpAny_bind (wpAny_mono ht (fun r s2 h2 => ?_) fun _ _ x => x)
    obtain ⟨hr, h2⟩ := h2
    cases hci : c i with
    | true =>
      rw [hci] at hr
      subst hr
      have hrec := ih (i + 1) (by omega) (by omega) s2 h2 (fun s hs => by
        have z := fin s hs
        unfold allC at z
        rw [hci, Bool.true_and] at z
        exact z)
      obtain ⟨hp2, g2, d2, tk2, os2⟩ := s2
      wp_walk
      rw [hc]
      exact ⟨plainId_quiet plain_eq_loop _, codeAny_builtin entry_eq_loop (by
        rw [Around.under_plainId plain_eq_loop _]
        exact hrec)⟩
    | false =>
      rw [hci] at hr
      subst hr
      have hR : R (.ok (.ret (.bool false))) s2 := by
        have z := fin s2 h2
        unfold allC at z
        rw [hci, Bool.false_and] at z
        exact z
      obtain ⟨jt, jt2, m, m2, hl3, hb3, hs3, hs4, _⟩ := hl i _ h2
      obtain ⟨hp2, g2, d2, tk2, os2⟩ := s2
      wp_walk using wpAny_loadPart' hl3, wpAny_loadPart' hb3
      have hj1 : jt[((i : Nat) : Int).toNat]? = some (jt[i]'(by omega)) := by simp
      have hj2 : jt2[((i : Nat) : Int).toNat]? = some (jt2[i]'(by omega)) := by simp
      rw [hj1, hj2]
      wp_walk
      exact hR
theorem list_eqB (l b : Addr) (N : Nat) (J : Shared → Prop) (c : Nat → Bool) (hl : ListB prog w A (fun e s' => R (.error e) s') l b N J c)
    (fin : ∀ s, J s → R (.ok (.ret (.bool (allC c 0 N)))) s) {s : Shared} (h : J s) :
    wpAny (model prog w) A.in1 (Builtin.«list.__eq__» ⟨[.ref l, .ref b], []⟩) (GQ.FinOf prog w A R) (fun e s' => R (.error e) s') s := by
  obtain ⟨items, items2, n, n2, hl1, hb1, hs1, hs2, _⟩ := hl 0 _ h
  have hrec := eq_loopB (A := A) (R := R) l b N J c hl N 0 rfl (Nat.zero_le _) s h fin
  obtain ⟨hp, g, d, tk, os⟩ := s
  have f3 := AutoSeq1.sub_list_list
  have hne : ¬ (items.size != items2.size) = true := by simp [hs1, hs2]
  wp_walk using wpAny_loadPart' hl1, wpAny_loadPart' hb1
  exact ⟨plainId_quiet plain_eq_loop _, codeAny_builtin entry_eq_loop (by
    rw [Around.under_plainId plain_eq_loop _]
    exact hrec)⟩
theorem list_eqN (l b : Addr) {items items2 : Array Value} {n n2 : Nat} {s : Shared} (hl1 : s.heap.get? l = some { cls := .type "list", data := .seq items n }) (hb1 : s.heap.get? b = some { cls := .type "list", data := .seq items2 n2 }) (hd : items.size ≠ items2.size)
    (fin : R (.ok (.ret (.bool false))) s) :
    wpAny (model prog w) A.in1 (Builtin.«list.__eq__» ⟨[.ref l, .ref b], []⟩) (GQ.FinOf prog w A R) (fun e s' => R (.error e) s') s := by
  obtain ⟨hp, g, d, tk, os⟩ := s
  have f3 := AutoSeq1.sub_list_list
  have hne : (items.size != items2.size) = true := by simp [hd]
  wp_walk using wpAny_loadPart' hl1, wpAny_loadPart' hb1
  exact fin
end
end Vx
namespace Vx
open PySem PySem.Spec PyProof.Rows L2
/-- == gives c for what D says, and makes nothing -/
def EqB (X : Cx) (n : Nat) (D : V → V → Hp → Bool → Prop) : Prop :=
  ∀ (A : Around) (pins : List (Addr × Obj)) (s : Shared) (σ : L2.St) (H : Hp) (x y : V) (u v : Value) (c : Bool), L2.Sub X n A → L2.Inv X pins σ H s → RelV x u → RelV y v → D x y H c →
    wpAny (model X.prog X.w) A (eqBool u v) (fun r s' => r = c ∧ L2.Inv X pins σ H s') X.xe s
def rEqL (D : V → V → Hp → Bool → Prop) : R2 := fun x y H Q => ∃ a b xs ys c, x = .ref a ∧ y = .ref b ∧ H a = some (.lst xs) ∧ H b = some (.lst ys) ∧
  (∀ i u v, xs[i]? = some u → ys[i]? = some v → D u v H (c i)) ∧ Q (.bl (decide (xs.length = ys.length) && allC c 0 xs.length)) H
section
variable {X : Cx} {n : Nat} {D : V → V → Hp → Bool → Prop}
theorem op_eqL (h : EqB X n D) (hr : Room (n + 1) X.A) : OpR X (compareOp .Eq) (rEqL D) := by
  intro pins s σ H x y v u Q I rx ry hq
  obtain ⟨a, b, xs, ys, c, rfl, rfl, ha, hb, hD, q⟩ := hq
  cases rx
  cases ry
  show wpAny (model X.prog X.w) X.A (richCompare .Eq (.ref a) (.ref b)) (EP X pins σ Q) X.xe s
  obtain ⟨z, its, k, r, e⟩ := I.hok a _ ha
  obtain ⟨z2, its2, k2, r2, e2⟩ := I.hok b _ hb
  have sb : L2.Sub X n X.A.in1 := (⟨hr, rfl⟩ : L2.Sub X (n + 1) X.A).in1
  refine wpAny_richCompare_same_room (op := .Eq) ⟨_, e, rfl⟩ ⟨_, e2, rfl⟩ F.slot_list_eq (GQ.call_here F.slot_list_eq ⟨_, e, rfl⟩ F.entry_list_eq (F.args_list_eq_2 _ _) ?_) hr.units0
  by_cases hl : xs.length = ys.length
  · rw [decide_eq_true hl, Bool.true_and] at q
    refine list_eqB (R := wants (fun v s' => v ≠ .notImplemented ∧ EP X pins σ Q v s') X.xe) a b xs.length (fun s' => L2.Inv X pins σ H s') c (fun i s' I1 => ?_) (fun s' I1 => ⟨(fun x => nomatch x), .bl _, H, I1, rfl, q⟩) I
    obtain ⟨z, its, k, r, e⟩ := I1.hok a _ ha
    obtain ⟨z2, its2, k2, r2, e2⟩ := I1.hok b _ hb
    refine ⟨its.toArray, its2.toArray, k, k2, e, e2, by rw [List.size_toArray, ← r.length], by rw [List.size_toArray, ← r2.length, ← hl], fun h1 h2 => ?_⟩
    have g1 : its[i]? = some its.toArray[i] := by
      have h1' : i < its.length := by simpa using h1
      rw [List.getElem?_eq_getElem h1'] <;> simp
    have g2 : its2[i]? = some its2.toArray[i] := by
      have h2' : i < its2.length := by simpa using h2
      rw [List.getElem?_eq_getElem h2'] <;> simp
    have k1 : i < xs.length := by rw [r.length]; simpa using h1
    have k2 : i < ys.length := by rw [r2.length]; simpa using h2
    obtain ⟨u, hu, ru⟩ := r.get (List.getElem?_eq_getElem k1)
    obtain ⟨v, hv, rv⟩ := r2.get (List.getElem?_eq_getElem k2)
    rw [g1] at hu
    rw [g2] at hv
    rw [Option.some.inj hu, Option.some.inj hv]
    exact h X.A.in1 pins s' σ H _ _ u v (c i) sb I1 ru rv (hD i _ _ (List.getElem?_eq_getElem k1) (List.getElem?_eq_getElem k2))
  · rw [decide_eq_false hl, Bool.false_and] at q
    exact list_eqN (R := wants (fun v s' => v ≠ .notImplemented ∧ EP X pins σ Q v s') X.xe) a b e e2 (by rw [List.size_toArray, List.size_toArray, ← r.length, ← r2.length]; exact hl) ⟨(fun x => nomatch x), .bl _, H, I, rfl, q⟩
/-- two instances by the own ==, which makes nothing -/
theorem eqB_ins {k : Nat} {C f : Addr} {sp : Sp} {E : XK} {CX : CXT} (nf : PySem.W.notFirst X.K C (.ref C) = true) (at_ : PySem.W.findIn X.K (.ref C) "__eq__" = some (some (.ref f))) (fn : PySem.W.isFn X.K (.ref f) = true) (F : FnR X.prog X.w X.K X.mg X.base CX k f sp) (hx : Passes CX X E)
    (hd : ∀ x y H c, D x y H c → ∃ a b dx dy fs gs, x = .ref a ∧ y = .ref b ∧ H a = some (.ins C dx fs) ∧ H b = some (.ins C dy gs) ∧ (a = b → c = true) ∧ ∀ Q : VK, Q (.bl c) H → sp [x, y] H Q E) : EqB X k D := by
  intro A pins s σ H x y u v c sb I rx ry d
  obtain ⟨a, b, dx, dy, fs, gs, rfl, rfl, ha, hb, hs, hq⟩ := hd _ _ _ _ d
  cases rx
  cases ry
  by_cases hab : a = b
  · subst hab
    have := hs rfl
    subst this
    exact SeqAt.EqAt.same (A := A) (s := s) (.ref a) X.prog X.w X.xe _ ⟨rfl, I⟩
  · refine GQ.eqBool_refG hab ?_
    obtain ⟨mA, J, _⟩ := ins_get I.hok ha
    obtain ⟨mB, J', _⟩ := ins_get I.hok hb
    obtain ⟨od, J, _⟩ := J.look
    obtain ⟨od', J', _⟩ := J'.look
    obtain ⟨m, hF⟩ := I.fr
    refine PySem.W.cmp_K (op := .Eq) (tb := .ref C) sb.room.units0 hF I.ok.mod.kin J J'.type nf at_ fn ?_
    refine wpAny_mono (wpAny_call (run_in (us := [.ref a, .ref b]) (vs := [V.ref a, V.ref b]) sb F hx I (.cons rfl (.cons rfl .nil)) (hq (fun v H' => v = .bl c ∧ H' = H) ⟨rfl, rfl⟩))) (fun w s' z => ?_) fun _ _ z => z
    obtain ⟨v', H', I', rv, ev, eh⟩ := z
    subst ev eh
    cases rv
    exact ⟨c, rfl, rfl, I'⟩
end
/-- x += y by the own __iadd__ -/
def tIOwn (C : Addr) (sp : Sp) (E : XK) : TIp := fun x y H Q => (∃ a dx fs, x = .ref a ∧ H a = some (.ins C dx fs)) ∧ sp [x, y] H Q E
section
variable {X : Cx} {CX : CXT} {k : Nat} {C f : Addr} {sp : Sp} {E : XK}
theorem pip_own {op : Operator} (sf : PySem.W.selfFirst X.K C = true) (at_ : PySem.W.findIn X.K (.ref C) (dunderI op.info.2) = some (some (.ref f))) (fn : PySem.W.isFn X.K (.ref f) = true) (F : FnR X.prog X.w X.K X.mg X.base CX k f sp) (hr : Room k X.A) (hx : Passes CX X E) : PIp X op (tIOwn C sp E) := by
  intro pins s σ H x y v u Q I rx ry hq
  obtain ⟨⟨a, dx, fs, rfl, ha⟩, hsp⟩ := hq
  have ev : v = Value.ref a := rx
  have cl := call_cmp F hr hx I (us := [v, u]) (vs := [V.ref a, y]) (.cons rx (.cons ry .nil)) hsp
  subst ev
  obtain ⟨mA, J, _⟩ := ins_get I.hok ha
  obtain ⟨od, J, _⟩ := J.look
  obtain ⟨m, hF⟩ := I.fr
  exact PySem.W.ksp_inplace hF I.ok.mod.kin J sf at_ fn cl
end
end Vx
set_option Elab.async false
set_option linter.all false
set_option maxRecDepth 100000
set_option maxHeartbeats 4000000
namespace Vx
open PySem PySem.Spec PyProof.Rows L2
section
variable {X : Cx} {CX : CXT} {k : Nat} {C f : Addr} {sp : Sp} {E : XK}
/-- o[i] = v by the own method -/
def rSetOwn (C : Addr) (sp : Sp) (E : XK) : TSet := fun o i v H Q => (∃ a dx fs, o = .ref a ∧ H a = some (.ins C dx fs)) ∧ sp [o, i, v] H (fun _ H' => Q H') E
theorem set_own (nq : PySem.W.noSeq X.K C = true) (at_ : PySem.W.findIn X.K (.ref C) "__setitem__" = some (some (.ref f))) (fn : PySem.W.isFn X.K (.ref f) = true) (F : FnR X.prog X.w X.K X.mg X.base CX k f sp) (hr : Room k X.A) (hx : Passes CX X E) : PSet X (rSetOwn C sp E) := by
  intro pins s σ H o i v ov iv u Q I ro ri rv h
  obtain ⟨⟨a, dx, fs, rfl, ha⟩, hsp⟩ := h
  have eo : ov = Value.ref a := ro
  have cl := wpAny_call (run_fnR (us := [ov, iv, u]) (vs := [V.ref a, i, v]) F hr hx I (.cons ro (.cons ri (.cons rv .nil))) hsp)
  subst eo
  obtain ⟨mA, J, _⟩ := ins_get I.hok ha
  obtain ⟨od, J, _⟩ := J.look
  obtain ⟨m, hF⟩ := I.fr
  refine PySem.W.ksp_setItem hF I.ok.mod.kin J nq at_ fn (wpAny_mono cl (fun r s' z => ?_) fun _ _ z => z)
  obtain ⟨v', H', I', rv, q⟩ := z
  exact ⟨H', I', q⟩
end
end Vx
namespace Toy
open PySem PySem.Spec PyProof.Rows L2
/-! ### marks -/
theorem none_of {H H' : Hp} {a : Addr} (s : Same H H') (n : H' a = none) : H a = none := by
  cases e : H a with
  | none => rfl
  | some o => rw [s _ _ e] at n; cases n
def pgs : Nat → List Bool → List Nat
  | _, [] => []
  | s, b :: r => (if b then [s] else []) ++ pgs (s + 1) r
theorem pgs_app : ∀ (a b : List Bool) (s : Nat), pgs s (a ++ b) = pgs s a ++ pgs (s + a.length) b
  | [], b, s => rfl
  | x :: r, b, s => by
    show (if x then [s] else []) ++ pgs (s + 1) (r ++ b) = ((if x then [s] else []) ++ pgs (s + 1) r) ++ pgs (s + (r.length + 1)) b
    rw [pgs_app r b (s + 1), List.append_assoc, show s + 1 + r.length = s + (r.length + 1) by omega]
theorem pgs_len : ∀ (a : List Bool) (s : Nat), (pgs s a).length ≤ a.length
  | [], _ => Nat.le_refl _
  | x :: r, s => by
    show ((if x then [s] else []) ++ pgs (s + 1) r).length ≤ r.length + 1
    have := pgs_len r (s + 1)
    rw [List.length_append]
    cases x with
    | true => show 1 + _ ≤ _; omega
    | false => show 0 + _ ≤ _; omega
theorem pgs_lt : ∀ (a : List Bool) (s : Nat), ∀ k ∈ pgs s a, k < s + a.length
  | [], _, k, h => absurd h List.not_mem_nil
  | x :: r, s, k, h => by
    have h : k ∈ (if x then [s] else []) ++ pgs (s + 1) r := h
    rcases List.mem_append.mp h with h | h
    · cases x with
      | true =>
        have := List.mem_singleton.mp h
        show k < s + (r.length + 1)
        omega
      | false => exact absurd h List.not_mem_nil
    · have := pgs_lt r (s + 1) k h
      show k < s + (r.length + 1)
      omega
def numF (fl : List Bool) : Nat := ((pgs 0 fl).map fun k => 2 ^ k).sum
def MarksAt (MC : Addr) (H : Hp) (q l : Addr) (fl : List Bool) : Prop := (∃ dx, H q = some (.ins MC dx [("_flags", .ref l)])) ∧ H l = some (.lst (fl.map V.bl))
theorem MarksAt.same {MC : Addr} {H H' : Hp} {q l : Addr} {fl : List Bool} (h : MarksAt MC H q l fl) (s : Same H H') : MarksAt MC H' q l fl := by
  obtain ⟨⟨dx, e⟩, f⟩ := h
  exact ⟨⟨dx, s _ _ e⟩, s _ _ f⟩
theorem MarksAt.put {MC : Addr} {H : Hp} {q l : Addr} {fl fl' : List Bool} (h : MarksAt MC H q l fl) : MarksAt MC (upd H l (.lst (fl'.map V.bl))) q l fl' := by
  obtain ⟨⟨dx, e⟩, f⟩ := h
  exact ⟨⟨dx, by rw [upd_ne (ne_of e f (by intro z; cases z))]; exact e⟩, upd_same⟩
section
variable {P : Program} {w : World} {K : PySem.W.Frag} {mg : Str → Option Value} {base : Heap} {MC MD W : Addr}
structure MkT (K : PySem.W.Frag) (mg : Str → Option Value) (MC MD : Addr) : Prop where
  cl : Cls K MC
  nF : NoAttr K MC "_flags"
  gD : mg "Made" = some (.ref MD)
  isi : mg "isinstance" = none
  bool : mg "bool" = none
  len : mg "len" = none
  list : mg "list" = none
  enum : mg "enumerate" = none
  sum : mg "sum" = none
  mp : ∃ t, mg "MOST_PAGES" = some (.int 64 t)
theorem flat_rep (n : Nat) : (List.replicate n [V.bl false]).flatten = (List.replicate n false).map V.bl := by
  induction n with
  | zero => rfl
  | succ n ih => rw [List.replicate_succ, List.flatten_cons, ih, List.replicate_succ]; rfl
/-- a value that is not of the class at MD -/
def NotC (K : PySem.W.Frag) (MD : Addr) (H : Hp) (v : V) : Prop := ∃ t, TyX K H v t ∧ PySem.W.kitOne K t (.ref MD) = some false
def spMkI (K : PySem.W.Frag) (MC MD W : Addr) : Sp := fun vs H Q E => ∃ (H0 : Hp) (q dx : Addr) (v : V) (o : Option Int), vs = [.ref q, v] ∧ Same H0 H ∧ H0 q = none ∧ H q = some (.ins MC dx []) ∧ NotC K MD H v ∧ NV K H v o ∧
  (∀ n : Nat, o = some (n : Int) → 1 ≤ n → n ≤ 64 → ∀ H' l, Same H0 H' → H0 l = none → H' q = some (.ins MC dx [("_flags", .ref l)]) → H' l = some (.lst ((List.replicate n false).map V.bl)) → Q .non H') ∧
  (btw o 1 64 = false → ∀ H' d, Same H H' → H d = none → H' d = some (.xd [("at", v)]) → E (.ref W) (some d) H')
theorem ok_mk_init {f fB fE : Addr} {fd fdB fdE : FuncData} (F : Fun K "__init__" "Marks.__init__" s_Marks_init f fd) (T : MkT K mg MC MD) (B : Cal P w K mg base CX0 2 fB fdB "is_between" ["value", "low", "high"] (spBetwG K)) (er : Err P w K mg base "BadMarks" "at" W fE fdE (spErr K "at")) : FnOk P w K mg base (L2.CX P w) 3 f fd ["self", "many"] (spMkI K MC MD W) := by
  obtain ⟨tm, gm⟩ := T.mp
  refine F.okX sc_Marks_init (fun vs H Q E h => ?_) (fun cdv A outer s H vs Q E hr h => ?_)
  · obtain ⟨H0, q, dx, v, o, rfl, _⟩ := h
    rfl
  · obtain ⟨H0, q, dx, v, o, rfl, s0, q0, hq, ⟨t, ht, hk⟩, hv, k, ke⟩ := h
    refine ⟨_, pss_one (ps_if (pt_val (pe_callB call_isi (by rfl) T.isi (by decide +kernel) (pa_cons (pv 1) (pa_cons (pe_glob (v := .ref MD) (by rfl) T.gD rfl) pa_nil)))) (pss_one ps_never)
      (pss_one (ps_if (pt_val (pe_call B.G hr (by rfl) B.g B.k B.b .nil pass0 (pa_cons (pv 1) (pa_cons pe_int (pa_cons (pe_glob (v := .int 64) (by rfl) gm ⟨_, rfl⟩) pa_nil)))))
        (pss_one (ps_fld (pv 0) (pe_op op_rep (pe_lst (pa_cons pe_bl pa_nil)) (pv 1)) rfl)) (pss_one (ps_raise rfl (takes_of rfl rfl rfl rfl) (pmk_oex er.T er.iC er.tI er.F hr er.b .nil pass0 (by rfl) er.gC (pa_cons (pv 1) pa_nil))))))), ?_⟩
    refine ⟨_, rfl, v, .ref MD, t, .ref MD, false, rfl, .own MD, ht, hk, false, rfl, iteF ?_⟩
    refine ⟨_, rfl, v, o, 1, 64, rfl, hv, _, rfl, ?_⟩
    cases hb : btw o 1 64 with
    | false => exact iteF ⟨_, rfl, Nat.le_of_ble_eq_true rfl, fun a na => err_end er.T er.no na fun H' d sm nd hd => ke hb H' d sm nd hd⟩
    | true =>
      obtain ⟨n, rfl, n1, n2⟩ : ∃ n : Nat, o = some (n : Int) ∧ 1 ≤ n ∧ n ≤ 64 := by
        cases o with
        | none => cases hb
        | some z =>
          have e2 : (1 : Int) ≤ z ∧ z ≤ 64 := of_decide_eq_true hb
          obtain ⟨n0, rfl⟩ := Int.eq_ofNat_of_zero_le (show (0 : Int) ≤ z by omega)
          exact ⟨n0, rfl, by omega, by omega⟩
      obtain rfl := hv.some_eq
      refine iteT ⟨by show 1 ≤ sizeLine; decide, fun b nb => ⟨_, rfl, b, _, _, rfl, rfl, upd_same, by omega, by omega, ?_, fun l nl => ?_⟩⟩
      · exact Nat.le_trans (show 1 * ((n : Int)).toNat ≤ 64 by omega) (by decide)
      rw [Int.toNat_natCast, flat_rep]
      have s1 := same_upd (o := .lst [V.bl false]) nb
      have e1 := s1 _ _ hq
      generalize upd H b (HO.lst [V.bl false]) = H1 at s1 e1 nl
      have qs : q ≠ l := ne_of_none e1 nl
      refine ⟨_, rfl, q, MC, dx, _, rfl, by rw [upd_ne qs]; exact e1, T.cl, T.nF, (by show (0 : Nat) < 1000; decide), ?_⟩
      refine k n rfl n1 n2 _ l (fun z o e => ?_) (none_of (s0.trans s1) nl) upd_same ?_
      · rw [upd_ne (ne_of_none e q0)]
        exact (s0.trans (s1.trans (same_upd nl))) _ _ e
      · rw [upd_ne qs.symm]
        exact upd_same
/-- marks[k], and what is no number of a page -/
def spMkGet (K : PySem.W.Frag) (MC W : Addr) : Sp := fun vs H Q E => ∃ (q l : Addr) (fl : List Bool) (v : V) (o : Option Int), vs = [.ref q, v] ∧ MarksAt MC H q l fl ∧ NV K H v o ∧
  (∀ (i : Nat) (b : Bool), o = some (i : Int) → fl[i]? = some b → Q (.bl b) H) ∧ (btw o 0 ((fl.length : Nat) - 1 : Int) = false → ∀ H' d, Same H H' → H d = none → H' d = some (.xd [("at", v)]) → E (.ref W) (some d) H')
theorem ok_mk_get {f fB fE : Addr} {fd fdB fdE : FuncData} (F : Fun K "__getitem__" "Marks.__getitem__" s_Marks_getitem f fd) (T : MkT K mg MC MD) (B : Cal P w K mg base CX0 2 fB fdB "is_between" ["value", "low", "high"] (spBetwG K)) (er : Err P w K mg base "BadMarks" "at" W fE fdE (spErr K "at")) : FnOk P w K mg base (L2.CX P w) 3 f fd ["self", "at"] (spMkGet K MC W) := by
  refine F.okX sc_Marks_getitem (fun vs H Q E h => ?_) (fun cdv A outer s H vs Q E hr h => ?_)
  · obtain ⟨q, l, fl, v, o, rfl, _⟩ := h
    rfl
  · obtain ⟨q, l, fl, v, o, rfl, ⟨⟨dx, h1⟩, h2⟩, hv, k, ke⟩ := h
    refine ⟨_, pss_cons (ps_if (pt_not (pt_val (pe_call B.G hr (by rfl) B.g B.k B.b .nil pass0 (pa_cons (pv 1) (pa_cons pe_int (pa_cons (pe_op op_sub (pe_callB call_len_seq (by rfl) T.len PySem.boot_len (pa_cons (pe_fld (pv 0) rfl) pa_nil)) pe_int) pa_nil))))))
        (pss_one (ps_raise rfl (takes_of rfl rfl rfl rfl) (pmk_oex er.T er.iC er.tI er.F hr er.b .nil pass0 (by rfl) er.gC (pa_cons (pv 1) pa_nil)))) pss_nil)
      (pss_one (ps_ret (pe_ix ix_list (pe_fld (pv 0) rfl) (pv 1) (fun _ _ => rfl)))), ?_⟩
    have hl : (fl.map V.bl).length = fl.length := List.length_map _
    refine ⟨_, rfl, _, rfl, q, MC, dx, _, _, rfl, h1, T.cl, T.nF, rfl, l, _, rfl, .inl (SqL.of h2), _, _, rfl, rfl, v, o, 0, _, rfl, hv, _, rfl, ?_⟩
    rw [hl]
    cases hb : btw o 0 ((fl.length : Nat) - 1 : Int) with
    | false => exact iteT ⟨_, rfl, Nat.le_of_ble_eq_true rfl, fun a na => err_end er.T er.no na fun H' d sm nd hd => ke hb H' d sm nd hd⟩
    | true =>
      obtain ⟨i, rfl, hi⟩ : ∃ i : Nat, o = some (i : Int) ∧ i < fl.length := by
        cases o with
        | none => cases hb
        | some z =>
          have e2 : (0 : Int) ≤ z ∧ z ≤ (fl.length : Nat) - 1 := of_decide_eq_true hb
          obtain ⟨n0, rfl⟩ := Int.eq_ofNat_of_zero_le e2.1
          exact ⟨n0, rfl, by omega⟩
      obtain rfl := hv.some_eq
      have hg := List.getElem?_eq_getElem hi
      refine iteF ⟨_, rfl, q, MC, dx, _, _, rfl, h1, T.cl, T.nF, rfl, _, rfl, l, _, _, _, rfl, rfl, SqL.of h2, atI_nat (by rw [List.getElem?_map, hg]; rfl), k i _ rfl hg⟩
end
end Toy
set_option Elab.async false
set_option linter.all false
set_option maxRecDepth 100000
set_option maxHeartbeats 4000000
namespace Toy
open PySem PySem.Spec PyProof.Rows L2
/-! ### lists of truths as data -/
def bD (fl : List Bool) : PyData := .list (fl.map PyData.bool)
theorem bDs_eqv : ∀ a b : List Bool, PyData.eqvAll (a.map PyData.bool) (b.map PyData.bool) = decide (a = b)
  | [], [] => rfl
  | [], _ :: _ => rfl
  | _ :: _, [] => rfl
  | x :: r, y :: t => by
    show ((x == y) && PyData.eqvAll (r.map PyData.bool) (t.map PyData.bool)) = _
    rw [bDs_eqv r t]
    cases x <;> cases y <;> simp
theorem bD_eqv (a b : List Bool) : PyData.eqv (bD a) (bD b) = decide (a = b) := bDs_eqv a b
theorem bD_can : ∀ a : List Bool, PyData.canLayAll0 (a.map PyData.bool) = true
  | [] => rfl
  | x :: r => by
    show (true && PyData.canLayAll0 (r.map PyData.bool)) = true
    rw [bD_can r]
    rfl
theorem bD_dep : ∀ a : List Bool, PyData.depthAll (a.map PyData.bool) ≤ 1
  | [] => by decide
  | x :: r => by
    have ih := bD_dep r
    have e : PyData.depthAll (PyData.bool x :: r.map PyData.bool) = max (PyData.depth (PyData.bool x)) (PyData.depthAll (r.map PyData.bool)) := rfl
    have e2 : PyData.depth (PyData.bool x) ≤ 1 := by first | exact Nat.zero_le _ | exact Nat.le_refl _
    rw [List.map_cons, e]
    omega
theorem bD_shp (a : List Bool) : SeqAt.shaped (bD a) = true := by
  have h1 := bD_can a
  have h2 := bD_dep a
  unfold SeqAt.shaped
  rw [Bool.and_eq_true]
  refine ⟨h1, decide_eq_true ?_⟩
  have e : PyData.depth (.list (a.map PyData.bool)) = PyData.depthAll (a.map PyData.bool) + 1 := rfl
  show PyData.depth (.list (a.map PyData.bool)) ≤ 64
  omega
theorem dpAll_bl {K : PySem.W.Frag} {H : Hp} : ∀ a : List Bool, DpAll K H (a.map V.bl) (a.map PyData.bool)
  | [] => .nil
  | x :: r => .cons (.bl _) (dpAll_bl r)
theorem dp_bl {K : PySem.W.Frag} {H : Hp} {a : Addr} {fl : List Bool} (h : H a = some (.lst (fl.map V.bl))) : Dp K H (.ref a) (bD fl) := .lst (SqL.of h) (dpAll_bl fl)
section
variable {P : Program} {w : World} {K : PySem.W.Frag} {mg : Str → Option Value} {base : Heap} {MC MD W : Addr}
def spMkPages (MC : Addr) : Sp := fun vs H Q _ => ∃ (q l : Addr) (fl : List Bool), vs = [.ref q] ∧ MarksAt MC H q l fl ∧ fl.length ≤ 64 ∧ ∀ H' m, Same H H' → H m = none → H' m = some (.lst ((pgs 0 fl).map vi)) → Q (.ref m) H'
theorem ok_mk_pages {f : Addr} {fd : FuncData} (F : Fun K "pages" "Marks.pages" s_Marks_pages f fd) (T : MkT K mg MC MD) : FnOk P w K mg base CX0 1 f fd ["self"] (spMkPages MC) := by
  refine F.ok sc_Marks_pages (fun vs H Q E h => ?_) (fun cdv A outer s H vs Q E hr h => ?_)
  · obtain ⟨q, l, fl, rfl, _⟩ := h
    rfl
  · obtain ⟨q, l, fl, rfl, ⟨⟨dx, h1⟩, h2⟩, hz, k⟩ := h
    have nd := sc_Marks_pages.nd
    refine ⟨_, pss_one (ps_ret (pe_lc (own := [("k", 1), ("flag", 2)]) (g := gTup K 2 (gCons (gName 1) (gCons (gName 2) gNil))) rfl nd (pi_enum (by rfl) T.enum (pa_cons (pe_fld (pv 0) rfl) pa_nil))
      (blkOk_by (own := [("k", 1), ("flag", 2)]) (N := ["self", "k", "flag"]) (sc := defScope s_Marks_pages) (by decide +kernel)) (fun _ _ _ _ _ => show PG _ _ (gTup K 2 (gCons (gName 1) (gCons (gName 2) gNil))) from pg_tup (n := 2) rfl (pgs_cons (pg_name (i := 1) nd rfl (Or.inl rfl)) (pgs_cons (pg_name (i := 2) nd rfl (Or.inl rfl)) pgs_nil)))
      (fun _ _ _ _ _ => pts_one (pt_val (pv 2))) (fun _ _ _ _ _ => pv 1))), ?_⟩
    refine ⟨_, rfl, q, MC, dx, _, _, rfl, h1, T.cl, T.nF, rfl, l, _, rfl, SqL.of h2, fun D nD => ?_⟩
    refine lc_it (walk_enum (K := K) (a := l) (xs := fl.map V.bl)) (fun i H' => Same H H' ∧ H' D = some (.lst ((pgs 0 (fl.take i)).map vi))) ⟨same_upd nD, upd_same⟩ (fun i H' _ z => SqL.of (z.1 _ _ h2)) ?_ ?_
    · rintro i x H' H2 hi ⟨s1, e1⟩ ⟨t, u, v, rfl, nt, rfl, eu, ev⟩
      rw [List.length_map] at hi
      obtain rfl := (Option.some.inj eu).symm
      have ev : (fl.map V.bl)[i]? = some v := ev
      rw [List.getElem?_map, List.getElem?_eq_getElem hi] at ev
      obtain rfl := Option.some.inj ev
      have s2 := same_upd (o := .tup [V.int (i : Nat), V.bl fl[i]]) nt
      have et : (upd H' t (.tup [V.int (i : Nat), V.bl fl[i]])) t = some (.tup [V.int (i : Nat), V.bl fl[i]]) := upd_same
      generalize upd H' t (HO.tup [V.int (i : Nat), V.bl fl[i]]) = H3 at s2 et
      have e3 := s2 _ _ e1
      have tk : pgs 0 (fl.take (i + 1)) = pgs 0 (fl.take i) ++ (if fl[i] = true then [i] else []) := by
        rw [List.take_add_one, List.getElem?_eq_getElem hi, Option.toList_some, pgs_app, List.length_take, Nat.min_eq_left (Nat.le_of_lt hi), Nat.zero_add]
        show _ ++ ((if fl[i] = true then [i] else []) ++ []) = _
        rw [List.append_nil]
      refine ⟨t, _, rfl, SqT.of et, rfl, _, _, rfl, _, _, rfl, rfl, rfl, _, rfl, fl[i], rfl, ?_⟩
      rw [tk]
      cases fl[i] with
      | true =>
        refine iteT ⟨_, rfl, _, e3, ?_, fun z o ez => ?_, ?_⟩
        · rw [List.length_map]
          have := pgs_len (fl.take i) 0
          rw [List.length_take] at this
          exact Nat.lt_of_le_of_lt (show _ ≤ 64 by omega) (by decide)
        · rw [upd_ne (ne_of_none ez nD)]
          exact s2 _ _ (s1 _ _ ez)
        · rw [upd_same, List.map_append]
          rfl
      | false =>
        refine iteF ⟨s1.trans s2, ?_⟩
        rw [e3]
        simp
    · rintro H' ⟨s1, e1⟩
      rw [List.length_map, List.take_length] at e1
      exact k H' D s1 nD e1
def spMkLen (MC : Addr) : Sp := fun vs H Q _ => ∃ (q l : Addr) (fl : List Bool), vs = [.ref q] ∧ MarksAt MC H q l fl ∧ Q (.int (fl.length : Nat)) H
theorem ok_mk_len {f : Addr} {fd : FuncData} (F : Fun K "__len__" "Marks.__len__" s_Marks_len f fd) (T : MkT K mg MC MD) : FnOk P w K mg base CX0 1 f fd ["self"] (spMkLen MC) := by
  refine F.ok sc_Marks_len (fun vs H Q E h => ?_) (fun cdv A outer s H vs Q E hr h => ?_)
  · obtain ⟨q, l, fl, rfl, _⟩ := h
    rfl
  · obtain ⟨q, l, fl, rfl, ⟨⟨dx, h1⟩, h2⟩, k⟩ := h
    refine ⟨_, pss_one (ps_ret (pe_callB call_len_seq (by rfl) T.len PySem.boot_len (pa_cons (pe_fld (pv 0) rfl) pa_nil))), ?_⟩
    refine ⟨_, rfl, q, MC, dx, _, _, rfl, h1, T.cl, T.nF, rfl, l, _, rfl, .inl (SqL.of h2), ?_⟩
    rw [List.length_map]
    exact k
def spMkSet (K : PySem.W.Frag) (MC W : Addr) : Sp := fun vs H Q E => ∃ (q l : Addr) (fl : List Bool) (v x : V) (o : Option Int), vs = [.ref q, v, x] ∧ MarksAt MC H q l fl ∧ NV K H v o ∧ ((∃ b, x = .bl b) ∨ ∃ t, TyX K H x t ∧ PySem.W.kitOne K t (.type "bool") = some false) ∧
  (∀ (i : Nat) (b : Bool), o = some (i : Int) → i < fl.length → x = .bl b → Q .non (upd H l (.lst ((fl.set i b).map V.bl)))) ∧
  (btw o 0 ((fl.length : Nat) - 1 : Int) = false → ∀ H' d, Same H H' → H d = none → H' d = some (.xd [("at", v)]) → E (.ref W) (some d) H') ∧
  (∀ i : Nat, o = some (i : Int) → i < fl.length → (∀ b, x ≠ .bl b) → ∀ H' d, Same H H' → H d = none → H' d = some (.xd [("at", .non)]) → E (.ref W) (some d) H')
theorem ok_mk_set {f fB fE : Addr} {fd fdB fdE : FuncData} (F : Fun K "__setitem__" "Marks.__setitem__" s_Marks_setitem f fd) (T : MkT K mg MC MD) (B : Cal P w K mg base CX0 2 fB fdB "is_between" ["value", "low", "high"] (spBetwG K)) (er : Err P w K mg base "BadMarks" "at" W fE fdE (spErr K "at")) : FnOk P w K mg base (L2.CX P w) 3 f fd ["self", "at", "value"] (spMkSet K MC W) := by
  refine F.okX sc_Marks_setitem (fun vs H Q E h => ?_) (fun cdv A outer s H vs Q E hr h => ?_)
  · obtain ⟨q, l, fl, v, x, o, rfl, _⟩ := h
    rfl
  · obtain ⟨q, l, fl, v, x, o, rfl, ⟨⟨dx, h1⟩, h2⟩, hv, hx, k, ke, kb⟩ := h
    refine ⟨_, pss_cons (ps_if (pt_not (pt_val (pe_call B.G hr (by rfl) B.g B.k B.b .nil pass0 (pa_cons (pv 1) (pa_cons pe_int (pa_cons (pe_op op_sub (pe_callB call_len_seq (by rfl) T.len PySem.boot_len (pa_cons (pe_fld (pv 0) rfl) pa_nil)) pe_int) pa_nil))))))
        (pss_one (ps_raise rfl (takes_of rfl rfl rfl rfl) (pmk_oex er.T er.iC er.tI er.F hr er.b .nil pass0 (by rfl) er.gC (pa_cons (pv 1) pa_nil)))) pss_nil)
      (pss_cons (ps_if (pt_not (pt_val (pe_callB call_isi (by rfl) T.isi (by decide +kernel) (pa_cons (pv 2) (pa_cons (pe_bltn (v := .ty "bool") (by rfl) T.bool (by decide +kernel) rfl) pa_nil)))))
        (pss_one (ps_raise rfl (takes_of rfl rfl rfl rfl) (pmk_oex er.T er.iC er.tI er.F hr er.b .nil pass0 (by rfl) er.gC (pa_cons pe_non pa_nil)))) pss_nil)
      (pss_one (ps_asg (pv 2) (pg_sub (pe_fld (pv 0) rfl) (pv 1) set_list)))), ?_⟩
    have hl : (fl.map V.bl).length = fl.length := List.length_map _
    refine ⟨_, rfl, _, rfl, q, MC, dx, _, _, rfl, h1, T.cl, T.nF, rfl, l, _, rfl, .inl (SqL.of h2), _, _, rfl, rfl, v, o, 0, _, rfl, hv, _, rfl, ?_⟩
    rw [hl]
    cases hb : btw o 0 ((fl.length : Nat) - 1 : Int) with
    | false => exact iteT ⟨_, rfl, Nat.le_of_ble_eq_true rfl, fun a na => err_end er.T er.no na fun H' d sm nd hd => ke hb H' d sm nd hd⟩
    | true =>
      obtain ⟨i, rfl, hi⟩ : ∃ i : Nat, o = some (i : Int) ∧ i < fl.length := by
        cases o with
        | none => cases hb
        | some z =>
          have e2 : (0 : Int) ≤ z ∧ z ≤ (fl.length : Nat) - 1 := of_decide_eq_true hb
          obtain ⟨n0, rfl⟩ := Int.eq_ofNat_of_zero_le e2.1
          exact ⟨n0, rfl, by omega⟩
      obtain rfl := hv.some_eq
      refine iteF ?_
      rcases hx with ⟨b, rfl⟩ | ⟨t, ht, hk⟩
      · refine ⟨_, rfl, .bl b, .ty "bool", _, _, true, rfl, .ty _, .base (.bl b), kit_ty (by decide +kernel), true, rfl, iteF ?_⟩
        refine ⟨_, rfl, _, rfl, q, MC, dx, _, _, rfl, h1, T.cl, T.nF, rfl, _, rfl, l, _, _, i, rfl, rfl, h2, ixN_nat (by rw [hl]; exact hi), ?_⟩
        have z := k i b rfl hi rfl
        rw [List.map_set] at z
        exact z
      · refine ⟨_, rfl, x, .ty "bool", t, _, false, rfl, .ty _, ht, hk, false, rfl, iteT ?_⟩
        refine ⟨Nat.le_of_ble_eq_true rfl, fun a na => err_end er.T er.no na fun H' d sm nd hd => kb i rfl hi (fun b e => ?_) H' d sm nd hd⟩
        subst e
        cases ht with
        | base z =>
          cases z
          rw [kit_ty (a := "bool") (b := "bool") (r := true) (by decide +kernel)] at hk
          cases hk
def spMkEq (K : PySem.W.Frag) (MC : Addr) : Sp := fun vs H Q _ => ∃ (q l : Addr) (fl : List Bool) (y : V), vs = [.ref q, y] ∧ MarksAt MC H q l fl ∧
  ((∃ (r m : Addr) (gl : List Bool), y = .ref r ∧ MarksAt MC H r m gl ∧ Q (.bl (decide (fl = gl))) H) ∨ ∃ t, TyX K H y t ∧ PySem.W.kitOne K t (.ref MC) = some false ∧ Q (.bl false) H)
structure MkC (K : PySem.W.Frag) (C : Addr) : Prop where
  cl : Cls K C
  cC : PySem.W.findIn K (.ref C) "__class__" = some (some (.builtin "object.__class__"))
  cG : PySem.W.specialIn K (.builtin "object.__class__") "__get__" = some (some (.builtin "getset_descriptor.__get__"))
  cT : PySem.W.takesIn K (.builtin "object.__class__") = some true
  cM : PySem.W.mroIn K C (.type "object") = some true
  kk : PySem.W.kitOne K (.ref C) (.ref C) = some true
theorem ok_mk_eq {f : Addr} {fd : FuncData} (F : Fun K "__eq__" "Marks.__eq__" s_Marks_eq f fd) (T : MkT K mg MC MD) (C : MkC K MC) (gM : mg "Marks" = some (.ref MC)) : FnOk P w K mg base CX0 1 f fd ["self", "other"] (spMkEq K MC) := by
  refine F.ok sc_Marks_eq (fun vs H Q E h => ?_) (fun cdv A outer s H vs Q E hr h => ?_)
  · obtain ⟨q, l, fl, y, rfl, _⟩ := h
    rfl
  · obtain ⟨q, l, fl, y, rfl, ⟨⟨dx, h1⟩, h2⟩, h⟩ := h
    refine ⟨_, pss_one (ps_ret (pe_and (pe_callB call_isi (by rfl) T.isi (by decide +kernel) (pa_cons (pv 1) (pa_cons (pe_glob (v := .ref MC) (by rfl) gM rfl) pa_nil)))
      (pe_one (pe_cmpR (op_eqD hr.units) (pe_fld (pv 0) rfl) (pe_fld (pv 1) rfl) (nomark _))))), ?_⟩
    rcases h with ⟨r, m, gl, rfl, ⟨⟨dy, g1⟩, g2⟩, k⟩ | ⟨t, ht, hk, k⟩
    · refine ⟨_, rfl, .ref r, .ref MC, .ref MC, .ref MC, true, rfl, .own MC, .base (.ins g1 C.cl C.cC C.cG C.cT C.cM), C.kk, true, rfl, iteT ?_⟩
      refine ⟨_, rfl, q, MC, dx, _, _, rfl, h1, T.cl, T.nF, rfl, _, rfl, r, MC, dy, _, _, rfl, g1, T.cl, T.nF, rfl, _, _, dp_bl h2, dp_bl g2, bD_shp _, bD_shp _, ?_⟩
      rw [bD_eqv]
      exact k
    · exact ⟨_, rfl, y, .ref MC, t, .ref MC, false, rfl, .own MC, ht, hk, false, rfl, iteF k⟩
end
end Toy
set_option Elab.async false
set_option linter.all false
set_option maxRecDepth 100000
set_option maxHeartbeats 4000000
namespace Vx
open PySem PySem.Spec PyProof.Rows L2
def PSetE (X : Cx) (t : L2.St → TSet) : Prop :=
  ∀ (pins : List (Addr × Obj)) (s : Shared) (σ : L2.St) (H : Hp) (o i v : V) (ov iv u : Value) (Q : Hp → Prop), L2.Inv X pins σ H s → RelV o ov → RelV i iv → RelV v u → t σ o i v H Q →
    wpAny (model X.prog X.w) X.A (setItem ov iv u) (fun _ s' => ∃ H', L2.Inv X pins σ H' s' ∧ Q H') X.xe s
def gSubE (to ti : TE) (t : L2.St → TSet) : TG := fun v σ H Q => to σ H fun o H1 => ti σ H1 fun i H2 => t σ o i v H2 fun H3 => Q σ H3
section
variable {X : Cx} {CX : CXT} {k : Nat} {C f : Addr} {sp : Sp} {E : L2.St → XK} {pos : Pos}
theorem pg_subE {o i : Expr} {to ti : TE} {t : L2.St → TSet} (ho : PE X o to) (hi : PE X i ti) (hs : PSetE X t)
    (ha : ∀ v, assign (.Subscript o i pos) X.env v = (do
      let ov ← holding [v] (eval o X.env)
      let iv ← holding [v, ov] (eval i X.env)
      standAt pos
      holding [v, ov, iv] (setItem ov iv v)
      release [v, ov, iv] []) := by intro _; rfl) : PG X (.Subscript o i pos) (gSubE to ti t) := by
  refine ⟨fun pins s σ H v u Q I r h => ?_⟩
  rw [ha]
  refine wpAny_bind (wpAny_holding (thn (ho.run pins s σ H _ I h) fun ov s1 ⟨x, H1, I1, r1, q1⟩ => ?_))
  refine wpAny_bind (wpAny_holding (thn (hi.run pins s1 σ H1 _ I1 q1) fun iv s2 ⟨y, H2, I2, r2, q2⟩ => ?_))
  refine wpAny_bind (wpAny_standAt (wpAny_bind (wpAny_holding (thn (hs pins s2 σ H2 x y v ov iv u _ I2 r1 r2 r q2) fun _ s3 ⟨H3, I3, q3⟩ => ?_))))
  exact wpAny_release ⟨σ, H3, I3, q3⟩
/-- o[i] = v by the own method, which may raise -/
theorem set_ownE (nq : PySem.W.noSeq X.K C = true) (at_ : PySem.W.findIn X.K (.ref C) "__setitem__" = some (some (.ref f))) (fn : PySem.W.isFn X.K (.ref f) = true) (F : FnR X.prog X.w X.K X.mg X.base CX k f sp) (hr : Room k X.A) (hx : ∀ σ, PassesAt CX X σ (E σ)) : PSetE X (fun σ => rSetOwn C sp (E σ)) := by
  intro pins s σ H o i v ov iv u Q I ro ri rv h
  obtain ⟨⟨a, dx, fs, rfl, ha⟩, hsp⟩ := h
  have eo : ov = Value.ref a := ro
  have cl := run_fnRS (us := [ov, iv, u]) (vs := [V.ref a, i, v]) F hr (hx σ) I (.cons ro (.cons ri (.cons rv .nil))) hsp
  subst eo
  obtain ⟨mA, J, _⟩ := ins_get I.hok ha
  obtain ⟨od, J, _⟩ := J.look
  obtain ⟨m, hF⟩ := I.fr
  exact PySem.W.ksp_setItem hF I.ok.mod.kin J nq at_ fn (wpAny_mono cl (fun r s' z => by
    obtain ⟨v', H', I', rv, q⟩ := z
    exact ⟨H', I', q⟩) fun _ _ z => z)
theorem run_inS {E : XK} {pins : List (Addr × Obj)} {σ : L2.St} {H : Hp} {s : Shared} {Q : VK} {A : Around} {us : List Value} {vs : List V} (sb : Sub X k A) (F : FnR X.prog X.w X.K X.mg X.base CX k f sp) (hx : PassesAt CX X σ E) (I : L2.Inv X pins σ H s) (r : Vals vs us) (h : sp vs H Q E) :
    codeAny (model X.prog X.w) A (.call (.ref f) ⟨us, []⟩) (fun r s' => match r with | .ok (.ret v) => EP X pins σ Q v s' | .ok _ => False | .error e => X.xe e s') s := by
  have e0 : Env0 X.prog X.w X.K X.mg X.base A X.stack s H := by
    have e := I.env0
    exact ⟨by rw [sb.fr]; exact e.frames, e.mod, e.bs, e.bsz, e.funs, e.frf, e.hok, e.bare⟩
  refine codeAny_mono (F A X.stack s H us vs Q E sb.room e0 r h) fun r s' hq => ?_
  cases r with
  | error e => exact hx pins H s e s' I hq
  | ok fl =>
    cases fl with
    | ret u => exact I.after hq
    | next => exact False.elim hq
    | brk => exact False.elim hq
    | cont => exact False.elim hq
/-- o[i] by the own method, which may raise -/
def tGetE (C : Addr) (sp : Sp) (E : L2.St → XK) (ta tb : TE) : TE := fun σ H Q => ta σ H fun x H1 => tb σ H1 fun y H2 => (∃ a dx fs, x = .ref a ∧ H2 a = some (.ins C dx fs)) ∧ sp [x, y] H2 Q (E σ)
theorem pe_getE {a b : Expr} {ta tb : TE} (ha : PE X a ta) (hb : PE X b tb) (at_ : PySem.W.findIn X.K (.ref C) "__getitem__" = some (some (.ref f))) (fi : PySem.W.fnIn X.K f = true) (fn : PySem.W.isFn X.K (.ref f) = true) (F : FnR X.prog X.w X.K X.mg X.base CX k f sp) (hr : Room (k + 1) X.A) (hx : ∀ σ, PassesAt CX X σ (E σ))
    (hs : ∀ o i : Value, subscripted b true o i = runValue (.builtin "lifetime.subscript" ⟨[o, i], []⟩)) : PE X (.Subscript a b pos) (tGetE C sp E ta tb) := by
  refine ⟨fun pins s σ H Q I h => ?_⟩
  refine Subscript_ (binT ha hb I h fun v u s2 x y H2 I2 rx ry q => ?_)
  obtain ⟨⟨r, dx, fs, rfl, hr1⟩, hsp⟩ := q
  have ev : v = Value.ref r := rx
  have sb : Sub X k X.A.in1 := (⟨hr, rfl⟩ : Sub X (k + 1) X.A).in1
  have cl := run_inS (us := [v, u]) (vs := [V.ref r, y]) sb F (hx σ) I2 (.cons rx (.cons ry .nil)) hsp
  subst ev
  obtain ⟨mA, J, _⟩ := ins_get I2.hok hr1
  obtain ⟨od, J, _⟩ := J.look
  obtain ⟨m, hF⟩ := I2.fr
  exact PySem.W.sub_K hF I2.ok.mod.kin J at_ fi fn (wpAny_call cl) (hs _ _)
end
end Vx
set_option Elab.async false
set_option linter.all false
set_option maxRecDepth 100000
set_option maxHeartbeats 4000000
namespace Gd
open PySem PySem.Spec PyProof.Rows L2
theorem call_reprK {X : Cx} {K : PySem.W.Frag} (hK : X.K = K) (g : Calm0 X.A) (hu : X.A.units + 64 < cLine) : CallR X (.builtin "repr") (fun xs H Q => ∃ v d, xs = [v] ∧ Dp K H v d ∧ okShow d = true ∧ Q (.str d.shown) H) := hK ▸ call_reprD g hu
mutual
theorem dp_same {K : PySem.W.Frag} {H H' : Hp} (s : Same H H') : ∀ {v : V} {d : PyData}, Dp K H v d → Dp K H' v d
  | _, _, .non => .non
  | _, _, .bl b => .bl b
  | _, _, .int i => .int i
  | _, _, .str x => .str x
  | _, _, .lst h r => .lst (s.seq h) (dp_sameAll s r)
  | _, _, .tup h r => .tup (SqT.ext h s) (dp_sameAll s r)
theorem dp_sameAll {K : PySem.W.Frag} {H H' : Hp} (s : Same H H') : ∀ {vs : List V} {ds : List PyData}, DpAll K H vs ds → DpAll K H' vs ds
  | _, _, .nil => .nil
  | _, _, .cons h r => .cons (dp_same s h) (dp_sameAll s r)
end
end Gd
namespace Vx
open PySem PySem.Spec PyProof.Rows L2
section
variable {X : Cx} {CX : CXT} {k : Nat} {C f : Addr} {sp : Sp} {E : L2.St → XK} {p pos : Pos} {x : Str} {e : Expr} {es : List Expr} {t : TA}
def tMakeE (C : Addr) (sp : Sp) (E : L2.St → XK) (t : TA) : TE := fun σ H Q => t σ H fun vs H1 => ∀ y dy, H1 y = none → H1 dy = none → dy ≠ y → sp (.ref y :: vs) (upd (upd H1 dy (.own y)) y (.ins C dy [])) (fun v H2 => v = .non ∧ Q (.ref y) H2) (E σ)
theorem pe_makeE (M : Mk X.K C f) (F : FnR X.prog X.w X.K X.mg X.base CX k f sp) (hr : Room (k + 1) X.A) (hg : Gl X x) (hm : X.mg x = some (.ref C)) (hx : ∀ σ, PassesAt CX X σ (E σ))
    (ha : PA X (e :: es) t) (hdb : (x == ("__debug__" : Str)) = false := by decide) (he : starEach (e :: es) X.env = (false, eval e X.env) :: starEach es X.env := by rfl) (hpl : (backTo pos (starEach es X.env)).any (·.1) = false := by rfl) :
    PE X (.Call (.Name x p) (e :: es) [] pos) (tMakeE C sp E t) := by
  refine ⟨fun pins s σ H Q I h => ?_⟩
  refine wpAny_Call_Name_kw (ld_glob I hg hm ?_ hdb)
  refine PySem.W.callWith_K (h₀ := X.base) I.ok.mod.kin M.kp (thn (ha.run pos pins s σ H _ I h) fun us s1 ⟨vs, H1, I1, r, q⟩ => ⟨I1.kIn, ?_⟩) he hpl
  exact run_makeRS M F hr (hx σ) I1 r q
end
end Vx
namespace Toy
open PySem PySem.Spec PyProof.Rows L2
theorem strOk_of (s : String) : PyData.strOk (Str.ofString s) = true := by
  rw [Str.ofString_eq_toList]
  unfold PyData.strOk
  simp only [List.all_toArray, List.all_map, List.all_eq_true, Function.comp, decide_eq_true_eq]
  intro c _
  have := c.valid
  show c.val.toNat < 1114112
  rcases this with h | h
  · exact Nat.lt_trans h (by decide)
  · exact h.2
section
variable {P : Program} {w : World} {K : PySem.W.Frag} {mg : Str → Option Value} {base : Heap} {MC MD W : Addr}
structure KitW (K : PySem.W.Frag) (mg : Str → Option Value) (W D Y : Addr) : Prop where
  isi : mg "isinstance" = none
  rep : mg "repr" = none
  gW : mg "BadMarks" = some (.ref W)
  gD : mg "PagesError" = some (.ref D)
  gY : mg "BadPage" = some (.ref Y)
  ve : mg "ValueError" = none
  kD : PySem.W.kitOne K (.ref W) (.ref D) = some true
  kV : PySem.W.kitOne K (.ref W) (.type "ValueError") = some true
  kY : PySem.W.kitOne K (.ref W) (.ref Y) = some false
structure Sui (K : PySem.W.Frag) (B : Addr) (f : Str) : Prop where
  X : Vx.ExcX K B
  F : XfC K B
  no : PySem.W.findIn K (.ref B) f = some none
  ex : PySem.W.exmOne K (.ref B) (.ref B) = some true
def told4 (x : Str) : List V := [.str x, .bl true, .bl true, .bl false]
def spPut (K : PySem.W.Frag) (MC : Addr) : Sp := fun vs H Q _ => ∃ (q l : Addr) (fl : List Bool) (v x : V) (o : Option Int) (d : PyData), vs = [.ref q, v, x] ∧ MarksAt MC H q l fl ∧ NV K H v o ∧ Dp K H v d ∧ Gd.okShow d = true ∧ ((∃ b, x = .bl b) ∨ ∃ t, TyX K H x t ∧ PySem.W.kitOne K t (.type "bool") = some false) ∧
  (∀ (i : Nat) (b : Bool), o = some (i : Int) → i < fl.length → x = .bl b → ∀ H' t, Same H H' → H t = none → H' t = some (.lst [.str "done"]) → Q (.ref t) (upd H' l (.lst ((fl.set i b).map V.bl)))) ∧
  (btw o 0 ((fl.length : Nat) - 1 : Int) = false → ∀ H' t, Same H H' → H' t = some (.lst (told4 d.shown)) → Q (.ref t) H') ∧
  (∀ i : Nat, o = some (i : Int) → i < fl.length → (∀ b, x ≠ .bl b) → ∀ H' t, Same H H' → H' t = some (.lst (told4 "None")) → Q (.ref t) H')
theorem ok_put {f fS D Y : Addr} {fd : FuncData} (F : Fun K "_law_put" "_law_put" s_law_put f fd) (b : L2.Binds K fd ["marks", "at", "value"] []) (nq : PySem.W.noSeq K MC = true) (sA : PySem.W.findIn K (.ref MC) "__setitem__" = some (some (.ref fS))) (sF : PySem.W.isFn K (.ref fS) = true) (FS : FnR P w K mg base (L2.CX P w) 3 fS (spMkSet K MC W)) (S : Sui K W "at") (T : KitW K mg W D Y) : Gd.FnG P w K mg base CX0 6 f (spPut K MC) := by
  refine Gd.fnG_ok F sc_law_put b (fun vs H Q E h => ?_) (fun cdv A outer s H vs Q E g hr h => ?_)
  · obtain ⟨q, l, fl, v, x, o, d, rfl, _⟩ := h
    rfl
  · obtain ⟨q, l, fl, v, x, o, d, rfl, hM, hv, hd, ok, hx, k, ke, kb⟩ := h
    have hr3 : Room 3 _ := hr.mono (by decide)
    have nd := sc_law_put.nd
    refine ⟨_, pss_cons (ps_set (i := 3) nd rfl (Or.inl rfl) (pe_lst (pa_cons pe_str pa_nil)))
      (pss_cons (ps_try_as (i := 4) rfl rfl nd rfl rfl ⟨rfl, by decide, .inl T.gW⟩ takes0
        (fun W pn xe tk _ => pss_one (ps_asg (pv 2) (Vx.pg_subE (pv 0) (pv 1) (Vx.set_ownE nq sA sF FS hr3 (fun σ => passAt tk σ)))))
        (fun a oe cls d pn hz hf => pss_one (ps_set (i := 3) nd rfl (Or.inl rfl) (pe_lst (pa_cons (pe_callB (Gd.call_reprK (K := K) rfl g hr.units) (by rfl) T.rep (by decide +kernel) (pa_cons (pe_xf S.F S.no hz hf (pv 4)) pa_nil))
          (pa_cons (pe_callB (Vx.call_isX S.X hz hf) (by rfl) T.isi (by decide +kernel) (pa_cons (pv 4) (pa_cons (pe_glob (v := .ref D) (by rfl) T.gD rfl) pa_nil)))
          (pa_cons (pe_callB (Vx.call_isX S.X hz hf) (by rfl) T.isi (by decide +kernel) (pa_cons (pv 4) (pa_cons (pe_bltn (v := .ty "ValueError") (by rfl) T.ve (by decide +kernel) rfl) pa_nil)))
          (pa_cons (pe_callB (Vx.call_isX S.X hz hf) (by rfl) T.isi (by decide +kernel) (pa_cons (pv 4) (pa_cons (pe_glob (v := .ref Y) (by rfl) T.gY rfl) pa_nil))) pa_nil))))))))
      (pss_one (ps_ret (pv 3)))), ?_⟩
    refine ⟨by show 1 ≤ sizeLine; decide, fun t nt => ?_⟩
    have s1 := same_upd (o := .lst [V.str "done"]) nt
    have t1 : (upd H t (.lst [V.str "done"])) t = some (.lst [V.str "done"]) := upd_same
    generalize upd H t (HO.lst [V.str "done"]) = H1 at s1 t1
    obtain ⟨⟨dx, e1⟩, e2⟩ := id hM
    have hx' : (∃ b, x = .bl b) ∨ ∃ t, TyX K H1 x t ∧ PySem.W.kitOne K t (.type "bool") = some false := by
      rcases hx with h | ⟨ty, h1, h2⟩
      · exact .inl h
      · exact .inr ⟨ty, TyX.same h1 s1, h2⟩
    refine ⟨_, rfl, _, rfl, _, rfl, ⟨q, dx, _, rfl, s1 _ _ e1⟩, q, l, fl, v, x, o, rfl, hM.same s1, hv.same s1, hx', fun i b ho hi ex => ⟨_, rfl, k i b ho hi ex H1 t s1 nt t1⟩, fun hb H' dd s' nd' hd' => ?_, fun i ho hi hne H' dd s' nd' hd' => ?_⟩
    · refine ⟨true, S.ex, fun _ a ha => ?_, fun z => nomatch z⟩
      refine ⟨_, rfl, rfl, rfl, dd, _, _, rfl, hd', rfl, v, d, rfl, Gd.dp_same (s1.trans s') hd, ok, ?_⟩
      refine ⟨_, rfl, rfl, dd, _, .ref D, .ref D, true, rfl, hd', rfl, fun u z => z, T.kD, ?_⟩
      refine ⟨_, rfl, rfl, dd, _, .ty "ValueError", .type "ValueError", true, rfl, hd', rfl, fun u z => z, T.kV, ?_⟩
      refine ⟨_, rfl, rfl, dd, _, .ref Y, .ref Y, false, rfl, hd', rfl, fun u z => z, T.kY, ?_⟩
      exact ⟨by show 4 ≤ sizeLine; decide, fun m nm => ⟨_, rfl, ke hb _ m ((s1.trans s').trans (same_upd nm)) upd_same⟩⟩
    · refine ⟨true, S.ex, fun _ a ha => ?_, fun z => nomatch z⟩
      refine ⟨_, rfl, rfl, rfl, dd, _, _, rfl, hd', rfl, .non, .none, rfl, .non, rfl, ?_⟩
      refine ⟨_, rfl, rfl, dd, _, .ref D, .ref D, true, rfl, hd', rfl, fun u z => z, T.kD, ?_⟩
      refine ⟨_, rfl, rfl, dd, _, .ty "ValueError", .type "ValueError", true, rfl, hd', rfl, fun u z => z, T.kV, ?_⟩
      refine ⟨_, rfl, rfl, dd, _, .ref Y, .ref Y, false, rfl, hd', rfl, fun u z => z, T.kY, ?_⟩
      exact ⟨by show 4 ≤ sizeLine; decide, fun m nm => ⟨_, rfl, kb i ho hi hne _ m ((s1.trans s').trans (same_upd nm)) upd_same⟩⟩
def spItem (K : PySem.W.Frag) (MC : Addr) : Sp := fun vs H Q _ => ∃ (q l : Addr) (fl : List Bool) (v : V) (o : Option Int) (d : PyData), vs = [.ref q, v] ∧ MarksAt MC H q l fl ∧ NV K H v o ∧ Dp K H v d ∧ Gd.okShow d = true ∧
  (∀ (i : Nat) (b : Bool), o = some (i : Int) → fl[i]? = some b → Q (.bl b) H) ∧ (btw o 0 ((fl.length : Nat) - 1 : Int) = false → ∀ H', Same H H' → Q (.str d.shown) H')
theorem ok_item {f fG : Addr} {fd : FuncData} (F : Fun K "_law_item" "_law_item" s_law_item f fd) (b : L2.Binds K fd ["marks", "at"] []) (gA : PySem.W.findIn K (.ref MC) "__getitem__" = some (some (.ref fG))) (gI : PySem.W.fnIn K fG = true) (gF : PySem.W.isFn K (.ref fG) = true) (FG : FnR P w K mg base (L2.CX P w) 3 fG (spMkGet K MC W)) (S : Sui K W "at") (gW : mg "BadMarks" = some (.ref W)) (rep : mg "repr" = none) : Gd.FnG P w K mg base CX0 6 f (spItem K MC) := by
  refine Gd.fnG_ok F sc_law_item b (fun vs H Q E h => ?_) (fun cdv A outer s H vs Q E g hr h => ?_)
  · obtain ⟨q, l, fl, v, o, d, rfl, _⟩ := h
    rfl
  · obtain ⟨q, l, fl, v, o, d, rfl, hM, hv, hd, ok, k, ke⟩ := h
    have hr4 : Room 4 _ := hr.mono (by decide)
    have nd := sc_law_item.nd
    refine ⟨_, pss_cons (ps_set (i := 2) nd rfl (Or.inl rfl) pe_non)
      (pss_cons (ps_try_as (i := 3) rfl rfl nd rfl rfl ⟨rfl, by decide, .inl gW⟩ takes0
        (fun W pn xe tk _ => pss_one (ps_set (i := 2) nd rfl (Or.inl rfl) (Vx.pe_getE (pv 0) (pv 1) gA gI gF FG hr4 (fun σ => passAt tk σ) (fun _ _ => by with_unfolding_all rfl))))
        (fun a oe cls d pn hz hf => pss_one (ps_set (i := 2) nd rfl (Or.inl rfl) (pe_callB (Gd.call_reprK (K := K) rfl g hr.units) (by rfl) rep (by decide +kernel) (pa_cons (pe_xf S.F S.no hz hf (pv 3)) pa_nil)))))
      (pss_one (ps_ret (pv 2)))), ?_⟩
    obtain ⟨⟨dx, e1⟩, e2⟩ := id hM
    refine ⟨_, rfl, _, rfl, ⟨q, dx, _, rfl, e1⟩, q, l, fl, v, o, rfl, hM, hv, fun i b ho hi => ⟨_, rfl, k i b ho hi⟩, fun hb H' dd s' nd' hd' => ?_⟩
    refine ⟨true, S.ex, fun _ a ha => ?_, fun z => nomatch z⟩
    exact ⟨_, rfl, rfl, rfl, dd, _, _, rfl, hd', rfl, v, d, rfl, Gd.dp_same s' hd, ok, _, rfl, ke hb H' s'⟩
def spMade (K : PySem.W.Frag) (MD : Addr) : Sp := fun vs H Q _ => ∃ (v : V) (o : Option Int) (d : PyData), vs = [v] ∧ NotC K MD H v ∧ NV K H v o ∧ Dp K H v d ∧ Gd.okShow d = true ∧
  (btw o 1 64 = true → ∀ H' t, Same H H' → H' t = some (.lst [.str "done"]) → Q (.ref t) H') ∧ (btw o 1 64 = false → ∀ H' t, Same H H' → H' t = some (.lst [.str d.shown, .bl true]) → Q (.ref t) H')
theorem ok_made {f fI D : Addr} {fd : FuncData} (F : Fun K "_law_made" "_law_made" s_law_made f fd) (b : L2.Binds K fd ["many"] []) (M : Mk K MC fI) (gM : mg "Marks" = some (.ref MC)) (FI : FnR P w K mg base (L2.CX P w) 3 fI (spMkI K MC MD W)) (S : Sui K W "at") (isi : mg "isinstance" = none) (rep : mg "repr" = none) (gW : mg "BadMarks" = some (.ref W)) (gD : mg "PagesError" = some (.ref D)) (kD : PySem.W.kitOne K (.ref W) (.ref D) = some true) : Gd.FnG P w K mg base CX0 6 f (spMade K MD) := by
  refine Gd.fnG_ok F sc_law_made b (fun vs H Q E h => ?_) (fun cdv A outer s H vs Q E g hr h => ?_)
  · obtain ⟨v, o, d, rfl, _⟩ := h
    rfl
  · obtain ⟨v, o, d, rfl, ⟨ty, ht, hk⟩, hv, hd, ok, k, ke⟩ := h
    have hr4 : Room 4 _ := hr.mono (by decide)
    have nd := sc_law_made.nd
    refine ⟨_, pss_cons (ps_set (i := 1) nd rfl (Or.inl rfl) (pe_lst (pa_cons pe_str pa_nil)))
      (pss_cons (ps_try_as (i := 2) rfl rfl nd rfl rfl ⟨rfl, by decide, .inl gW⟩ takes0
        (fun W pn xe tk _ => pss_one (ps_expr (Vx.pe_makeE M FI hr4 (by rfl) gM (fun σ => passAt tk σ) (pa_cons (pv 0) pa_nil))))
        (fun a oe cls d pn hz hf => pss_one (ps_set (i := 1) nd rfl (Or.inl rfl) (pe_lst (pa_cons (pe_callB (Gd.call_reprK (K := K) rfl g hr.units) (by rfl) rep (by decide +kernel) (pa_cons (pe_xf S.F S.no hz hf (pv 2)) pa_nil))
          (pa_cons (pe_callB (Vx.call_isX S.X hz hf) (by rfl) isi (by decide +kernel) (pa_cons (pv 2) (pa_cons (pe_glob (v := .ref D) (by rfl) gD rfl) pa_nil))) pa_nil))))))
      (pss_one (ps_ret (pv 1)))), ?_⟩
    refine ⟨by show 1 ≤ sizeLine; decide, fun t nt => ?_⟩
    have s1 := same_upd (o := .lst [V.str "done"]) nt
    have t1 : (upd H t (.lst [V.str "done"])) t = some (.lst [V.str "done"]) := upd_same
    generalize upd H t (HO.lst [V.str "done"]) = H1 at s1 t1
    refine ⟨_, rfl, ?_⟩
    intro mk dm nmk ndm nedm
    have s2 : Same H1 (upd (upd H1 dm (.own mk)) mk (.ins MC dm [])) := fun c o y => by
      rw [upd_ne (ne_of_none y nmk), upd_ne (ne_of_none y ndm)]
      exact y
    have t2 := s1.trans s2
    refine ⟨H1, mk, dm, v, o, rfl, s2, nmk, upd_same, ⟨ty, TyX.same ht t2, hk⟩, hv.same t2, fun n ho n1 n2 H' l s' nl e' el => ⟨rfl, _, rfl, k (by rw [ho]; exact decide_eq_true ⟨by omega, by omega⟩) H' t (s1.trans s') (s' _ _ t1)⟩, fun hb H' dd s' nd' hd' => ?_⟩
    refine ⟨true, S.ex, fun _ a ha => ?_, fun z => nomatch z⟩
    refine ⟨_, rfl, rfl, rfl, dd, _, _, rfl, hd', rfl, v, d, rfl, Gd.dp_same (t2.trans s') hd, ok, ?_⟩
    refine ⟨_, rfl, rfl, dd, _, .ref D, .ref D, true, rfl, hd', rfl, fun u z => z, kD, ?_⟩
    exact ⟨by show 2 ≤ sizeLine; decide, fun m nm => ⟨_, rfl, ke hb _ m ((t2.trans s').trans (same_upd nm)) upd_same⟩⟩
end
end Toy
set_option Elab.async false
set_option linter.all false
set_option maxRecDepth 100000
set_option maxHeartbeats 4000000
namespace Toy
open PySem PySem.Spec PyProof.Rows L2
theorem off {H : Hp} {p c a : Addr} (P : Pot H p c) (n : H a = none) : a ≠ p ∧ a ≠ c := by
  obtain ⟨cs, at_, x, h1, h2, _⟩ := P
  exact ⟨(ne_of_none h1 n).symm, (ne_of_none h2 n).symm⟩
section
variable {P : Program} {w : World} {K : PySem.W.Frag} {mg : Str → Option Value} {base : Heap} {MC MD W : Addr}
structure Drw (P : Program) (w : World) (K : PySem.W.Frag) (mg : Str → Option Value) (base : Heap) (fD : Addr) (fdD : FuncData) : Prop where
  G : FnOk P w K mg base CX0 1 fD fdD ["pot", "many"] spDraw
  k : PySem.W.keepIn K (.ref fD) = true
  b : L2.Binds K fdD ["pot", "many"] []
  g : mg "_law_draw" = some (.ref fD)
def Newly (H H' H2 : Hp) : Prop := ∀ b o, H b = none → H' b = some o → H2 b = some o
def OddNew (K : PySem.W.Frag) (H H' : Hp) (x : V) : Prop := ∃ o d, Gd.okShow d = true ∧ PyData.strOk d.shown = true ∧ ∀ H2 : Hp, Newly H H' H2 → NV K H2 x o ∧ Dp K H2 x d
def spOdd (K : PySem.W.Frag) : Sp := fun vs H Q _ => ∃ (p c : Addr), vs = [.ref p] ∧ Pot H p c ∧ ∀ H' v, Pot H' p c → Kept p c H H' → OddNew K H H' v → Q v H'
theorem ok_odd {f fD : Addr} {fd fdD : FuncData} (F : Fun K "_law_odd" "_law_odd" s_law_odd f fd) (D : Drw P w K mg base fD fdD) : FnOk P w K mg base CX0 2 f fd ["pot"] (spOdd K) := by
  refine F.ok sc_law_odd (fun vs H Q E h => ?_) (fun cdv A outer s H vs Q E hr h => ?_)
  · obtain ⟨p, c, rfl, _⟩ := h
    rfl
  · obtain ⟨p, c, rfl, hP, q⟩ := h
    refine ⟨_, pss_cons (ps_set (i := 1) sc_law_odd.nd rfl (Or.inl rfl) (pe_lst (pa_cons pe_non (pa_cons pe_bl (pa_cons pe_bl (pa_cons pe_str (pa_cons pe_str (pa_cons (pe_tup (pa_cons pe_int pa_nil)) (pa_cons (pe_lst (pa_cons pe_int pa_nil)) (pa_cons (pe_un un_neg pe_int) (pa_cons pe_int (pa_cons (pe_op op_pow pe_int pe_int) pa_nil))))))))))))
      (pss_one (ps_ret (pe_ix ix_list (pv 1) (pe_call D.G hr (by rfl) D.g D.k D.b .nil pass0 (pa_cons (pv 0) (pa_cons pe_int pa_nil))) (fun _ _ => rfl)))), ?_⟩
    refine ⟨by decide, fun t nt => ⟨by decide, fun l nl => ⟨1, rfl, 10, 24, rfl, rfl, ⟨by decide, by decide, by decide⟩, (by show 10 ≤ sizeLine; decide), fun a na => ?_⟩⟩⟩
    have s1 := same_upd (o := .tup [V.int 1]) nt
    have s2 := same_upd (o := .lst [V.int 1]) nl
    have nl0 : H l = none := s1.free nl
    generalize eXS : [V.non, V.bl true, V.bl false, V.str (Str.ofString "1"), V.str (Str.ofString ""), V.ref t, V.ref l, (fun (i : Int) => V.int (-i)) 1, V.int 31, (fun (i j : Int) => V.int (i ^ j.toNat)) 10 24] = XS
    have s3 := s1.trans (s2.trans (same_upd (o := .lst XS) na))
    refine ⟨_, rfl, _, rfl, p, c, 10, rfl, hP.same s3, by decide, by decide, fun H1 d P1 K1 d0 d1 => ?_⟩
    have oa := off (hP.same (s1.trans s2)) na
    have ol := off (hP.same s1) nl
    have ot := off hP nt
    have e1 := K1 a _ oa.1 oa.2 upd_same
    have et := K1 t _ ot.1 ot.2 ((same_upd na) _ _ (s2 _ _ upd_same))
    have el := K1 l _ ol.1 ol.2 ((same_upd na) _ _ upd_same)
    obtain ⟨k, rfl⟩ := Int.eq_ofNat_of_zero_le d0
    have lXS : XS.length = 10 := by rw [← eXS]; rfl
    have hv : XS[k]? = some (XS[k]'(by omega)) := List.getElem?_eq_getElem (by omega)
    have hX : ∀ x ∈ XS, OddNew K H H1 x := by
      intro x hx
      rw [← eXS] at hx
      simp only [List.mem_cons, List.not_mem_nil, or_false] at hx
      rcases hx with rfl | rfl | rfl | rfl | rfl | rfl | rfl | rfl | rfl | rfl
      · exact ⟨_, _, by decide +kernel, by decide +kernel, fun H2 hk => ⟨.non, .non⟩⟩
      · exact ⟨_, _, by decide +kernel, by decide +kernel, fun H2 hk => ⟨.bl _, .bl _⟩⟩
      · exact ⟨_, _, by decide +kernel, by decide +kernel, fun H2 hk => ⟨.bl _, .bl _⟩⟩
      · exact ⟨_, _, by decide +kernel, by decide +kernel, fun H2 hk => ⟨.str _, .str _⟩⟩
      · exact ⟨_, _, by decide +kernel, by decide +kernel, fun H2 hk => ⟨.str _, .str _⟩⟩
      · exact ⟨none, .tuple [.int 1], by decide +kernel, by decide +kernel, fun H2 hk => ⟨.tup (hk t _ nt et), .tup (SqT.of (hk t _ nt et)) (.cons (.int _) .nil)⟩⟩
      · exact ⟨none, .list [.int 1], by decide +kernel, by decide +kernel, fun H2 hk => ⟨.lst (hk l _ nl0 el), .lst (SqL.of (hk l _ nl0 el)) (.cons (.int _) .nil)⟩⟩
      · exact ⟨some (-1), .int (-1), (by decide +kernel), strOk_of _, fun H2 hk => ⟨.int _, .int _⟩⟩
      · exact ⟨some 31, .int 31, (by decide +kernel), strOk_of _, fun H2 hk => ⟨.int _, .int _⟩⟩
      · exact ⟨some ((10 : Int) ^ (24 : Int).toNat), .int ((10 : Int) ^ (24 : Int).toNat), (by decide +kernel), strOk_of _, fun H2 hk => ⟨.int _, .int _⟩⟩
    refine ⟨a, _, _, _, rfl, rfl, SqL.of e1, atI_nat hv, q H1 _ P1 ((Kept.of_same s3).trans K1) (hX _ (List.getElem_mem _))⟩
/-! ### is a page -/
def spPageN (K : PySem.W.Frag) : Sp := fun vs H Q _ => ∃ (v : V) (o : Option Int) (h : Int), vs = [v, .int h] ∧ NV K H v o ∧ Q (.bl (btw o 0 (h - 1))) H
theorem ok_pageN {f : Addr} {fd : FuncData} (F : Fun K "_law_is_page" "_law_is_page" s_law_is_page f fd) (T : NmI mg) : FnOk P w K mg base CX0 1 f fd ["at", "many"] (spPageN K) := by
  refine F.ok sc_law_is_page (fun vs H Q E h => ?_) (fun cdv A outer s H vs Q E hr h => ?_)
  · obtain ⟨v, o, h, rfl, _⟩ := h
    rfl
  · obtain ⟨v, o, u, rfl, hv, q⟩ := h
    refine ⟨_, pss_one (ps_ret (pe_and (pe_callB call_isi (by rfl) T.isi (by decide +kernel) (pa_cons (pv 0) (pa_cons (pe_bltn (v := .ty "int") (by rfl) T.int (by decide +kernel) rfl) pa_nil)))
      (pe_and (pe_not (pe_callB call_isi (by rfl) T.isi (by decide +kernel) (pa_cons (pv 0) (pa_cons (pe_bltn (v := .ty "bool") (by rfl) T.bool (by decide +kernel) rfl) pa_nil)))) (pe_one (pe_chain op_le op_lt pe_int (pv 0) (pv 1)))))), ?_⟩
    cases hv with
    | int i =>
      refine ⟨_, rfl, .int i, .ty "int", _, _, true, rfl, .ty _, .base (.int i), kit_ty (by decide +kernel), true, rfl, iteT ⟨_, rfl, .int i, .ty "bool", _, _, false, rfl, .ty _, .base (.int i), kit_ty (by decide +kernel), false, rfl, true, rfl, iteT ?_⟩⟩
      refine ⟨_, rfl, 0, i, rfl, rfl, decide (0 ≤ i), rfl, ?_⟩
      by_cases h1 : 0 ≤ i
      · rw [decide_eq_true h1]
        refine iteT ⟨_, rfl, i, u, rfl, rfl, ?_⟩
        have e : btw (some i) 0 (u - 1) = decide (i < u) := by
          show decide (0 ≤ i ∧ i ≤ u - 1) = _
          exact decide_eq_decide.mpr ⟨fun z => by omega, fun z => ⟨h1, by omega⟩⟩
        rw [e] at q
        exact q
      · rw [decide_eq_false h1]
        have e : btw (some i) 0 (u - 1) = false := decide_eq_false fun z => h1 z.1
        rw [e] at q
        exact iteF q
    | bl b =>
      refine ⟨_, rfl, .bl b, .ty "int", _, _, true, rfl, .ty _, .base (.bl b), kit_ty (by decide +kernel), true, rfl, iteT ?_⟩
      exact ⟨_, rfl, .bl b, .ty "bool", _, _, true, rfl, .ty _, .base (.bl b), kit_ty (by decide +kernel), true, rfl, false, rfl, iteF q⟩
    | oth ht hk hkb n => exact ⟨_, rfl, v, .ty "int", _, _, false, rfl, .ty _, ht, hk, false, rfl, iteF q⟩
/-! ### twin -/
def spMdI (MD : Addr) : Sp := fun vs H Q _ => ∃ (q dx : Addr) (x : V), vs = [.ref q, x] ∧ H q = some (.ins MD dx []) ∧ Q .non (upd H q (.ins MD dx [("flags", x)]))
theorem ok_md_init {f : Addr} {fd : FuncData} (F : Fun K "__init__" "Made.__init__" s_Made_init f fd) (cl : Cls K MD) (nF : NoAttr K MD "flags") : FnOk P w K mg base CX0 1 f fd ["self", "flags"] (spMdI MD) := by
  refine F.ok sc_Made_init (fun vs H Q E h => ?_) (fun cdv A outer s H vs Q E hr h => ?_)
  · obtain ⟨q, dx, x, rfl, _⟩ := h
    rfl
  · obtain ⟨q, dx, x, rfl, h1, k⟩ := h
    refine ⟨_, pss_one (ps_fld (pv 0) (pv 1) rfl), ?_⟩
    exact ⟨_, rfl, _, rfl, q, MD, dx, _, rfl, h1, cl, nF, (by show (0 : Nat) < 1000; decide), k⟩
def spMkM (MC MD : Addr) : Sp := fun vs H Q _ => ∃ (q m dx dm l : Addr), vs = [.ref q, .ref m] ∧ H q = some (.ins MC dx []) ∧ H m = some (.ins MD dm [("flags", .ref l)]) ∧ Q .non (upd H q (.ins MC dx [("_flags", .ref l)]))
theorem ok_mk_initM {f : Addr} {fd : FuncData} (F : Fun K "__init__" "Marks.__init__" s_Marks_init f fd) (T : MkT K mg MC MD) (C : MkC K MD) (nF : NoAttr K MD "flags") : FnOk P w K mg base CX0 1 f fd ["self", "many"] (spMkM MC MD) := by
  refine F.ok sc_Marks_init (fun vs H Q E h => ?_) (fun cdv A outer s H vs Q E hr h => ?_)
  · obtain ⟨q, m, dx, dm, l, rfl, _⟩ := h
    rfl
  · obtain ⟨q, m, dx, dm, l, rfl, h1, h2, k⟩ := h
    refine ⟨_, pss_one (ps_if (pt_val (pe_callB call_isi (by rfl) T.isi (by decide +kernel) (pa_cons (pv 1) (pa_cons (pe_glob (v := .ref MD) (by rfl) T.gD rfl) pa_nil)))) (pss_one (ps_fld (pv 0) (pe_fld (pv 1) rfl) rfl)) (pss_one ps_never)), ?_⟩
    refine ⟨_, rfl, .ref m, .ref MD, .ref MD, .ref MD, true, rfl, .own MD, .base (.ins h2 C.cl C.cC C.cG C.cT C.cM), C.kk, true, rfl, iteT ?_⟩
    exact ⟨_, rfl, m, MD, dm, _, _, rfl, h2, C.cl, nF, rfl, _, rfl, q, MC, dx, _, rfl, h1, T.cl, T.nF, (by show (0 : Nat) < 1000; decide), k⟩
def spTwin (MC : Addr) : Sp := fun vs H Q _ => ∃ (q l : Addr) (fl : List Bool), vs = [.ref q] ∧ MarksAt MC H q l fl ∧ ∀ H' r m, Same H H' → H r = none → H m = none → MarksAt MC H' r m fl → Q (.ref r) H'
theorem ok_twin {f fI fD : Addr} {fd fdI fdD : FuncData} (F : Fun K "twin" "Marks.twin" s_Marks_twin f fd) (T : MkT K mg MC MD) (gM : mg "Marks" = some (.ref MC)) (M : Mk K MC fI) (FI : FnOk P w K mg base CX0 1 fI fdI ["self", "many"] (spMkM MC MD)) (bI : L2.Binds K fdI ["self", "many"] []) (MM : Mk K MD fD) (FD : FnOk P w K mg base CX0 1 fD fdD ["self", "flags"] (spMdI MD)) (bD : L2.Binds K fdD ["self", "flags"] []) : FnOk P w K mg base CX0 3 f fd ["self"] (spTwin MC) := by
  refine F.ok sc_Marks_twin (fun vs H Q E h => ?_) (fun cdv A outer s H vs Q E hr h => ?_)
  · obtain ⟨q, l, fl, rfl, _⟩ := h
    rfl
  · obtain ⟨q, l, fl, rfl, ⟨⟨dx, h1⟩, h2⟩, k⟩ := h
    refine ⟨_, pss_one (ps_ret (pe_make M FI hr (by rfl) gM bI .nil pass0 (pa_cons (pe_make MM FD hr (by rfl) T.gD bD .nil pass0 (pa_cons (pe_callTy call_list_of (by rfl) T.list (by decide +kernel) (pa_cons (pe_fld (pv 0) rfl) pa_nil)) pa_nil)) pa_nil))), ?_⟩
    refine ⟨_, rfl, q, MC, dx, _, _, rfl, h1, T.cl, T.nF, rfl, l, _, rfl, .inl (SqL.of h2), fun m nm => ?_⟩
    have s1 := same_upd (o := .lst (fl.map V.bl)) nm
    have m1 : (upd H m (.lst (fl.map V.bl))) m = some (.lst (fl.map V.bl)) := upd_same
    generalize upd H m (HO.lst (fl.map V.bl)) = H1 at s1 m1
    intro y dy ny ndy ney
    refine ⟨y, dy, .ref m, rfl, upd_same, rfl, ?_⟩
    have s2 : Same H1 (upd (upd (upd H1 dy (.own y)) y (.ins MD dy [])) y (.ins MD dy [("flags", .ref m)])) := fun c o z => by
      rw [upd_ne (ne_of_none z ny), upd_ne (ne_of_none z ny), upd_ne (ne_of_none z ndy)]
      exact z
    have y2 : (upd (upd (upd H1 dy (.own y)) y (.ins MD dy [])) y (.ins MD dy [("flags", .ref m)])) y = some (.ins MD dy [("flags", .ref m)]) := upd_same
    generalize upd (upd (upd H1 dy (HO.own y)) y (.ins MD dy [])) y (HO.ins MD dy [("flags", .ref m)]) = H2 at s2 y2
    intro r dr nr ndr ner
    have s3 : Same H2 (upd (upd H2 dr (.own r)) r (.ins MC dr [])) := fun c o z => by
      rw [upd_ne (ne_of_none z nr), upd_ne (ne_of_none z ndr)]
      exact z
    refine ⟨r, y, dr, dy, m, rfl, upd_same, s3 _ _ y2, rfl, ?_⟩
    have s4 : Same H2 (upd (upd (upd H2 dr (.own r)) r (.ins MC dr [])) r (.ins MC dr [("_flags", .ref m)])) := fun c o z => by
      rw [upd_ne (ne_of_none z nr), upd_ne (ne_of_none z nr), upd_ne (ne_of_none z ndr)]
      exact z
    exact k _ r m (s1.trans (s2.trans s4)) (none_of (s1.trans s2) nr) nm ⟨⟨dr, upd_same⟩, s4 _ _ (s2 _ _ m1)⟩
end
end Toy
set_option Elab.async false
set_option linter.all false
set_option maxRecDepth 100000
set_option maxHeartbeats 4000000
namespace Toy
open PySem PySem.Spec PyProof.Rows L2
section
variable {P : Program} {w : World} {K : PySem.W.Frag} {mg : Str → Option Value} {base : Heap} {MC MD W : Addr}
/-- what the kinds of Python are against the class at MD -/
structure KindsOf (K : PySem.W.Frag) (MD : Addr) : Prop where
  n : PySem.W.kitOne K (.type "NoneType") (.ref MD) = some false
  b : PySem.W.kitOne K (.type "bool") (.ref MD) = some false
  i : PySem.W.kitOne K (.type "int") (.ref MD) = some false
  s : PySem.W.kitOne K (.type "str") (.ref MD) = some false
  t : PySem.W.kitOne K (.type "tuple") (.ref MD) = some false
  l : PySem.W.kitOne K (.type "list") (.ref MD) = some false
def Odd1 (K : PySem.W.Frag) (MD : Addr) (H : Hp) (x : V) : Prop := ∃ o d, btw o 1 64 = false ∧ NotC K MD H x ∧ NV K H x o ∧ Dp K H x d ∧ Gd.okShow d = true ∧ PyData.strOk d.shown = true
def Odd1New (K : PySem.W.Frag) (MD : Addr) (H H' : Hp) (x : V) : Prop := ∀ H2 : Hp, (∀ b o, H b = none → H' b = some o → H2 b = some o) → Odd1 K MD H2 x
def spAll : Sp := fun vs H Q _ => ∃ (p c : Addr), vs = [.ref p] ∧ Pot H p c ∧ ∀ H', Pot H' p c → Kept p c H H' → Q (.bl true) H'
theorem eq_self {d : PyData} (h : PyData.canLay0 d = true) : PyData.eqv d d = true := SeqAt.eqv_refl _ h
theorem two_can {z : Str} (h : PyData.strOk z = true) : PyData.canLay0 (.list [.str z, .bool true]) = true := by
  show (PyData.strOk z && (true && true)) = true
  rw [h]
  rfl
theorem two_shp {z : Str} (h : PyData.strOk z = true) : SeqAt.shaped (.list [.str z, .bool true]) = true := by
  unfold SeqAt.shaped
  rw [two_can h]
  rfl
theorem ok_all_made {f fD fM : Addr} {fd fdD : FuncData} (F : Fun K "_law_all_made" "_law_all_made" s_law_all_made f fd) (b : L2.Binds K fd ["pot"] []) (D : Drw P w K mg base fD fdD) (N : KindsOf K MD) (M : Gd.FnG P w K mg base CX0 6 fM (spMade K MD)) (kM : PySem.W.keepIn K (.ref fM) = true) (gM : mg "_law_made" = some (.ref fM)) (rep : mg "repr" = none) : Gd.FnG P w K mg base CX0 7 f spAll := by
  refine Gd.fnG_ok F sc_law_all_made b (fun vs H Q E h => ?_) (fun cdv A outer s H vs Q E g hr h => ?_)
  · obtain ⟨p, c, rfl, _⟩ := h
    rfl
  · obtain ⟨p, c, rfl, hP, q⟩ := h
    have hr1 : Room 1 _ := hr.mono (by decide)
    have nd := sc_law_all_made.nd
    refine ⟨_, pss_cons (ps_set (i := 1) nd rfl (Or.inl rfl) (pe_ix ix_list (pe_lst (pa_cons pe_int (pa_cons pe_int (pa_cons (pe_un un_neg pe_int) (pa_cons (pe_op op_pow pe_int pe_int) (pa_cons pe_bl (pa_cons pe_non (pa_cons pe_str (pa_cons (pe_tup (pa_cons pe_int pa_nil)) pa_nil)))))))))
        (pe_call D.G hr1 (by rfl) D.g D.k D.b .nil pass0 (pa_cons (pv 0) (pa_cons pe_int pa_nil))) (fun _ _ => rfl)))
      (pss_one (ps_ret (pe_and (pe_cmpR (op_eqD hr.units) (Gd.pe_callG M g hr (by rfl) gM kM pass0 (pa_cons (pv 1) pa_nil)) (pe_lst (pa_cons (pe_callB (Gd.call_reprK (K := K) rfl g hr.units) (by rfl) rep (by decide +kernel) (pa_cons (pv 1) pa_nil)) (pa_cons pe_bl pa_nil))) (nomark _))
        (pe_and (pe_cmpR (op_eqD hr.units) (Gd.pe_callG M g hr (by rfl) gM kM pass0 (pa_cons pe_int pa_nil)) (pe_lst (pa_cons pe_str pa_nil)) (nomark _))
        (pe_one (pe_cmpR (op_eqD hr.units) (Gd.pe_callG M g hr (by rfl) gM kM pass0 (pa_cons pe_int pa_nil)) (pe_lst (pa_cons pe_str pa_nil)) (nomark _))))))), ?_⟩
    refine ⟨1, rfl, 10, 22, rfl, rfl, ⟨by decide, by decide, by decide⟩, by decide, fun t nt => ⟨by show 8 ≤ sizeLine; decide, fun a na => ?_⟩⟩
    have s1 := same_upd (o := .tup [V.int 2]) nt
    generalize eXS : [V.int 0, V.int 65, (fun (i : Int) => V.int (-i)) 1, (fun (i j : Int) => V.int (i ^ j.toNat)) 10 22, V.bl true, V.non, V.str (Str.ofString "3"), V.ref t] = XS
    have s2 := s1.trans (same_upd (o := .lst XS) na)
    have oa := off (hP.same s1) na
    have ot := off hP nt
    refine ⟨_, rfl, p, c, 8, rfl, hP.same s2, by decide, by decide, fun H1 d P1 K1 d0 d1 => ?_⟩
    have e1 := K1 a _ oa.1 oa.2 upd_same
    have et := K1 t _ ot.1 ot.2 ((same_upd na) _ _ upd_same)
    obtain ⟨k, rfl⟩ := Int.eq_ofNat_of_zero_le d0
    have lXS : XS.length = 8 := by rw [← eXS]; rfl
    have hv : XS[k]? = some (XS[k]'(by omega)) := List.getElem?_eq_getElem (by omega)
    have hX : ∀ x ∈ XS, Odd1New K MD H H1 x := by
      intro x hx H2 hk
      rw [← eXS] at hx
      simp only [List.mem_cons, List.not_mem_nil, or_false] at hx
      have et2 := hk t _ nt et
      rcases hx with rfl | rfl | rfl | rfl | rfl | rfl | rfl | rfl
      · exact ⟨_, _, (by decide +kernel), ⟨_, .base (.int _), N.i⟩, .int _, .int _, (by decide +kernel), strOk_of _⟩
      · exact ⟨_, _, (by decide +kernel), ⟨_, .base (.int _), N.i⟩, .int _, .int _, (by decide +kernel), strOk_of _⟩
      · exact ⟨_, _, (by decide +kernel), ⟨_, .base (.int _), N.i⟩, .int _, .int _, (by decide +kernel), strOk_of _⟩
      · exact ⟨_, _, (by decide +kernel), ⟨_, .base (.int _), N.i⟩, .int _, .int _, (by decide +kernel), strOk_of _⟩
      · exact ⟨_, _, rfl, ⟨_, .base (.bl _), N.b⟩, .bl _, .bl _, by decide +kernel, by decide +kernel⟩
      · exact ⟨_, _, rfl, ⟨_, .base .non, N.n⟩, .non, .non, by decide +kernel, by decide +kernel⟩
      · exact ⟨_, _, rfl, ⟨_, .base (.str _), N.s⟩, .str _, .str _, by decide +kernel, by decide +kernel⟩
      · exact ⟨_, _, rfl, ⟨_, .base (.tup et2), N.t⟩, .tup et2, .tup (SqT.of et2) (.cons (.int _) .nil), by decide +kernel, by decide +kernel⟩
    refine ⟨a, _, _, _, rfl, rfl, SqL.of e1, atI_nat hv, ?_⟩
    have hO := hX _ (List.getElem_mem (show k < XS.length by omega))
    generalize XS[k]'(by omega) = x at hO
    have hsame : ∀ {H2 : Hp}, Same H1 H2 → Odd1 K MD H2 x := fun {H2} s => hO H2 fun b o _ e => s b o e
    obtain ⟨o, dd, hb, hN, hV, hD, hok, hst⟩ := hsame (fun _ _ e => e)
    refine ⟨_, rfl, x, o, dd, rfl, hN, hV, hD, hok, fun z => (by rw [hb] at z; cases z), fun _ H2 t2 s2' e2 => ?_⟩
    refine ⟨_, rfl, x, dd, rfl, Gd.dp_same s2' hD, hok, ?_⟩
    refine ⟨by show 2 ≤ sizeLine; decide, fun u nu => ?_⟩
    have s3 := same_upd (o := .lst [V.str dd.shown, V.bl true]) nu
    have hd1 : Dp K (upd H2 u (.lst [V.str dd.shown, V.bl true])) (.ref t2) (.list [.str dd.shown, .bool true]) := .lst (SqL.of (s3 _ _ e2)) (.cons (.str _) (.cons (.bl _) .nil))
    have hd2 : Dp K (upd H2 u (.lst [V.str dd.shown, V.bl true])) (.ref u) (.list [.str dd.shown, .bool true]) := .lst (SqL.of upd_same) (.cons (.str _) (.cons (.bl _) .nil))
    have S3 := s2'.trans s3
    generalize upd H2 u (HO.lst [V.str dd.shown, V.bl true]) = H3 at hd1 hd2 S3
    refine ⟨_, _, hd1, hd2, two_shp hst, two_shp hst, true, congrArg V.bl (eq_self (two_can hst)), iteT ?_⟩
    have ok1 : ∀ n : Int, n.natAbs ≤ 64 → Gd.okShow (.int n) = true := fun n h2 => by
      unfold Gd.okShow
      exact decide_eq_true (Nat.lt_of_le_of_lt (Nat.log2_le_self _) (by omega))
    have fin : ∀ {HA HB : Hp} {R : VK} (tt : Addr), HA tt = some (.lst [.str "done"]) → (∀ HC, Same HA HC → R (.bl true) HC) → 1 ≤ sizeLine ∧ ∀ u, HA u = none → rEqD K (.ref tt) (.ref u) (upd HA u (.lst [.str "done"])) R := fun {HA HB R} tt e r => ⟨by decide, fun u nu => by
      have s3 := same_upd (o := .lst [V.str "done"]) nu
      exact ⟨_, _, .lst (SqL.of (s3 _ _ e)) (.cons (.str _) .nil), .lst (SqL.of upd_same) (.cons (.str _) .nil), by decide +kernel, by decide +kernel, r _ s3⟩⟩
    refine ⟨.int 1, some 1, .int 1, rfl, ⟨_, .base (.int _), N.i⟩, .int _, .int _, ok1 1 (by decide), fun _ H4 t4 s4 e4 => ?_, fun z => absurd z (by decide)⟩
    refine fin (HB := H4) t4 e4 fun H5 s5 => ⟨true, rfl, iteT ?_⟩
    refine ⟨.int 64, some 64, .int 64, rfl, ⟨_, .base (.int _), N.i⟩, .int _, .int _, ok1 64 (by decide), fun _ H6 t6 s6 e6 => ?_, fun z => absurd z (by decide)⟩
    refine fin (HB := H6) t6 e6 fun H7 s7 => ?_
    have all := S3.trans (s4.trans (s5.trans (s6.trans s7)))
    exact q H7 (P1.same all) (((Kept.of_same s2).trans K1).trans (Kept.of_same all))
end
end Toy
set_option Elab.async false
set_option linter.all false
set_option maxRecDepth 100000
set_option maxHeartbeats 4000000
namespace Toy
open PySem PySem.Spec PyProof.Rows L2
def dk (k : Nat) : PyData := .int k
theorem dpAll_vi {K : PySem.W.Frag} {H : Hp} : ∀ ws : List Nat, DpAll K H (ws.map vi) (ws.map dk)
  | [] => .nil
  | k :: r => .cons (.int _) (dpAll_vi r)
theorem dp_vi {K : PySem.W.Frag} {H : Hp} {a : Addr} {ws : List Nat} (h : H a = some (.lst (ws.map vi))) : Dp K H (.ref a) (.list (ws.map dk)) := .lst (SqL.of h) (dpAll_vi ws)
theorem can_dk : ∀ ws : List Nat, PyData.canLayAll0 (ws.map dk) = true
  | [] => rfl
  | k :: r => by
    rw [List.map_cons]
    show (PyData.canLay0 (.int k) && PyData.canLayAll0 (r.map dk)) = true
    rw [can_dk r]
    rfl
theorem dep_dk : ∀ ws : List Nat, PyData.depthAll (ws.map dk) ≤ 1
  | [] => by decide
  | k :: r => by
    have ih := dep_dk r
    rw [List.map_cons]
    have e : PyData.depthAll (dk k :: r.map dk) = max (PyData.depth (dk k)) (PyData.depthAll (r.map dk)) := rfl
    have e2 : PyData.depth (dk k) ≤ 1 := by first | exact Nat.zero_le _ | exact Nat.le_refl _ | (show (0 : Nat) ≤ 1; decide) | (show (1 : Nat) ≤ 1; decide)
    rw [e]
    omega
theorem shp_dk (ws : List Nat) : SeqAt.shaped (.list (ws.map dk)) = true := by
  have h1 := can_dk ws
  have h2 := dep_dk ws
  unfold SeqAt.shaped
  rw [Bool.and_eq_true]
  refine ⟨h1, decide_eq_true ?_⟩
  have e : PyData.depth (.list (ws.map dk)) = PyData.depthAll (ws.map dk) + 1 := rfl
  omega
theorem eqv_dk : ∀ ws us : List Nat, PyData.eqvAll (ws.map dk) (us.map dk) = decide (ws = us)
  | [], [] => rfl
  | [], _ :: _ => rfl
  | _ :: _, [] => rfl
  | a :: r, b :: t => by
    show ((((a : Nat) : Int) == ((b : Nat) : Int)) && PyData.eqvAll (r.map dk) (t.map dk)) = _
    rw [eqv_dk r t]
    by_cases h : a = b
    · subst h
      simp
    · have h1 : (((a : Nat) : Int) == ((b : Nat) : Int)) = false := by simp; omega
      rw [h1]
      simp [h]
theorem can_dkl (ws : List Nat) : PyData.canLay0 (.list (ws.map dk)) = true := can_dk ws
end Toy
set_option Elab.async false
set_option linter.all false
set_option maxRecDepth 100000
set_option maxHeartbeats 4000000
namespace Vx
open PySem PySem.Spec PyProof.Rows L2
section
variable {X : Cx} {CX : CXT} {k : Nat} {C f : Addr} {sp : Sp} {E : XK}
def rLenOwn (C : Addr) (sp : Sp) (E : XK) : List V → Hp → VK → Prop := fun xs H Q => (∃ a dx fs, xs = [.ref a] ∧ H a = some (.ins C dx fs)) ∧ sp xs H (fun v H' => ∃ n : Nat, v = .int n ∧ n < 1000000 ∧ Q (.int n) H') E
theorem call_lenOwn (at_ : PySem.W.findIn X.K (.ref C) "__len__" = some (some (.ref f))) (fn : PySem.W.isFn X.K (.ref f) = true) (F : FnR X.prog X.w X.K X.mg X.base CX k f sp) (hr : Room (k + 1) X.A) (hx : Passes CX X E) : CallR X (.builtin "len") (rLenOwn C sp E) := by
  intro pins s σ H xs us Q I r h
  obtain ⟨⟨a, dx, fs, rfl, ha⟩, hsp⟩ := h
  obtain ⟨u, rfl, rx⟩ := vals1 r
  cases rx
  have sb : Sub X k X.A.in1 := (⟨hr, rfl⟩ : Sub X (k + 1) X.A).in1
  obtain ⟨mA, J, _⟩ := ins_get I.hok ha
  obtain ⟨od, J, _⟩ := J.look
  obtain ⟨m, hF⟩ := I.fr
  refine PySem.W.len_K hF I.ok.mod.kin J at_ fn (wpAny_mono (wpAny_call (run_in (us := [.ref a]) (vs := [V.ref a]) sb F hx I (.cons rfl .nil) hsp)) (fun v s' hv => ?_) fun _ _ z => z)
  obtain ⟨v', H', I', rv, n, rfl, hn, q⟩ := hv
  obtain ⟨t, rfl⟩ := rv
  exact ⟨⟨by omega, by omega⟩, .int n, H', I'.tok _, ⟨_, rfl⟩, q⟩
/-- o != y: not o == y, by the own ==; y of any kind that does not come first -/
def rNeAny (K : PySem.W.Frag) (C : Addr) (sp : Sp) (E : XK) : R2 := fun x y H Q => (∃ a dx fs, x = .ref a ∧ H a = some (.ins C dx fs)) ∧ (∃ t, TyX K H y t ∧ PySem.W.notFirst K C t = true) ∧ sp [x, y] H (fun v H' => ∃ r, v = .bl r ∧ Q (.bl (!r)) H') E
theorem op_neAny (hs : PySem.W.findIn X.K (.ref C) "__ne__" = some (some (.builtin "object.__ne__"))) (he : PySem.W.findIn X.K (.ref C) "__eq__" = some (some (.ref f))) (fn : PySem.W.isFn X.K (.ref f) = true)
    (ho : PySem.W.mroIn X.K C (.type "object") = some true) (F : FnR X.prog X.w X.K X.mg X.base CX k f sp) (hr : Room (k + 1) X.A) (hx : Passes CX X E) : OpR X (compareOp .NotEq) (rNeAny X.K C sp E) := by
  intro pins s σ H x y v u Q I rx ry hq
  obtain ⟨⟨a, dx, fs, rfl, ha⟩, ⟨t, ty, nf⟩, hsp⟩ := hq
  have ev : v = Value.ref a := rx
  have sb : Sub X k X.A.in1 := (⟨hr, rfl⟩ : Sub X (k + 1) X.A).in1
  have cl := wpAny_call (run_in (us := [v, u]) (vs := [V.ref a, y]) sb F hx I (.cons rx (.cons ry .nil)) hsp)
  subst ev
  obtain ⟨mA, J, _⟩ := ins_get I.hok ha
  obtain ⟨od, J, _⟩ := J.look
  obtain ⟨m, hF⟩ := I.fr
  obtain ⟨PP, KX, hP, _⟩ := L2.kit_of I ry ty
  show wpAny (model X.prog X.w) X.A (richCompare .NotEq (.ref a) u) (EP X pins σ Q) X.xe s
  refine ne_K (hu_of hr) hF I.ok.mod.kin J (KX.ty _ _ I.kIn hP) nf hs he fn ho (wpAny_mono cl (fun v s' hv => ?_) fun _ _ z => z)
  obtain ⟨v', H', I', rv, r, rfl, q⟩ := hv
  exact ⟨r, rv, .bl (!r), H', I', rfl, q⟩
end
end Vx
namespace Toy
open PySem PySem.Spec PyProof.Rows L2
theorem log_ok {i : Int} (h : i.natAbs < 2 ^ 64) : i.natAbs.log2 < 1920 := by
  by_cases z : i.natAbs = 0
  · rw [z]; decide
  · exact (Nat.log2_lt z).mpr (Nat.lt_trans h (Nat.pow_lt_pow_right (by decide) (by decide)))
theorem show_int {i : Int} (h : i.natAbs < 2 ^ 64) : Gd.okShow (.int i) = true := decide_eq_true (log_ok h)
theorem told_shp {x : Str} (h : PyData.strOk x = true) : SeqAt.shaped (.list [.str x, .bool true, .bool true, .bool false]) = true := by
  unfold SeqAt.shaped
  rw [Bool.and_eq_true]
  refine ⟨?_, decide_eq_true (by simp [PyData.depth, PyData.depthAll])⟩
  show (PyData.strOk x && (true && (true && (true && true)))) = true
  rw [h]
  rfl
theorem told_can {x : Str} (h : PyData.strOk x = true) : PyData.canLay0 (.list [.str x, .bool true, .bool true, .bool false]) = true := by
  show (PyData.strOk x && (true && (true && (true && true)))) = true
  rw [h]
  rfl
/-- what the law's turn has: the marks, the twin, the two lists of truths -/
structure LJ (MC p c mk l tw lt kp tr : Addr) (fl tl gl : List Bool) (H : Hp) : Prop where
  P : Pot H p c
  m : MarksAt MC H mk l fl
  t : MarksAt MC H tw lt gl
  k : H kp = some (.lst (gl.map V.bl))
  r : H tr = some (.lst (tl.map V.bl))
  lp : l ≠ p
  lc : l ≠ c
  ltp : lt ≠ p
  ltc : lt ≠ c
  kp_ : kp ≠ p
  kc_ : kp ≠ c
  rp : tr ≠ p
  rc : tr ≠ c
  l1 : l ≠ lt
  l2 : l ≠ kp
  l3 : l ≠ tr
  l4 : lt ≠ tr
  l5 : kp ≠ tr
variable {MC p c mk l tw lt kp tr : Addr} {fl tl gl : List Bool} {H H' : Hp} {y : V}
theorem Pot.insP {C dx x : Addr} {fs : List (Str × V)} (P : Pot H p c) (h : H x = some (.ins C dx fs)) : x ≠ p ∧ x ≠ c := by
  obtain ⟨cs, at_, y, g1, g2, _⟩ := P
  exact ⟨ne_of h g1 (by intro z; cases z), ne_of h g2 (by intro z; cases z)⟩
theorem MarksAt.kept (h : MarksAt MC H mk l fl) (P : Pot H p c) (n1 : l ≠ p) (n2 : l ≠ c) (k : Kept p c H H') : MarksAt MC H' mk l fl := by
  obtain ⟨⟨dx, e⟩, f⟩ := h
  exact ⟨⟨dx, k _ _ (P.insP e).1 (P.insP e).2 e⟩, k _ _ n1 n2 f⟩
theorem LJ.kept (J : LJ MC p c mk l tw lt kp tr fl tl gl H) (P' : Pot H' p c) (k : Kept p c H H') : LJ MC p c mk l tw lt kp tr fl tl gl H' :=
  { J with P := P', m := J.m.kept J.P J.lp J.lc k, t := J.t.kept J.P J.ltp J.ltc k, k := k _ _ J.kp_ J.kc_ J.k, r := k _ _ J.rp J.rc J.r }
theorem LJ.same (J : LJ MC p c mk l tw lt kp tr fl tl gl H) (s : Same H H') : LJ MC p c mk l tw lt kp tr fl tl gl H' := J.kept (J.P.same s) (Kept.of_same s)
theorem Pot.put' {a : Addr} {o : HO} (P : Pot H p c) (n1 : a ≠ p) (n2 : a ≠ c) : Pot (upd H a o) p c := by
  obtain ⟨cs, at_, x, h1, h2, r⟩ := P
  exact ⟨cs, at_, x, by rw [upd_ne n1.symm]; exact h1, by rw [upd_ne n2.symm]; exact h2, r⟩
theorem MarksAt.off {a : Addr} {ys zs : List V} (h : MarksAt MC H mk l fl) (e : H a = some (.lst ys)) (n : l ≠ a) : MarksAt MC (upd H a (.lst zs)) mk l fl := by
  obtain ⟨⟨dx, e1⟩, f⟩ := h
  exact ⟨⟨dx, by rw [upd_ne (ne_of e1 e (by intro z; cases z))]; exact e1⟩, by rw [upd_ne n]; exact f⟩
theorem LJ.set (J : LJ MC p c mk l tw lt kp tr fl tl gl H) (fl' : List Bool) : LJ MC p c mk l tw lt kp tr fl' tl gl (upd H l (.lst (fl'.map V.bl))) :=
  { J with P := J.P.put' J.lp J.lc, m := J.m.put, t := J.t.off J.m.2 J.l1.symm, k := by rw [upd_ne J.l2.symm]; exact J.k, r := by rw [upd_ne J.l3.symm]; exact J.r }
theorem LJ.truth (J : LJ MC p c mk l tw lt kp tr fl tl gl H) (tl' : List Bool) : LJ MC p c mk l tw lt kp tr fl tl' gl (upd H tr (.lst (tl'.map V.bl))) :=
  { J with P := J.P.put' J.rp J.rc, m := J.m.off J.r J.l3, t := J.t.off J.r J.l4, k := by rw [upd_ne J.l5]; exact J.k, r := upd_same }
theorem Newly.same {H0 H1 H2 H3 : Hp} (n : Newly H0 H1 H2) (s : Same H2 H3) : Newly H0 H1 H3 := fun b o h e => s _ _ (n b o h e)
theorem Newly.upd {H0 H1 H2 : Hp} {a : Addr} {u o : HO} (n : Newly H0 H1 H2) (e : H0 a = some u) : Newly H0 H1 (upd H2 a o) := fun b v h e' => by
  rw [upd_ne (ne_of_none e h).symm]
  exact n b v h e'
theorem Newly.kept {H0 H1 H2 H3 : Hp} (n : Newly H0 H1 H2) (P : Pot H0 p c) (k : Kept p c H2 H3) : Newly H0 H1 H3 := fun b o h e => by
  have := off P h
  exact k _ _ this.1 this.2 (n b o h e)
theorem filter_pgs (fl : List Bool) : ∀ n, n ≤ fl.length → ((List.range n).filter fun i => fl[i]?.getD false) = pgs 0 (fl.take n)
  | 0, _ => rfl
  | n + 1, h => by
    have ih := filter_pgs fl n (by omega)
    have hn : n < fl.length := by omega
    rw [List.range_succ, List.filter_append, ih, List.take_add_one, List.getElem?_eq_getElem hn, Option.toList_some, pgs_app, List.length_take, Nat.min_eq_left (Nat.le_of_lt hn), Nat.zero_add]
    congr 1
    rw [List.filter_cons, List.getElem?_eq_getElem hn]
    show (if fl[n] = true then [n] else []) = (if fl[n] = true then [n] else []) ++ []
    rw [List.append_nil]
/-- what is known of the value that is asked as a page -/
def XA (K : PySem.W.Frag) (p c l tr : Addr) (H : Hp) (x : V) (o : Option Int) (d : PyData) : Prop :=
  Gd.okShow d = true ∧ PyData.strOk d.shown = true ∧ ∃ H0 H1, (∀ H2, Newly H0 H1 H2 → NV K H2 x o ∧ Dp K H2 x d) ∧ Newly H0 H1 H ∧ Pot H0 p c ∧ (∃ u, H0 l = some u) ∧ ∃ u, H0 tr = some u
variable {K : PySem.W.Frag} {x : V} {o : Option Int} {d : PyData}
theorem XA.same (h : XA K p c l tr H x o d) (s : Same H H') : XA K p c l tr H' x o d := by
  obtain ⟨a, b, H0, H1, f, n, P, u, v⟩ := h
  exact ⟨a, b, H0, H1, f, n.same s, P, u, v⟩
theorem XA.kept (h : XA K p c l tr H x o d) (k : Kept p c H H') : XA K p c l tr H' x o d := by
  obtain ⟨a, b, H0, H1, f, n, P, u, v⟩ := h
  exact ⟨a, b, H0, H1, f, n.kept P k, P, u, v⟩
theorem XA.updl {w : HO} (h : XA K p c l tr H x o d) : XA K p c l tr (upd H l w) x o d := by
  obtain ⟨a, b, H0, H1, f, n, P, ⟨u, hu⟩, v⟩ := h
  exact ⟨a, b, H0, H1, f, n.upd hu, P, ⟨u, hu⟩, v⟩
theorem XA.updr {w : HO} (h : XA K p c l tr H x o d) : XA K p c l tr (upd H tr w) x o d := by
  obtain ⟨a, b, H0, H1, f, n, P, u, ⟨v, hv⟩⟩ := h
  exact ⟨a, b, H0, H1, f, n.upd hv, P, u, ⟨v, hv⟩⟩
theorem XA.nv (h : XA K p c l tr H x o d) : NV K H x o := by
  obtain ⟨a, b, H0, H1, f, n, _⟩ := h
  exact (f H n).1
theorem XA.dp (h : XA K p c l tr H x o d) : Dp K H x d := by
  obtain ⟨a, b, H0, H1, f, n, _⟩ := h
  exact (f H n).2
/-- what is known of the value that is put -/
def YV (K : PySem.W.Frag) (y : V) : Prop := (∃ b, y = .bl b) ∨ ∃ t, (∀ H, TyX K H y t) ∧ PySem.W.kitOne K t (.type "bool") = some false ∧ ∀ b, y ≠ .bl b
theorem YV.or (h : YV K y) (H : Hp) : (∃ b, y = .bl b) ∨ ∃ t, TyX K H y t ∧ PySem.W.kitOne K t (.type "bool") = some false := by
  rcases h with h | ⟨t, a, b, _⟩
  · exact .inl h
  · exact .inr ⟨t, a H, b⟩
def told4D (z : Str) : List PyData := [.str z, .bool true, .bool true, .bool false]
/-- what is due -/
def Due (n : Nat) (o : Option Int) (y : V) (d : PyData) (fl : List Bool) (L : List V) (ld : List PyData) (fl' : List Bool) : Prop :=
  (btw o 0 ((n : Nat) - 1 : Int) = false ∧ L = told4 d.shown ∧ ld = told4D d.shown ∧ fl' = fl) ∨
  (∃ i b, o = some ((i : Nat) : Int) ∧ i < n ∧ y = .bl b ∧ L = [.str "done"] ∧ ld = [.str "done"] ∧ fl' = fl.set i b) ∨
  (∃ i, o = some ((i : Nat) : Int) ∧ i < n ∧ (∀ b, y ≠ .bl b) ∧ L = told4 "None" ∧ ld = told4D "None" ∧ fl' = fl)
theorem told4_dp {H : Hp} {z : Str} : DpAll K H (told4 z) (told4D z) := .cons (.str _) (.cons (.bl _) (.cons (.bl _) (.cons (.bl _) .nil)))
theorem Due.facts {n : Nat} {y : V} {fl' : List Bool} {L : List V} {ld : List PyData} (h : Due n o y d fl L ld fl') (st : PyData.strOk d.shown = true) : (∀ H, DpAll K H L ld) ∧ PyData.canLay0 (.list ld) = true ∧ SeqAt.shaped (.list ld) = true := by
  rcases h with ⟨_, rfl, rfl, _⟩ | ⟨i, b, _, _, _, rfl, rfl, _⟩ | ⟨i, _, _, _, rfl, rfl, _⟩
  · exact ⟨fun H => told4_dp, told_can st, told_shp st⟩
  · exact ⟨fun H => .cons (.str _) .nil, by decide +kernel, by decide +kernel⟩
  · exact ⟨fun H => told4_dp, by decide +kernel, by decide +kernel⟩
theorem Due.len {n : Nat} {y : V} {fl' : List Bool} {L : List V} {ld : List PyData} (h : Due n o y d fl L ld fl') : fl'.length = fl.length := by
  rcases h with ⟨_, _, _, rfl⟩ | ⟨i, b, _, _, _, _, _, rfl⟩ | ⟨i, _, _, _, _, _, rfl⟩
  · rfl
  · exact List.length_set
  · rfl
theorem told4_ne {z : Str} : PyData.eqv (.list (told4D z)) (.list [.str "done"]) = false := by
  show (PyData.eqv (.str z) (.str "done") && false) = false
  exact Bool.and_false _
theorem comp5 {K : PySem.W.Frag} {H : Hp} {R : VK} {r : Addr} {fl : List Bool} {n : Nat} {v0 v1 v3 v4 v6 v7 v8 v9 v10 v11 v12 : Option V} (hr : H r = some (.lst (fl.map V.bl))) (hfl : fl.length = n) (hn : n ≤ 64) (q : ∀ H' D, Same H H' → H D = none → H' D = some (.lst ((pgs 0 fl).map vi)) → R (.ref D) H') :
    tLc (iRng1 (tCons (tVar 2) tNil)) (gName 12) (tB (tOp (rIxL K) (tVar 5) (tVar 12))) (tVar 12) (List.map (fun x => x.snd) [(Str.ofString "page", 12)]) [v0, v1, some (.int (n : Nat)), v3, v4, some (.ref r), v6, v7, v8, v9, v10, v11, v12] H R := by
  refine ⟨_, rfl, _, rfl, by omega, by omega, fun D nD => ?_⟩
  refine lc_range (lo := 0) (n := ((n : Nat) : Int).toNat) (fun i H' => Same H H' ∧ H' D = some (.lst ((pgs 0 (fl.take i)).map vi))) ⟨same_upd nD, upd_same⟩ ?_ ?_
  · rintro i H' hi ⟨s1, e1⟩
    rw [Int.toNat_natCast] at hi
    have hi' : i < fl.length := by omega
    have tk : pgs 0 (fl.take (i + 1)) = pgs 0 (fl.take i) ++ (if fl[i] = true then [i] else []) := by
      rw [List.take_add_one, List.getElem?_eq_getElem hi', Option.toList_some, pgs_app, List.length_take, Nat.min_eq_left (Nat.le_of_lt hi'), Nat.zero_add]
      show _ ++ ((if fl[i] = true then [i] else []) ++ []) = _
      rw [List.append_nil]
    have hg : (fl.map V.bl)[i]? = some (V.bl fl[i]) := by rw [List.getElem?_map, List.getElem?_eq_getElem hi']; rfl
    refine ⟨rfl, _, rfl, _, rfl, r, _, _, _, rfl, rfl, SqL.of (s1 _ _ hr), (by rw [Int.zero_add]; exact atI_nat hg), fl[i], rfl, ?_⟩
    rw [tk]
    cases fl[i] with
    | true =>
      refine iteT ⟨_, rfl, _, e1, ?_, fun z o ez => ?_, ?_⟩
      · rw [List.length_map]
        have := pgs_len (fl.take i) 0
        rw [List.length_take] at this
        exact Nat.lt_of_le_of_lt (show _ ≤ 64 by omega) (by decide)
      · rw [upd_ne (ne_of_none ez nD)]
        exact s1 _ _ ez
      · rw [upd_same, List.map_append]
        show some (HO.lst (_ ++ [V.int (0 + (i : Int))])) = some (HO.lst (_ ++ [V.int (i : Int)]))
        rw [Int.zero_add]
    | false =>
      refine iteF ⟨s1, ?_⟩
      rw [e1]
      simp
  · rintro H' ⟨s1, e1⟩
    rw [Int.toNat_natCast, List.take_of_length_le (by omega)] at e1
    exact q H' D s1 nD e1
theorem comp6 {K : PySem.W.Frag} {H : Hp} {R : VK} {r : Addr} {fl : List Bool} {n : Nat} {v0 v1 v3 v4 v5 v7 v8 v9 v10 v11 v12 : Option V} (hr : H r = some (.lst (fl.map V.bl))) (hfl : fl.length = n) (hn : n ≤ 64) (q : ∀ H' D, Same H H' → H D = none → H' D = some (.lst ((pgs 0 fl).map vi)) → R (.ref D) H') :
    tLc (iRng1 (tCons (tVar 2) tNil)) (gName 12) (tB (tOp (rIxL K) (tVar 6) (tVar 12))) (tVar 12) (List.map (fun x => x.snd) [(Str.ofString "page", 12)]) [v0, v1, some (.int (n : Nat)), v3, v4, v5, some (.ref r), v7, v8, v9, v10, v11, v12] H R := by
  refine ⟨_, rfl, _, rfl, by omega, by omega, fun D nD => ?_⟩
  refine lc_range (lo := 0) (n := ((n : Nat) : Int).toNat) (fun i H' => Same H H' ∧ H' D = some (.lst ((pgs 0 (fl.take i)).map vi))) ⟨same_upd nD, upd_same⟩ ?_ ?_
  · rintro i H' hi ⟨s1, e1⟩
    rw [Int.toNat_natCast] at hi
    have hi' : i < fl.length := by omega
    have tk : pgs 0 (fl.take (i + 1)) = pgs 0 (fl.take i) ++ (if fl[i] = true then [i] else []) := by
      rw [List.take_add_one, List.getElem?_eq_getElem hi', Option.toList_some, pgs_app, List.length_take, Nat.min_eq_left (Nat.le_of_lt hi'), Nat.zero_add]
      show _ ++ ((if fl[i] = true then [i] else []) ++ []) = _
      rw [List.append_nil]
    have hg : (fl.map V.bl)[i]? = some (V.bl fl[i]) := by rw [List.getElem?_map, List.getElem?_eq_getElem hi']; rfl
    refine ⟨rfl, _, rfl, _, rfl, r, _, _, _, rfl, rfl, SqL.of (s1 _ _ hr), (by rw [Int.zero_add]; exact atI_nat hg), fl[i], rfl, ?_⟩
    rw [tk]
    cases fl[i] with
    | true =>
      refine iteT ⟨_, rfl, _, e1, ?_, fun z o ez => ?_, ?_⟩
      · rw [List.length_map]
        have := pgs_len (fl.take i) 0
        rw [List.length_take] at this
        exact Nat.lt_of_le_of_lt (show _ ≤ 64 by omega) (by decide)
      · rw [upd_ne (ne_of_none ez nD)]
        exact s1 _ _ ez
      · rw [upd_same, List.map_append]
        show some (HO.lst (_ ++ [V.int (0 + (i : Int))])) = some (HO.lst (_ ++ [V.int (i : Int)]))
        rw [Int.zero_add]
    | false =>
      refine iteF ⟨s1, ?_⟩
      rw [e1]
      simp
  · rintro H' ⟨s1, e1⟩
    rw [Int.toNat_natCast, List.take_of_length_le (by omega)] at e1
    exact q H' D s1 nD e1
end Toy
set_option Elab.async false
set_option linter.all false
set_option maxRecDepth 100000
set_option maxHeartbeats 4000000
namespace Vx
open PySem PySem.Spec PyProof.Rows L2
theorem passO {X : Cx} (σ : L2.St) : PassesAt (L2.CX X.prog X.w) X σ ((fun _ => E0 : L2.St → XK) σ) := fun pins H s e s' I c => passL pins σ H s e s' I c
theorem ix_listK {X : Cx} {K : PySem.W.Frag} (hK : X.K = K) : IxR X (rIxL K) := hK ▸ ix_list
end Vx
namespace Toy
open PySem PySem.Spec PyProof.Rows L2
section
variable {P : Program} {w : World} {K : PySem.W.Frag} {mg : Str → Option Value} {base : Heap} {MC MD W : Addr}
def spLaw (K : PySem.W.Frag) : Sp := fun vs H Q _ => ∃ (a : Addr) (ns : List Int), vs = [.ref a] ∧ SqL K H a (ns.map V.int) ∧ ns.length ≤ 63 ∧ ∀ H', Q (.bl true) H'
structure Calls (P : Program) (w : World) (K : PySem.W.Frag) (mg : Str → Option Value) (base : Heap) (MC MD W fP fD fO fI fPu fIt fAl fMI fT fPg fLn fEq : Addr) (fdP fdD fdO fdI fdT fdPg : FuncData) : Prop where
  pot : Cal P w K mg base CX0 1 fP fdP "_law_pot" ["script"] (spPot K)
  draw : Cal P w K mg base CX0 1 fD fdD "_law_draw" ["pot", "many"] spDraw
  odd : Cal P w K mg base CX0 2 fO fdO "_law_odd" ["pot"] (spOdd K)
  isp : Cal P w K mg base CX0 1 fI fdI "_law_is_page" ["at", "many"] (spPageN K)
  put : Gd.FnG P w K mg base CX0 6 fPu (spPut K MC)
  kPut : PySem.W.keepIn K (.ref fPu) = true
  gPut : mg "_law_put" = some (.ref fPu)
  item : Gd.FnG P w K mg base CX0 6 fIt (spItem K MC)
  kItem : PySem.W.keepIn K (.ref fIt) = true
  gItem : mg "_law_item" = some (.ref fIt)
  allM : Gd.FnG P w K mg base CX0 7 fAl spAll
  kAll : PySem.W.keepIn K (.ref fAl) = true
  gAll : mg "_law_all_made" = some (.ref fAl)
  mkM : Mk K MC fMI
  gM : mg "Marks" = some (.ref MC)
  FI : FnR P w K mg base (L2.CX P w) 3 fMI (spMkI K MC MD W)
  cl : Cls K MC
  mT : Meth K MC "twin" fT
  FT : FnOk P w K mg base CX0 3 fT fdT ["self"] (spTwin MC)
  bT : L2.Binds K fdT ["self"] []
  mG : Meth K MC "pages" fPg
  FG : FnOk P w K mg base CX0 1 fPg fdPg ["self"] (spMkPages MC)
  bG : L2.Binds K fdPg ["self"] []
  lnA : PySem.W.findIn K (.ref MC) "__len__" = some (some (.ref fLn))
  lnF : PySem.W.isFn K (.ref fLn) = true
  FL : FnR P w K mg base CX0 1 fLn (spMkLen MC)
  eqA : PySem.W.findIn K (.ref MC) "__eq__" = some (some (.ref fEq))
  eqF : PySem.W.isFn K (.ref fEq) = true
  FE : FnR P w K mg base CX0 1 fEq (spMkEq K MC)
  ne : PySem.W.findIn K (.ref MC) "__ne__" = some (some (.builtin "object.__ne__"))
  nfM : PySem.W.notFirst K MC (.ref MC) = true
  nfL : PySem.W.notFirst K MC (.type "list") = true
  C : MkC K MC
  kL : PySem.W.kitOne K (.type "list") (.ref MC) = some false
  kID : PySem.W.kitOne K (.type "int") (.ref MD) = some false
  isi : mg "isinstance" = none
  bool : mg "bool" = none
  rep : mg "repr" = none
  range : mg "range" = none
  list : mg "list" = none
  len : mg "len" = none
abbrev nL : List Str := ["script", "pot", "many", "marks", "twin", "kept", "truths", "k", "at", "value", "due", "pages", "page"]
theorem ok_law {f fP fD fO fI fPu fIt fAl fMI fT fPg fLn fEq : Addr} {fd fdP fdD fdO fdI fdT fdPg : FuncData} (F : Fun K "law" "law" s_law f fd) (b : L2.Binds K fd ["script"] []) (Z : Calls P w K mg base MC MD W fP fD fO fI fPu fIt fAl fMI fT fPg fLn fEq fdP fdD fdO fdI fdT fdPg) : Gd.FnG P w K mg base CX0 8 f (spLaw K) := by
  refine Gd.fnG_ok F sc_law b (fun vs H Q E h => ?_) (fun cdv A outer s H vs Q E g hr h => ?_)
  · obtain ⟨a, ns, rfl, _⟩ := h
    rfl
  · obtain ⟨a, ns, rfl, hS, hlen, q⟩ := h
    have hr1 : Room 1 _ := hr.mono (by decide)
    have hr2 : Room 2 _ := hr.mono (by decide)
    have hr3 : Room 3 _ := hr.mono (by decide)
    have hr4 : Room 4 _ := hr.mono (by decide)
    have hr6 : Room 6 _ := hr.mono (by decide)
    have nd := sc_law.nd
    refine ⟨_, pss_cons (ps_set (i := 1) nd rfl (Or.inl rfl) (pe_call Z.pot.G hr1 (by rfl) Z.pot.g Z.pot.k Z.pot.b .nil pass0 (pa_cons (pv 0) pa_nil)))
      (pss_cons (ps_set (i := 2) nd rfl (Or.inl rfl) (pe_ix ix_list (pe_lst (pa_cons (pe_op op_add pe_int (pe_call Z.draw.G hr1 (by rfl) Z.draw.g Z.draw.k Z.draw.b .nil pass0 (pa_cons (pv 1) (pa_cons pe_int pa_nil)))) (pa_cons pe_int (pa_cons pe_int (pa_cons (pe_op op_add pe_int (pe_call Z.draw.G hr1 (by rfl) Z.draw.g Z.draw.k Z.draw.b .nil pass0 (pa_cons (pv 1) (pa_cons pe_int pa_nil)))) pa_nil)))))
        (pe_call Z.draw.G hr1 (by rfl) Z.draw.g Z.draw.k Z.draw.b .nil pass0 (pa_cons (pv 1) (pa_cons pe_int pa_nil))) (fun _ _ => rfl)))
      (pss_cons (ps_set (i := 3) nd rfl (Or.inr rfl) (Vx.pe_makeE (E := fun _ => E0) Z.mkM Z.FI hr4 (by rfl) Z.gM Vx.passO (pa_cons (pv 2) pa_nil)))
      (pss_cons (ps_set (i := 4) nd rfl (Or.inl rfl) (pe_meth0 (pv 3) Z.cl Z.mT Z.FT hr3 Z.bT .nil pass0))
      (pss_cons (ps_set (i := 5) nd rfl (Or.inr rfl) (pe_op op_rep (pe_lst (pa_cons pe_bl pa_nil)) (pv 2)))
      (pss_cons (ps_set (i := 6) nd rfl (Or.inr rfl) (pe_op op_rep (pe_lst (pa_cons pe_bl pa_nil)) (pv 2)))
      (pss_cons (ps_for PassesOwn.never rfl (pi_range1 (by rfl) Z.range (pa_cons (pe_call Z.draw.G hr1 (by rfl) Z.draw.g Z.draw.k Z.draw.b .nil pass0 (pa_cons (pv 1) (pa_cons pe_int pa_nil))) pa_nil)) (pg_name (i := 7) nd rfl (Or.inl rfl))
        (C8.pss_cut (ps_set (i := 8) nd rfl (Or.inl rfl) (pe_ifExp (pt_cmpR op_gt (pe_call Z.draw.G hr1 (by rfl) Z.draw.g Z.draw.k Z.draw.b .nil pass0 (pa_cons (pv 1) (pa_cons pe_int pa_nil))) pe_int (nomark _))
            (pe_op op_sub (pe_call Z.draw.G hr1 (by rfl) Z.draw.g Z.draw.k Z.draw.b .nil pass0 (pa_cons (pv 1) (pa_cons (pe_op op_add (pv 2) pe_int) pa_nil))) pe_int)
            (pe_call Z.odd.G hr2 (by rfl) Z.odd.g Z.odd.k Z.odd.b .nil pass0 (pa_cons (pv 1) pa_nil))))
        (C8.pss_cut (ps_set (i := 9) nd rfl (Or.inl rfl) (pe_ix ix_list (pe_lst (pa_cons pe_bl (pa_cons pe_bl (pa_cons pe_bl (pa_cons pe_int (pa_cons pe_int (pa_cons pe_non (pa_cons pe_str pa_nil))))))))
            (pe_call Z.draw.G hr1 (by rfl) Z.draw.g Z.draw.k Z.draw.b .nil pass0 (pa_cons (pv 1) (pa_cons pe_int pa_nil))) (fun _ _ => rfl)))
        (pss_cons (ps_set (i := 10) nd rfl (Or.inl rfl) (pe_lst (pa_cons pe_str pa_nil)))
        (C8.pss_cut (ps_if (pt_not (pt_val (pe_call Z.isp.G hr1 (by rfl) Z.isp.g Z.isp.k Z.isp.b .nil pass0 (pa_cons (pv 8) (pa_cons (pv 2) pa_nil)))))
            (pss_one (ps_set (i := 10) nd rfl (Or.inl rfl) (pe_lst (pa_cons (pe_callB (Gd.call_reprK (K := K) rfl g hr.units) (by rfl) Z.rep (by decide +kernel) (pa_cons (pv 8) pa_nil)) (pa_cons pe_bl (pa_cons pe_bl (pa_cons pe_bl pa_nil)))))))
            (pss_one (ps_if (pt_not (pt_val (pe_callB call_isi (by rfl) Z.isi (by decide +kernel) (pa_cons (pv 9) (pa_cons (pe_bltn (v := .ty "bool") (by rfl) Z.bool (by decide +kernel) rfl) pa_nil)))))
              (pss_one (ps_set (i := 10) nd rfl (Or.inl rfl) (pe_lst (pa_cons pe_str (pa_cons pe_bl (pa_cons pe_bl (pa_cons pe_bl pa_nil))))))) pss_nil)))
        (C8.pss_cut (ps_if (pt_cmpR (op_neD hr.units) (Gd.pe_callG Z.put g hr6 (by rfl) Z.gPut Z.kPut pass0 (pa_cons (pv 3) (pa_cons (pv 8) (pa_cons (pv 9) pa_nil)))) (pv 10) (nomark _)) (pss_one ps_never) pss_nil)
        (C8.pss_cut (ps_if (pt_cmpR (op_eqD hr.units) (pv 10) (pe_lst (pa_cons pe_str pa_nil)) (nomark _)) (pss_one (ps_asg (pv 9) (pg_sub (pv 6) (pv 8) set_list))) pss_nil)
        (C8.pss_cut (ps_if (pt_cmpR (op_neD hr.units) (Gd.pe_callG Z.item g hr6 (by rfl) Z.gItem Z.kItem pass0 (pa_cons (pv 3) (pa_cons (pv 8) pa_nil)))
            (pe_ifExp (pt_val (pe_call Z.isp.G hr1 (by rfl) Z.isp.g Z.isp.k Z.isp.b .nil pass0 (pa_cons (pv 8) (pa_cons (pv 2) pa_nil)))) (pe_ix ix_list (pv 6) (pv 8) (fun _ _ => rfl)) (pe_callB (Gd.call_reprK (K := K) rfl g hr.units) (by rfl) Z.rep (by decide +kernel) (pa_cons (pv 8) pa_nil))) (nomark _)) (pss_one ps_never) pss_nil)
        (pss_cons (ps_set (i := 11) nd rfl (Or.inl rfl) (pe_meth0 (pv 3) Z.cl Z.mG Z.FG hr1 Z.bG .nil pass0))
        (pss_cons (ps_if (PW.pt (pw_or (pt_cmpR (op_neD hr.units) (pv 11) (pe_lc (own := [("page", 12)]) (g := gName 12) rfl nd (pi_range1 (by rfl) Z.range (pa_cons (pv 2) pa_nil)) (blkOk_by (own := [("page", 12)]) (N := nL) (sc := defScope s_law) (by decide +kernel)) (fun _ _ _ _ _ => pg_name (i := 12) nd rfl (Or.inl rfl))
              (fun _ _ _ _ _ => pts_one (pt_val (pe_ix (Vx.ix_listK (K := K) rfl) (pv 6) (pv 12) (fun _ _ => rfl)))) (fun _ _ _ _ _ => pv 12)) (nomark _))
            (pw_or1 (pt_cmpR op_ne (pe_callB (Vx.call_lenOwn Z.lnA Z.lnF Z.FL hr2 pass0) (by rfl) Z.len PySem.boot_len (pa_cons (pv 3) pa_nil)) (pv 2) (nomark _))))) (pss_one ps_never) pss_nil)
        (pss_cons (ps_expr (pe_bm PySem.F.plainAttrs_list PySem.F.slot_list_append PySem.F.type_list_append mt_append (pv 11) (pa_cons pe_int pa_nil)))
        (pss_cons (ps_if (PW.pt (pw_or (pt_cmpR op_ne (pe_cmpR (Vx.op_cmpAny (op := .Eq) (fun _ _ => rfl) Z.eqA Z.eqF Z.FE hr1 pass0) (pv 3) (pv 4) (nomark _)) (pe_cmpR (op_eqD hr.units) (pv 6) (pv 5) (nomark _)) (nomark _))
            (pw_or1 (pt_cmpR (op_neD hr.units) (pe_meth0 (pv 4) Z.cl Z.mG Z.FG hr1 Z.bG .nil pass0) (pe_lc (own := [("page", 12)]) (g := gName 12) rfl nd (pi_range1 (by rfl) Z.range (pa_cons (pv 2) pa_nil)) (blkOk_by (own := [("page", 12)]) (N := nL) (sc := defScope s_law) (by decide +kernel)) (fun _ _ _ _ _ => pg_name (i := 12) nd rfl (Or.inl rfl))
              (fun _ _ _ _ _ => pts_one (pt_val (pe_ix (Vx.ix_listK (K := K) rfl) (pv 5) (pv 12) (fun _ _ => rfl)))) (fun _ _ _ _ _ => pv 12)) (nomark _))))) (pss_one ps_never) pss_nil)
        (pss_one (ps_if (pt_cmpR op_eq (pv 7) pe_int (nomark _)) (pss_cons (ps_set (i := 4) nd rfl (Or.inl rfl) (pe_meth0 (pv 3) Z.cl Z.mT Z.FT hr3 Z.bT .nil pass0)) (pss_one (ps_set (i := 5) nd rfl (Or.inr rfl) (pe_callTy call_list_of (by rfl) Z.list (by decide +kernel) (pa_cons (pv 6) pa_nil))))) pss_nil))))))))))))))
      (pss_cons (ps_if (pt_not (pt_val (Gd.pe_callG Z.allM g hr (by rfl) Z.gAll Z.kAll pass0 (pa_cons (pv 1) pa_nil)))) (pss_one ps_never) pss_nil)
      (pss_one (ps_ret (pe_and (pe_cmpR (op_eqD hr.units) (pe_lc (own := [("at", 8)]) (g := gName 8) (tt := tYes) rfl nd (pi_range1 (by rfl) Z.range (pa_cons (pv 2) pa_nil)) (blkOk_by (own := [("at", 8)]) (N := nL) (sc := defScope s_law) (by decide +kernel)) (fun _ _ _ _ _ => pg_name (i := 8) nd rfl (Or.inl rfl))
            (fun _ _ _ _ _ => pts_nil) (fun _ _ _ _ _ => Gd.pe_callG Z.item g hr6 (by rfl) Z.gItem Z.kItem pass0 (pa_cons (pv 3) (pa_cons (pv 8) pa_nil)))) (pv 6) (nomark _))
          (pe_and (pe_cmpR (Vx.op_neAny Z.ne Z.eqA Z.eqF Z.C.cM Z.FE hr2 pass0) (pv 3) (pv 6) (nomark _))
          (pe_one (pe_cmpR (Vx.op_cmpAny (op := .Eq) (fun _ _ => rfl) Z.eqA Z.eqF Z.FE hr1 pass0) (pe_meth0 (pv 3) Z.cl Z.mT Z.FT hr3 Z.bT .nil pass0) (pv 3) (nomark _)))))))))))))), ?_⟩
    refine ⟨_, rfl, a, ns, rfl, hS, hlen, fun H1 p c s1 p0 c0 P1 => ?_⟩
    refine ⟨_, rfl, p, c, 64, rfl, P1, by decide, by decide, fun H2 d P2 K2 d0 d1 => ⟨_, _, rfl, rfl, ?_⟩⟩
    refine ⟨_, rfl, p, c, 9, rfl, P2, by decide, by decide, fun H3 e P3 K3 e0 e1 => ⟨_, _, rfl, rfl, ?_⟩⟩
    refine ⟨by show 4 ≤ sizeLine; decide, fun lm nlm => ?_⟩
    have om := off P3 nlm
    refine ⟨_, rfl, p, c, 4, rfl, P3.same (same_upd nlm), by decide, by decide, fun H4 u P4 K4 u0 u1 => ?_⟩
    have em := K4 _ _ om.1 om.2 upd_same
    obtain ⟨ku, rfl⟩ := Int.eq_ofNat_of_zero_le u0
    obtain ⟨n, hn1, hn2, hv⟩ : ∃ n : Nat, 1 ≤ n ∧ n ≤ 64 ∧ [V.int (1 + d), V.int 64, V.int 1, V.int (1 + e)][ku]? = some (.int (n : Int)) := by
      obtain ⟨kd, rfl⟩ := Int.eq_ofNat_of_zero_le d0
      obtain ⟨ke, rfl⟩ := Int.eq_ofNat_of_zero_le e0
      match ku, u1 with
      | 0, _ => exact ⟨1 + kd, by omega, by omega, rfl⟩
      | 1, _ => exact ⟨64, by decide, by decide, rfl⟩
      | 2, _ => exact ⟨1, by decide, by decide, rfl⟩
      | 3, _ => exact ⟨1 + ke, by omega, by omega, rfl⟩
      | k + 4, h => omega
    refine ⟨lm, _, _, _, rfl, rfl, SqL.of em, atI_nat hv, ?_⟩
    clear hv em u1 e0 e1 d0 d1
    refine ⟨_, rfl, fun mk dm nmk ndm nedm => ?_⟩
    have s2 : Same H4 (upd (upd H4 dm (.own mk)) mk (.ins MC dm [])) := fun c o y => by
      rw [upd_ne (ne_of_none y nmk), upd_ne (ne_of_none y ndm)]
      exact y
    refine ⟨H4, mk, dm, _, some (n : Int), rfl, s2, nmk, upd_same, ⟨_, .base (.int _), Z.kID⟩, .int _, fun n' ho n1 n2 H5 l s5 nl' e5 el => ⟨rfl, ?_⟩, fun hb => absurd hb (by rw [show btw (some (n : Int)) 1 64 = true from decide_eq_true ⟨by omega, by omega⟩]; decide)⟩
    obtain rfl : n' = n := by
      have := Option.some.inj ho
      omega
    have P5 := P4.same s5
    have ol := off P4 nl'
    have M5 : MarksAt MC H5 mk l (List.replicate n' false) := ⟨⟨dm, e5⟩, el⟩
    refine ⟨_, rfl, mk, dm, _, rfl, e5, rfl, mk, l, _, rfl, M5, fun H6 tw lt s6 ntw nlt T6 => ?_⟩
    refine ⟨by show 1 ≤ sizeLine; decide, fun b1 nb1 => ⟨_, rfl, b1, _, _, rfl, rfl, upd_same, by omega, by omega, ?_, fun kp nkp => ?_⟩⟩
    · exact Nat.le_trans (show 1 * ((n' : Int)).toNat ≤ 64 by omega) (by decide)
    rw [Int.toNat_natCast, flat_rep]
    refine ⟨by show 1 ≤ sizeLine; decide, fun b2 nb2 => ⟨_, rfl, b2, _, _, rfl, rfl, upd_same, by omega, by omega, ?_, fun tr ntr => ?_⟩⟩
    · exact Nat.le_trans (show 1 * ((n' : Int)).toNat ≤ 64 by omega) (by decide)
    rw [Int.toNat_natCast, flat_rep]
    have sA := same_upd (o := .lst [V.bl false]) nb1
    have sB := same_upd (o := .lst ((List.replicate n' false).map V.bl)) nkp
    have sC := same_upd (o := .lst [V.bl false]) nb2
    have sD := same_upd (o := .lst ((List.replicate n' false).map V.bl)) ntr
    have ekp : (upd (upd H6 b1 (.lst [V.bl false])) kp (.lst ((List.replicate n' false).map V.bl))) kp = some (.lst ((List.replicate n' false).map V.bl)) := upd_same
    have etr : (upd (upd (upd (upd H6 b1 (.lst [V.bl false])) kp (.lst ((List.replicate n' false).map V.bl))) b2 (.lst [V.bl false])) tr (.lst ((List.replicate n' false).map V.bl))) tr = some (.lst ((List.replicate n' false).map V.bl)) := upd_same
    have P6 := P5.same s6
    have PA := P6.same sA
    have PB := PA.same sB
    have PC := PB.same sC
    have J : LJ MC p c mk l tw lt kp tr (List.replicate n' false) (List.replicate n' false) (List.replicate n' false) (upd (upd (upd (upd H6 b1 (.lst [V.bl false])) kp (.lst ((List.replicate n' false).map V.bl))) b2 (.lst [V.bl false])) tr (.lst ((List.replicate n' false).map V.bl))) :=
      { P := PC.same sD, m := (((M5.same s6).same sA).same sB).same sC |>.same sD, t := (((T6.same sA).same sB).same sC).same sD, k := sD _ _ (sC _ _ ekp), r := etr,
        lp := ol.1, lc := ol.2, ltp := (off P5 nlt).1, ltc := (off P5 nlt).2, kp_ := (off PA nkp).1, kc_ := (off PA nkp).2, rp := (off PC ntr).1, rc := (off PC ntr).2,
        l1 := ne_of_none M5.2 nlt, l2 := ne_of_none (sA _ _ (s6 _ _ M5.2)) nkp, l3 := ne_of_none (sC _ _ (sB _ _ (sA _ _ (s6 _ _ M5.2)))) ntr, l4 := ne_of_none (sC _ _ (sB _ _ (sA _ _ T6.2))) ntr, l5 := ne_of_none (sC _ _ ekp) ntr }
    generalize upd (upd (upd (upd H6 b1 (HO.lst [V.bl false])) kp (HO.lst ((List.replicate n' false).map V.bl))) b2 (HO.lst [V.bl false])) tr (HO.lst ((List.replicate n' false).map V.bl)) = H7 at J
    clear s6 sA sB sC sD ekp etr PA PB PC P6 P5 M5 T6 e5 el nb1 nkp nb2 ntr ntw nlt ol s5 s2 nmk ndm nedm nl' om
    refine ⟨_, rfl, p, c, 60, rfl, J.P, by decide, by decide, fun H8 m8 P8 K8 m0 m1 => ⟨m8, rfl, by omega, by omega, ?_⟩⟩
    have J8 := J.kept P8 K8
    refine for_range (lo := 0) (n := m8.toNat) (fun i σ H' => ∃ (tw lt kp : Addr) (fl gl : List Bool) (x7 x8 x9 x10 x11 x12 : Option V), σ = [some (.ref a), some (.ref p), some (.int (n' : Nat)), some (.ref mk), some (.ref tw), some (.ref kp), some (.ref tr), x7, x8, x9, x10, x11, x12] ∧ fl.length = n' ∧ gl.length = n' ∧ LJ MC p c mk l tw lt kp tr fl fl gl H')
      ⟨tw, lt, kp, _, _, _, _, _, _, _, _, rfl, List.length_replicate, List.length_replicate, J8⟩ ?_ ?_
    · clear J J8 P8 K8 P4 K4 P1 P2 P3 K2 K3 nlm
      rintro i σ H1 hi ⟨tw, lt, kp, fl, gl, x7, x8, x9, x10, x11, x12, rfl, hfl, hgl, J⟩
      -- at
      refine ⟨fun σ H' => ∃ (x : V) (o : Option Int) (d : PyData), σ = [some (.ref a), some (.ref p), some (.int (n' : Nat)), some (.ref mk), some (.ref tw), some (.ref kp), some (.ref tr), some (.int (0 + (i : Nat))), some x, x9, x10, x11, x12] ∧ LJ MC p c mk l tw lt kp tr fl fl gl H' ∧ XA K p c l tr H' x o d, ?_, ?_⟩
      · refine ⟨_, rfl, p, c, 6, rfl, J.P, by decide, by decide, fun H2 d P2 K2 d0 d1 => ⟨_, _, rfl, rfl, _, rfl, ?_⟩⟩
        have J2 := J.kept P2 K2
        refine ite2 (fun _ => ?_) (fun _ => ?_)
        · refine ⟨_, rfl, _, rfl, _, _, rfl, rfl, p, c, _, rfl, P2, by omega, by omega, fun H3 e P3 K3 e0 e1 => ⟨_, _, rfl, rfl, ?_⟩⟩
          refine ⟨.int (e - 1), some (e - 1), .int (e - 1), rfl, J2.kept P3 K3, show_int (by omega), strOk_of _, H3, H3, fun H2 _ => ⟨.int _, .int _⟩, fun b o z z' => z', P3, ⟨_, (J2.kept P3 K3).m.2⟩, ⟨_, (J2.kept P3 K3).r⟩⟩
        · refine ⟨_, rfl, p, c, rfl, P2, fun H3 v P3 K3 ⟨o, d, h1, h2, h3⟩ => ?_⟩
          exact ⟨v, o, d, rfl, J2.kept P3 K3, h1, h2, H2, H3, h3, fun b o z z' => z', P2, ⟨_, J2.m.2⟩, ⟨_, J2.r⟩⟩
      clear J
      rintro σ H2 ⟨x, o, d, rfl, J, hX⟩
      -- value
      refine ⟨fun σ H' => ∃ (y : V), σ = [some (.ref a), some (.ref p), some (.int (n' : Nat)), some (.ref mk), some (.ref tw), some (.ref kp), some (.ref tr), some (.int (0 + (i : Nat))), some x, some y, x10, x11, x12] ∧ LJ MC p c mk l tw lt kp tr fl fl gl H' ∧ XA K p c l tr H' x o d ∧ YV K y, ?_, ?_⟩
      · refine ⟨by show 7 ≤ sizeLine; decide, fun lv nlv => ?_⟩
        have om := off J.P nlv
        have sv := same_upd (o := .lst [V.bl true, V.bl false, V.bl true, V.int 0, V.int 1, V.non, V.str "yes"]) nlv
        refine ⟨_, rfl, p, c, 7, rfl, J.P.same sv, by decide, by decide, fun H4 u P4 K4 u0 u1 => ?_⟩
        have em := K4 _ _ om.1 om.2 upd_same
        obtain ⟨ku, rfl⟩ := Int.eq_ofNat_of_zero_le u0
        obtain ⟨y, hy, hv⟩ : ∃ y, YV K y ∧ [V.bl true, V.bl false, V.bl true, V.int 0, V.int 1, V.non, V.str "yes"][ku]? = some y := by
          match ku, u1 with
          | 0, _ => exact ⟨_, .inl ⟨_, rfl⟩, rfl⟩
          | 1, _ => exact ⟨_, .inl ⟨_, rfl⟩, rfl⟩
          | 2, _ => exact ⟨_, .inl ⟨_, rfl⟩, rfl⟩
          | 3, _ => exact ⟨_, .inr ⟨_, fun H => .base (.int _), kit_ty (by decide +kernel), fun b z => nomatch z⟩, rfl⟩
          | 4, _ => exact ⟨_, .inr ⟨_, fun H => .base (.int _), kit_ty (by decide +kernel), fun b z => nomatch z⟩, rfl⟩
          | 5, _ => exact ⟨_, .inr ⟨_, fun H => .base .non, kit_ty (by decide +kernel), fun b z => nomatch z⟩, rfl⟩
          | 6, _ => exact ⟨_, .inr ⟨_, fun H => .base (.str _), kit_ty (by decide +kernel), fun b z => nomatch z⟩, rfl⟩
          | k + 7, h => omega
        exact ⟨lv, _, _, _, rfl, rfl, SqL.of em, atI_nat hv, y, rfl, (J.same sv).kept P4 K4, (hX.same sv).kept K4, hy⟩
      clear J hX
      rintro σ H3 ⟨y, rfl, J, hX, hy⟩
      -- due
      refine ⟨by show 1 ≤ sizeLine; decide, fun u0 nu0 => ?_⟩
      have sv := same_upd (o := .lst [V.str "done"]) nu0
      have eu0 : (upd H3 u0 (.lst [V.str "done"])) u0 = some (.lst [V.str "done"]) := upd_same
      have lu0 : l ≠ u0 := ne_of_none J.m.2 nu0
      have J4 := J.same sv
      have hX4 := hX.same sv
      generalize upd H3 u0 (HO.lst [V.str "done"]) = H4 at eu0 J4 hX4
      clear sv nu0 J hX H3
      refine ⟨fun σ H' => ∃ (u : Addr) (L : List V) (ld : List PyData) (fl' : List Bool), σ = [some (.ref a), some (.ref p), some (.int (n' : Nat)), some (.ref mk), some (.ref tw), some (.ref kp), some (.ref tr), some (.int (0 + (i : Nat))), some x, some y, some (.ref u), x11, x12] ∧ LJ MC p c mk l tw lt kp tr fl fl gl H' ∧ XA K p c l tr H' x o d ∧ H' u = some (.lst L) ∧ l ≠ u ∧ Due n' o y d fl L ld fl', ?_, ?_⟩
      · refine ⟨_, rfl, _, rfl, x, o, _, rfl, hX4.nv, _, rfl, ?_⟩
        cases hb : btw o 0 ((n' : Nat) - 1 : Int) with
        | false =>
          refine iteT ⟨_, rfl, x, d, rfl, hX4.dp, hX4.1, by show 4 ≤ sizeLine; decide, fun u nu => ?_⟩
          have sv := same_upd (o := .lst (told4 d.shown)) nu
          exact ⟨u, _, _, _, rfl, J4.same sv, hX4.same sv, upd_same, ne_of_none J4.m.2 nu, .inl ⟨hb, rfl, rfl, rfl⟩⟩
        | true =>
          obtain ⟨k, rfl, hk⟩ : ∃ k : Nat, o = some (k : Int) ∧ k < n' := by
            cases o with
            | none => cases hb
            | some z =>
              have e2 : (0 : Int) ≤ z ∧ z ≤ (n' : Nat) - 1 := of_decide_eq_true hb
              obtain ⟨n0, rfl⟩ := Int.eq_ofNat_of_zero_le e2.1
              exact ⟨n0, rfl, by omega⟩
          refine iteF ?_
          rcases hy with ⟨b, rfl⟩ | ⟨t, ht, hkt, hne⟩
          · refine ⟨_, rfl, .bl b, .ty "bool", _, _, true, rfl, .ty _, .base (.bl b), kit_ty (by decide +kernel), true, rfl, iteF ?_⟩
            exact ⟨u0, _, _, _, rfl, J4, hX4, eu0, lu0, .inr (.inl ⟨k, b, rfl, hk, rfl, rfl, rfl, rfl⟩)⟩
          · refine ⟨_, rfl, y, .ty "bool", t, _, false, rfl, .ty _, ht _, hkt, false, rfl, iteT ?_⟩
            refine ⟨by show 4 ≤ sizeLine; decide, fun u nu => ?_⟩
            have sv := same_upd (o := .lst (told4 "None")) nu
            exact ⟨u, _, _, _, rfl, J4.same sv, hX4.same sv, upd_same, ne_of_none J4.m.2 nu, .inr (.inr ⟨k, rfl, hk, hne, rfl, rfl, rfl⟩)⟩
      clear J4 hX4 eu0 lu0
      rintro σ H5 ⟨u, L, ld, fl', rfl, J, hX, eu, lu, hD⟩
      obtain ⟨hL, hcan, hshp⟩ := hD.facts hX.2.1
      have fin : ∀ {R : VK} {H6 : Hp} {t : Addr}, H6 t = some (.lst L) → H6 u = some (.lst L) → R (.bl false) H6 → rNeD K (.ref t) (.ref u) H6 R := fun {R H6 t} e1 e2 r => ⟨.list ld, .list ld, .lst (SqL.of e1) (hL _), .lst (SqL.of e2) (hL _), hshp, hshp, by rw [eq_self hcan]; exact r⟩
      -- put
      refine ⟨fun σ H' => σ = [some (.ref a), some (.ref p), some (.int (n' : Nat)), some (.ref mk), some (.ref tw), some (.ref kp), some (.ref tr), some (.int (0 + (i : Nat))), some x, some y, some (.ref u), x11, x12] ∧ LJ MC p c mk l tw lt kp tr fl' fl gl H' ∧ XA K p c l tr H' x o d ∧ H' u = some (.lst L), ?_, ?_⟩
      · refine ⟨_, rfl, _, rfl, _, rfl, mk, l, fl, x, y, o, d, rfl, J.m, hX.nv, hX.dp, hX.1, hy.or H5, fun k b ho hk hyb H' t s' nt et => ?_, fun hb H' t s' et => ?_, fun k ho hk hyb H' t s' et => ?_⟩
        · rw [hfl] at hk
          obtain ⟨rfl, rfl⟩ : L = [.str "done"] ∧ fl' = fl.set k b := by
            rcases hD with ⟨hb, _⟩ | ⟨k', b', ho', _, hyb', h1, _, h2⟩ | ⟨_, _, _, hne, _⟩
            · rw [ho, show btw (some (k : Int)) 0 ((n' : Nat) - 1 : Int) = true from decide_eq_true ⟨by omega, by omega⟩] at hb
              cases hb
            · rw [ho] at ho'
              have e1 : k = k' := by have := Option.some.inj ho'; omega
              rw [hyb] at hyb'
              have e2 : b = b' := by injection hyb'
              subst e1 e2
              exact ⟨h1, h2⟩
            · exact (hne b hyb).elim
          have nl : l ≠ t := ne_of_none J.m.2 nt
          refine ⟨_, rfl, fin (by rw [upd_ne nl.symm]; exact et) (by rw [upd_ne lu.symm]; exact s' _ _ eu) ⟨false, rfl, iteF ⟨rfl, (J.same s').set _, (hX.same s').updl, by rw [upd_ne lu.symm]; exact s' _ _ eu⟩⟩⟩
        · rw [hfl] at hb
          obtain ⟨rfl, rfl⟩ : L = told4 d.shown ∧ fl' = fl := by
            rcases hD with ⟨_, h1, _, h2⟩ | ⟨k', b', ho', hk', _⟩ | ⟨k', ho', hk', _⟩
            · exact ⟨h1, h2⟩
            · rw [ho', show btw (some (k' : Int)) 0 ((n' : Nat) - 1 : Int) = true from decide_eq_true ⟨by omega, by omega⟩] at hb
              cases hb
            · rw [ho', show btw (some (k' : Int)) 0 ((n' : Nat) - 1 : Int) = true from decide_eq_true ⟨by omega, by omega⟩] at hb
              cases hb
          exact ⟨_, rfl, fin et (s' _ _ eu) ⟨false, rfl, iteF ⟨rfl, J.same s', hX.same s', s' _ _ eu⟩⟩⟩
        · rw [hfl] at hk
          obtain ⟨rfl, rfl⟩ : L = told4 "None" ∧ fl' = fl := by
            rcases hD with ⟨hb, _⟩ | ⟨k', b', ho', _, hyb', h1, _, h2⟩ | ⟨_, _, _, hne, h1, _, h2⟩
            · rw [ho, show btw (some (k : Int)) 0 ((n' : Nat) - 1 : Int) = true from decide_eq_true ⟨by omega, by omega⟩] at hb
              cases hb
            · exact (hyb _ hyb').elim
            · exact ⟨h1, h2⟩
          exact ⟨_, rfl, fin et (s' _ _ eu) ⟨false, rfl, iteF ⟨rfl, J.same s', hX.same s', s' _ _ eu⟩⟩⟩
      clear J hX eu fin
      rintro σ H6 ⟨rfl, J, hX, eu⟩
      -- truths
      refine ⟨fun σ H' => σ = [some (.ref a), some (.ref p), some (.int (n' : Nat)), some (.ref mk), some (.ref tw), some (.ref kp), some (.ref tr), some (.int (0 + (i : Nat))), some x, some y, some (.ref u), x11, x12] ∧ LJ MC p c mk l tw lt kp tr fl' fl' gl H' ∧ XA K p c l tr H' x o d, ?_, ?_⟩
      · refine ⟨_, rfl, by show 1 ≤ sizeLine; decide, fun v nv => ?_⟩
        have sv := same_upd (o := .lst [V.str "done"]) nv
        refine ⟨.list ld, .list [.str "done"], .lst (SqL.of (sv _ _ eu)) (hL _), .lst (SqL.of upd_same) (.cons (.str _) .nil), hshp, by decide +kernel, ?_⟩
        have J2 := J.same sv
        have hX2 := hX.same sv
        generalize upd H6 v (HO.lst [V.str "done"]) = H7 at J2 hX2
        rcases hD with ⟨_, _, rfl, rfl⟩ | ⟨k, b, rfl, hk, rfl, _, rfl, rfl⟩ | ⟨_, _, _, _, _, rfl, rfl⟩
        · rw [told4_ne]
          exact ⟨false, rfl, iteF ⟨rfl, J2, hX2⟩⟩
        · rw [eq_self (by decide +kernel)]
          have hlen : (fl.map V.bl).length = n' := by rw [List.length_map, hfl]
          have ex := hX2.nv.some_eq
          subst ex
          refine ⟨true, rfl, iteT ⟨_, rfl, _, rfl, _, rfl, tr, _, _, k, rfl, rfl, J2.r, ixN_nat (by rw [hlen]; exact hk), rfl, ?_, ?_⟩⟩
          · rw [← List.map_set]
            exact J2.truth _
          · exact hX2.updr
        · rw [told4_ne]
          exact ⟨false, rfl, iteF ⟨rfl, J2, hX2⟩⟩
      have hfl' : fl'.length = n' := by rw [hD.len, hfl]
      clear hfl hD hcan hshp hL J hX eu lu H6
      rintro σ H6 ⟨rfl, J, hX⟩
      -- item
      refine ⟨fun σ H' => σ = [some (.ref a), some (.ref p), some (.int (n' : Nat)), some (.ref mk), some (.ref tw), some (.ref kp), some (.ref tr), some (.int (0 + (i : Nat))), some x, some y, some (.ref u), x11, x12] ∧ LJ MC p c mk l tw lt kp tr fl' fl' gl H', ?_, ?_⟩
      · refine ⟨_, rfl, _, rfl, mk, l, fl', x, o, d, rfl, J.m, hX.nv, hX.dp, hX.1, fun k b ho hk => ?_, fun hb H' s' => ?_⟩
        · have hkn : k < n' := by
            rw [← hfl']
            exact (List.getElem?_eq_some_iff.mp hk).1
          have hb : btw o 0 ((n' : Nat) - 1 : Int) = true := by
            rw [ho]
            exact decide_eq_true ⟨by omega, by omega⟩
          subst ho
          have ex := hX.nv.some_eq
          subst ex
          refine ⟨_, rfl, _, rfl, _, _, _, rfl, hX.nv, _, rfl, ?_⟩
          rw [hb]
          refine iteT ⟨_, rfl, _, rfl, tr, _, _, _, rfl, rfl, SqL.of J.r, atI_nat (by rw [List.getElem?_map, hk]; rfl), ?_⟩
          exact ⟨.bool b, .bool b, .bl b, .bl b, rfl, rfl, false, by rw [eq_self rfl]; rfl, iteF ⟨rfl, J⟩⟩
        · rw [hfl'] at hb
          have hX' := hX.same s'
          refine ⟨_, rfl, _, rfl, _, _, _, rfl, hX'.nv, _, rfl, ?_⟩
          rw [hb]
          refine iteF ⟨_, rfl, x, d, rfl, hX'.dp, hX.1, ?_⟩
          have sk : SeqAt.shaped (.str d.shown) = true := by
            unfold SeqAt.shaped
            rw [show PyData.canLay0 (.str d.shown) = true from hX.2.1]
            rfl
          exact ⟨.str d.shown, .str d.shown, .str _, .str _, sk, sk, false, by rw [eq_self (show PyData.canLay0 (.str d.shown) = true from hX.2.1)]; rfl, iteF ⟨rfl, J.same s'⟩⟩
      clear J hX H6
      rintro σ H6 ⟨rfl, J⟩
      -- pages
      obtain ⟨⟨dx, e1⟩, _⟩ := id J.m
      refine ⟨_, rfl, mk, dx, _, rfl, e1, rfl, mk, l, fl', rfl, J.m, by omega, fun H7 pg s7 npg epg => ?_⟩
      have J7 := J.same s7
      refine ⟨_, rfl, ?_⟩
      refine comp6 J7.r hfl' hn2 fun H8 D s8 nD eD => ?_
      refine ⟨_, _, dp_vi (s8 _ _ epg), dp_vi eD, shp_dk _, shp_dk _, false, by rw [SeqAt.eqv_refl _ (can_dkl _)]; rfl, iteF ?_⟩
      have J8 := J7.same s8
      obtain ⟨⟨dx8, e8⟩, _⟩ := id J8.m
      refine ⟨_, rfl, ⟨mk, dx8, _, rfl, e8⟩, mk, l, fl', rfl, J8.m, fl'.length, rfl, by omega, _, rfl, rfl, ?_⟩
      refine ⟨false, neF (by rw [hfl']), iteF ?_⟩
      have pl : ((pgs 0 fl').map vi).length < sizeLine := by
        rw [List.length_map]
        have := pgs_len fl' 0
        exact Nat.lt_of_le_of_lt (show _ ≤ 64 by omega) (by decide)
      refine ⟨_, rfl, .inl ⟨rfl, _, SqL.of (s8 _ _ epg)⟩, pg, _, _, rfl, rfl, s8 _ _ epg, pl, ?_⟩
      have sA : Same H6 (upd H8 pg (.lst ((pgs 0 fl').map vi ++ [V.int 99]))) := fun z o ez => by
        rw [upd_ne (ne_of_none ez npg)]
        exact s8 _ _ (s7 _ _ ez)
      have J9 := J.same sA
      generalize upd H8 pg (HO.lst ((pgs 0 fl').map vi ++ [V.int 99])) = H9 at J9
      clear J J7 J8 s7 s8 epg npg eD nD sA e1 e8 pl
      obtain ⟨⟨dx9, e9⟩, _⟩ := id J9.m
      refine ⟨_, rfl, _, rfl, ⟨mk, dx9, _, rfl, e9⟩, ?_⟩
      obtain ⟨⟨dy9, g9⟩, _⟩ := id J9.t
      refine ⟨⟨_, .base (.ins g9 Z.C.cl Z.C.cC Z.C.cG Z.C.cT Z.C.cM), Z.nfM⟩, mk, l, fl', _, rfl, J9.m, .inl ⟨tw, lt, gl, rfl, J9.t, ?_⟩⟩
      refine ⟨_, rfl, _, rfl, _, _, dp_bl J9.r, dp_bl J9.k, bD_shp _, bD_shp _, ?_⟩
      rw [bD_eqv]
      refine ⟨rfl, false, neF rfl, iteF ?_⟩
      refine ⟨_, rfl, tw, dy9, _, rfl, g9, rfl, tw, lt, gl, rfl, J9.t, by omega, fun HA m sA nm em => ?_⟩
      refine comp5 (J9.same sA).k hgl hn2 fun HB D sB nD eD => ?_
      refine ⟨_, _, dp_vi (sB _ _ em), dp_vi eD, shp_dk _, shp_dk _, false, by rw [SeqAt.eqv_refl _ (can_dkl _)]; rfl, iteF ?_⟩
      have JB := J9.same (sA.trans sB)
      clear J9 sA nm em sB nD eD g9 e9
      refine ⟨_, rfl, rfl, _, rfl, ite2 (fun _ => ?_) (fun _ => ?_)⟩
      · obtain ⟨⟨dxb, eb⟩, _⟩ := id JB.m
        refine ⟨_, rfl, mk, dxb, _, rfl, eb, rfl, mk, l, fl', rfl, JB.m, fun HC tw' lt' sC ntw nlt TC => ?_⟩
        refine ⟨_, rfl, tr, _, rfl, .inl (SqL.of (JB.same sC).r), fun kp' nkp => ?_⟩
        have sD := same_upd (o := .lst (fl'.map V.bl)) nkp
        have JD := (JB.same sC).same sD
        have olt := off JB.P nlt
        have okp := off (JB.P.same sC) nkp
        refine ⟨tw', lt', kp', fl', fl', _, _, _, _, _, _, rfl, hfl', hfl', { JD with t := TC.same sD, k := upd_same, ltp := olt.1, ltc := olt.2, kp_ := okp.1, kc_ := okp.2, l1 := ne_of_none JB.m.2 nlt, l2 := ne_of_none (JB.same sC).m.2 nkp, l4 := (ne_of_none JB.r nlt).symm, l5 := (ne_of_none (JB.same sC).r nkp).symm }⟩
      · exact ⟨tw, lt, kp, fl', gl, _, _, _, _, _, _, rfl, hfl', hgl, JB⟩
    · rintro σ H9 ⟨tw, lt, kp, fl, gl, x7, x8, x9, x10, x11, x12, rfl, hfl, hgl, J⟩
      refine ⟨_, rfl, p, c, rfl, J.P, fun HA PA KA => ⟨true, rfl, iteF ?_⟩⟩
      have JA := J.kept PA KA
      clear J KA
      refine ⟨_, rfl, _, rfl, by omega, by omega, fun D nD => ?_⟩
      refine lc_range (lo := 0) (n := ((n' : Nat) : Int).toNat) (fun i H' => Same HA H' ∧ H' D = some (.lst ((fl.take i).map V.bl))) ⟨same_upd nD, upd_same⟩ ?_ ?_
      · rintro i H' hi ⟨s1, e1⟩
        rw [Int.toNat_natCast] at hi
        have hi' : i < fl.length := by omega
        have hg : fl[i]? = some fl[i] := List.getElem?_eq_getElem hi'
        refine ⟨rfl, _, rfl, _, rfl, mk, l, fl, _, some (0 + (i : Int)), .int (0 + (i : Int)), rfl, (JA.same s1).m, .int _, .int _, show_int (by omega), fun k b ho hk => ?_, fun hb => ?_⟩
        · have ek : k = i := by
            have := Option.some.inj ho
            omega
          subst ek
          rw [hg] at hk
          obtain rfl := Option.some.inj hk
          refine ⟨_, e1, ?_, fun z o ez => ?_, ?_⟩
          · rw [List.length_map, List.length_take]
            exact Nat.lt_of_le_of_lt (show _ ≤ 64 by omega) (by decide)
          · rw [upd_ne (ne_of_none ez nD)]
            exact s1 _ _ ez
          · rw [upd_same, List.take_add_one, hg, List.map_append]
            rfl
        · rw [show btw (some (0 + (i : Int))) 0 ((fl.length : Nat) - 1 : Int) = true from decide_eq_true ⟨by omega, by omega⟩] at hb
          cases hb
      · rintro HB ⟨s1, e1⟩
        rw [Int.toNat_natCast, List.take_of_length_le (by omega)] at e1
        have JB := JA.same s1
        refine ⟨_, rfl, _, _, dp_bl e1, dp_bl JB.r, bD_shp _, bD_shp _, true, by rw [bD_eqv, decide_eq_true rfl], iteT ?_⟩
        obtain ⟨⟨dxb, eb⟩, _⟩ := id JB.m
        refine ⟨_, rfl, _, rfl, ⟨mk, dxb, _, rfl, eb⟩, ⟨_, .base (.lst JB.r), Z.nfL⟩, mk, l, fl, _, rfl, JB.m, .inr ⟨_, .base (.lst JB.r), Z.kL, false, rfl, true, rfl, iteT ?_⟩⟩
        refine ⟨_, rfl, mk, dxb, _, rfl, eb, rfl, mk, l, fl, rfl, JB.m, fun HC tw' lt' sC ntw nlt TC => ?_⟩
        obtain ⟨⟨dt, et⟩, _⟩ := id TC
        obtain ⟨⟨dm, em⟩, _⟩ := id (JB.same sC).m
        refine ⟨_, rfl, ⟨tw', dt, _, rfl, et⟩, ⟨_, .base (.ins em Z.C.cl Z.C.cC Z.C.cG Z.C.cT Z.C.cM), Z.nfM⟩, tw', lt', fl, _, rfl, TC, .inl ⟨mk, l, fl, rfl, (JB.same sC).m, ?_⟩⟩
        rw [decide_eq_true rfl]
        exact q HC
end
end Toy
set_option Elab.async false
set_option linter.all false
set_option maxRecDepth 100000
set_option maxHeartbeats 4000000
namespace Toy
open PySem PySem.Spec PyProof.Rows L2
theorem all_mk {l : PySem.W.OpenLaw} {w : World} {K : PySem.W.Frag} {h : Heap} {mg : Str → Option Value} {fa f_is_whole f_is_between f_law_pot f_law_draw f_law_odd f_law_put f_law_item f_law_made f_law_is_page f_law_all_made f_law MC f_mi f_gi f_ms f_mp f_ml f_me f_mt MD f_di D W f_iW Y : Addr}  (X : K.In h) (G : h.Ns mainGlobals mg) (hfa : mg "law" = some (.ref fa))
    {od_is_whole an_is_whole : Option Addr} {sl_is_whole : Array (Option Value)} {oc_is_whole kV_is_whole dc_is_whole pm_is_whole cd_is_whole ct_is_whole : Value} {od_is_between an_is_between : Option Addr} {sl_is_between : Array (Option Value)} {oc_is_between kV_is_between dc_is_between pm_is_between cd_is_between ct_is_between : Value} {od_law_pot an_law_pot : Option Addr} {sl_law_pot : Array (Option Value)} {oc_law_pot kV_law_pot dc_law_pot pm_law_pot cd_law_pot ct_law_pot : Value} {od_law_draw an_law_draw : Option Addr} {sl_law_draw : Array (Option Value)} {oc_law_draw kV_law_draw dc_law_draw pm_law_draw cd_law_draw ct_law_draw : Value} {od_law_odd an_law_odd : Option Addr} {sl_law_odd : Array (Option Value)} {oc_law_odd kV_law_odd dc_law_odd pm_law_odd cd_law_odd ct_law_odd : Value} {od_law_put an_law_put : Option Addr} {sl_law_put : Array (Option Value)} {oc_law_put kV_law_put dc_law_put pm_law_put cd_law_put ct_law_put : Value} {od_law_item an_law_item : Option Addr} {sl_law_item : Array (Option Value)} {oc_law_item kV_law_item dc_law_item pm_law_item cd_law_item ct_law_item : Value} {od_law_made an_law_made : Option Addr} {sl_law_made : Array (Option Value)} {oc_law_made kV_law_made dc_law_made pm_law_made cd_law_made ct_law_made : Value} {od_law_is_page an_law_is_page : Option Addr} {sl_law_is_page : Array (Option Value)} {oc_law_is_page kV_law_is_page dc_law_is_page pm_law_is_page cd_law_is_page ct_law_is_page : Value} {od_law_all_made an_law_all_made : Option Addr} {sl_law_all_made : Array (Option Value)} {oc_law_all_made kV_law_all_made dc_law_all_made pm_law_all_made cd_law_all_made ct_law_all_made : Value} {od_law an_law : Option Addr} {sl_law : Array (Option Value)} {oc_law kV_law dc_law pm_law cd_law ct_law : Value} {od_mi an_mi : Option Addr} {sl_mi : Array (Option Value)} {oc_mi kV_mi dc_mi pm_mi cd_mi ct_mi : Value} {od_gi an_gi : Option Addr} {sl_gi : Array (Option Value)} {oc_gi kV_gi dc_gi pm_gi cd_gi ct_gi : Value} {od_ms an_ms : Option Addr} {sl_ms : Array (Option Value)} {oc_ms kV_ms dc_ms pm_ms cd_ms ct_ms : Value} {od_mp an_mp : Option Addr} {sl_mp : Array (Option Value)} {oc_mp kV_mp dc_mp pm_mp cd_mp ct_mp : Value} {od_ml an_ml : Option Addr} {sl_ml : Array (Option Value)} {oc_ml kV_ml dc_ml pm_ml cd_ml ct_ml : Value} {od_me an_me : Option Addr} {sl_me : Array (Option Value)} {oc_me kV_me dc_me pm_me cd_me ct_me : Value} {od_mt an_mt : Option Addr} {sl_mt : Array (Option Value)} {oc_mt kV_mt dc_mt pm_mt cd_mt ct_mt : Value} {od_di an_di : Option Addr} {sl_di : Array (Option Value)} {oc_di kV_di dc_di pm_di cd_di ct_di : Value} {nm_W qn_W : Str} {ns_W : Addr} {bs_W bm_W : List Value} {sn_W : List Str} {sb_W : List Value} {ab_W : Bool} {co_W : Option Bool} {dd_W : Option Addr} {m0_W m1_W m2_W m3_W m5_W : Option Value} {od_iW an_iW : Option Addr} {sl_iW : Array (Option Value)} {oc_iW kV_iW dc_iW pm_iW cd_iW ct_iW : Value} {tm : Tok}
    (a_is_whole : PySem.W.nsIn K mainGlobals "is_whole" = some (some (.ref f_is_whole)))
    (l_is_whole : K.lookup f_is_whole = some ⟨oc_is_whole, od_is_whole, .func (PySem.W.fnOf "is_whole" "is_whole" (defArgs s_is_whole) (defBody s_is_whole) (defScope s_is_whole) .none kV_is_whole dc_is_whole pm_is_whole an_is_whole cd_is_whole ct_is_whole), sl_is_whole⟩)
    (c_is_whole : PySem.W.codeIn K cd_is_whole "is_whole" = true)
    (k_is_whole : PySem.W.keepIn K (.ref f_is_whole) = true)
    (a_is_between : PySem.W.nsIn K mainGlobals "is_between" = some (some (.ref f_is_between)))
    (l_is_between : K.lookup f_is_between = some ⟨oc_is_between, od_is_between, .func (PySem.W.fnOf "is_between" "is_between" (defArgs s_is_between) (defBody s_is_between) (defScope s_is_between) .none kV_is_between dc_is_between pm_is_between an_is_between cd_is_between ct_is_between), sl_is_between⟩)
    (c_is_between : PySem.W.codeIn K cd_is_between "is_between" = true)
    (k_is_between : PySem.W.keepIn K (.ref f_is_between) = true)
    (a_law_pot : PySem.W.nsIn K mainGlobals "_law_pot" = some (some (.ref f_law_pot)))
    (l_law_pot : K.lookup f_law_pot = some ⟨oc_law_pot, od_law_pot, .func (PySem.W.fnOf "_law_pot" "_law_pot" (defArgs s_law_pot) (defBody s_law_pot) (defScope s_law_pot) .none kV_law_pot dc_law_pot pm_law_pot an_law_pot cd_law_pot ct_law_pot), sl_law_pot⟩)
    (c_law_pot : PySem.W.codeIn K cd_law_pot "_law_pot" = true)
    (k_law_pot : PySem.W.keepIn K (.ref f_law_pot) = true)
    (a_law_draw : PySem.W.nsIn K mainGlobals "_law_draw" = some (some (.ref f_law_draw)))
    (l_law_draw : K.lookup f_law_draw = some ⟨oc_law_draw, od_law_draw, .func (PySem.W.fnOf "_law_draw" "_law_draw" (defArgs s_law_draw) (defBody s_law_draw) (defScope s_law_draw) .none kV_law_draw dc_law_draw pm_law_draw an_law_draw cd_law_draw ct_law_draw), sl_law_draw⟩)
    (c_law_draw : PySem.W.codeIn K cd_law_draw "_law_draw" = true)
    (k_law_draw : PySem.W.keepIn K (.ref f_law_draw) = true)
    (a_law_odd : PySem.W.nsIn K mainGlobals "_law_odd" = some (some (.ref f_law_odd)))
    (l_law_odd : K.lookup f_law_odd = some ⟨oc_law_odd, od_law_odd, .func (PySem.W.fnOf "_law_odd" "_law_odd" (defArgs s_law_odd) (defBody s_law_odd) (defScope s_law_odd) .none kV_law_odd dc_law_odd pm_law_odd an_law_odd cd_law_odd ct_law_odd), sl_law_odd⟩)
    (c_law_odd : PySem.W.codeIn K cd_law_odd "_law_odd" = true)
    (k_law_odd : PySem.W.keepIn K (.ref f_law_odd) = true)
    (a_law_put : PySem.W.nsIn K mainGlobals "_law_put" = some (some (.ref f_law_put)))
    (l_law_put : K.lookup f_law_put = some ⟨oc_law_put, od_law_put, .func (PySem.W.fnOf "_law_put" "_law_put" (defArgs s_law_put) (defBody s_law_put) (defScope s_law_put) .none kV_law_put dc_law_put pm_law_put an_law_put cd_law_put ct_law_put), sl_law_put⟩)
    (c_law_put : PySem.W.codeIn K cd_law_put "_law_put" = true)
    (k_law_put : PySem.W.keepIn K (.ref f_law_put) = true)
    (a_law_item : PySem.W.nsIn K mainGlobals "_law_item" = some (some (.ref f_law_item)))
    (l_law_item : K.lookup f_law_item = some ⟨oc_law_item, od_law_item, .func (PySem.W.fnOf "_law_item" "_law_item" (defArgs s_law_item) (defBody s_law_item) (defScope s_law_item) .none kV_law_item dc_law_item pm_law_item an_law_item cd_law_item ct_law_item), sl_law_item⟩)
    (c_law_item : PySem.W.codeIn K cd_law_item "_law_item" = true)
    (k_law_item : PySem.W.keepIn K (.ref f_law_item) = true)
    (a_law_made : PySem.W.nsIn K mainGlobals "_law_made" = some (some (.ref f_law_made)))
    (l_law_made : K.lookup f_law_made = some ⟨oc_law_made, od_law_made, .func (PySem.W.fnOf "_law_made" "_law_made" (defArgs s_law_made) (defBody s_law_made) (defScope s_law_made) .none kV_law_made dc_law_made pm_law_made an_law_made cd_law_made ct_law_made), sl_law_made⟩)
    (c_law_made : PySem.W.codeIn K cd_law_made "_law_made" = true)
    (k_law_made : PySem.W.keepIn K (.ref f_law_made) = true)
    (a_law_is_page : PySem.W.nsIn K mainGlobals "_law_is_page" = some (some (.ref f_law_is_page)))
    (l_law_is_page : K.lookup f_law_is_page = some ⟨oc_law_is_page, od_law_is_page, .func (PySem.W.fnOf "_law_is_page" "_law_is_page" (defArgs s_law_is_page) (defBody s_law_is_page) (defScope s_law_is_page) .none kV_law_is_page dc_law_is_page pm_law_is_page an_law_is_page cd_law_is_page ct_law_is_page), sl_law_is_page⟩)
    (c_law_is_page : PySem.W.codeIn K cd_law_is_page "_law_is_page" = true)
    (k_law_is_page : PySem.W.keepIn K (.ref f_law_is_page) = true)
    (a_law_all_made : PySem.W.nsIn K mainGlobals "_law_all_made" = some (some (.ref f_law_all_made)))
    (l_law_all_made : K.lookup f_law_all_made = some ⟨oc_law_all_made, od_law_all_made, .func (PySem.W.fnOf "_law_all_made" "_law_all_made" (defArgs s_law_all_made) (defBody s_law_all_made) (defScope s_law_all_made) .none kV_law_all_made dc_law_all_made pm_law_all_made an_law_all_made cd_law_all_made ct_law_all_made), sl_law_all_made⟩)
    (c_law_all_made : PySem.W.codeIn K cd_law_all_made "_law_all_made" = true)
    (k_law_all_made : PySem.W.keepIn K (.ref f_law_all_made) = true)
    (a_law : PySem.W.nsIn K mainGlobals "law" = some (some (.ref f_law)))
    (l_law : K.lookup f_law = some ⟨oc_law, od_law, .func (PySem.W.fnOf "law" "law" (defArgs s_law) (defBody s_law) (defScope s_law) .none kV_law dc_law pm_law an_law cd_law ct_law), sl_law⟩)
    (c_law : PySem.W.codeIn K cd_law "law" = true)
    (k_law : PySem.W.keepIn K (.ref f_law) = true)
    (cG : PySem.W.specialIn K (.builtin "object.__class__") "__get__" = some (some (.builtin "getset_descriptor.__get__")))
    (cT : PySem.W.takesIn K (.builtin "object.__class__") = some true)
    (a_MC : PySem.W.nsIn K mainGlobals "Marks" = some (some (.ref MC)))
    (pg_MC : PySem.W.plainGet K MC Str.empty = true)
    (hd_MC : PySem.W.hasDictIn K MC = true)
    (po_MC : PySem.W.plainOver K MC = true)
    (sa_MC : PySem.W.findIn K (.ref MC) "__setattr__" = some (some (.builtin "object.__setattr__")))
    (mk_MC : PySem.W.makesIn K MC = true)
    (kc_MC : PySem.W.keepIn K (.ref MC) = true)
    (cC_MC : PySem.W.findIn K (.ref MC) "__class__" = some (some (.builtin "object.__class__")))
    (cM_MC : PySem.W.mroIn K MC (.type "object") = some true)
    (kk_MC : PySem.W.kitOne K (.ref MC) (.ref MC) = some true)
    (n_MC__flags : PySem.W.findIn K (.ref MC) "_flags" = some none)
    (a_mi : PySem.W.findIn K (.ref MC) "__init__" = some (some (.ref f_mi)))
    (i_mi : PySem.W.isFn K (.ref f_mi) = true)
    (l_mi : K.lookup f_mi = some ⟨oc_mi, od_mi, .func (PySem.W.fnOf "__init__" "Marks.__init__" (defArgs s_Marks_init) (defBody s_Marks_init) (defScope s_Marks_init) .none kV_mi dc_mi pm_mi an_mi cd_mi ct_mi), sl_mi⟩)
    (c_mi : PySem.W.codeIn K cd_mi "Marks.__init__" = true)
    (k_mi : PySem.W.keepIn K (.ref f_mi) = true)
    (a_gi : PySem.W.findIn K (.ref MC) "__getitem__" = some (some (.ref f_gi)))
    (i_gi : PySem.W.isFn K (.ref f_gi) = true)
    (l_gi : K.lookup f_gi = some ⟨oc_gi, od_gi, .func (PySem.W.fnOf "__getitem__" "Marks.__getitem__" (defArgs s_Marks_getitem) (defBody s_Marks_getitem) (defScope s_Marks_getitem) .none kV_gi dc_gi pm_gi an_gi cd_gi ct_gi), sl_gi⟩)
    (c_gi : PySem.W.codeIn K cd_gi "Marks.__getitem__" = true)
    (k_gi : PySem.W.keepIn K (.ref f_gi) = true)
    (a_ms : PySem.W.findIn K (.ref MC) "__setitem__" = some (some (.ref f_ms)))
    (i_ms : PySem.W.isFn K (.ref f_ms) = true)
    (l_ms : K.lookup f_ms = some ⟨oc_ms, od_ms, .func (PySem.W.fnOf "__setitem__" "Marks.__setitem__" (defArgs s_Marks_setitem) (defBody s_Marks_setitem) (defScope s_Marks_setitem) .none kV_ms dc_ms pm_ms an_ms cd_ms ct_ms), sl_ms⟩)
    (c_ms : PySem.W.codeIn K cd_ms "Marks.__setitem__" = true)
    (k_ms : PySem.W.keepIn K (.ref f_ms) = true)
    (a_mp : PySem.W.findIn K (.ref MC) "pages" = some (some (.ref f_mp)))
    (i_mp : PySem.W.isFn K (.ref f_mp) = true)
    (l_mp : K.lookup f_mp = some ⟨oc_mp, od_mp, .func (PySem.W.fnOf "pages" "Marks.pages" (defArgs s_Marks_pages) (defBody s_Marks_pages) (defScope s_Marks_pages) .none kV_mp dc_mp pm_mp an_mp cd_mp ct_mp), sl_mp⟩)
    (c_mp : PySem.W.codeIn K cd_mp "Marks.pages" = true)
    (k_mp : PySem.W.keepIn K (.ref f_mp) = true)
    (a_ml : PySem.W.findIn K (.ref MC) "__len__" = some (some (.ref f_ml)))
    (i_ml : PySem.W.isFn K (.ref f_ml) = true)
    (l_ml : K.lookup f_ml = some ⟨oc_ml, od_ml, .func (PySem.W.fnOf "__len__" "Marks.__len__" (defArgs s_Marks_len) (defBody s_Marks_len) (defScope s_Marks_len) .none kV_ml dc_ml pm_ml an_ml cd_ml ct_ml), sl_ml⟩)
    (c_ml : PySem.W.codeIn K cd_ml "Marks.__len__" = true)
    (k_ml : PySem.W.keepIn K (.ref f_ml) = true)
    (a_me : PySem.W.findIn K (.ref MC) "__eq__" = some (some (.ref f_me)))
    (i_me : PySem.W.isFn K (.ref f_me) = true)
    (l_me : K.lookup f_me = some ⟨oc_me, od_me, .func (PySem.W.fnOf "__eq__" "Marks.__eq__" (defArgs s_Marks_eq) (defBody s_Marks_eq) (defScope s_Marks_eq) .none kV_me dc_me pm_me an_me cd_me ct_me), sl_me⟩)
    (c_me : PySem.W.codeIn K cd_me "Marks.__eq__" = true)
    (k_me : PySem.W.keepIn K (.ref f_me) = true)
    (a_mt : PySem.W.findIn K (.ref MC) "twin" = some (some (.ref f_mt)))
    (i_mt : PySem.W.isFn K (.ref f_mt) = true)
    (l_mt : K.lookup f_mt = some ⟨oc_mt, od_mt, .func (PySem.W.fnOf "twin" "Marks.twin" (defArgs s_Marks_twin) (defBody s_Marks_twin) (defScope s_Marks_twin) .none kV_mt dc_mt pm_mt an_mt cd_mt ct_mt), sl_mt⟩)
    (c_mt : PySem.W.codeIn K cd_mt "Marks.twin" = true)
    (k_mt : PySem.W.keepIn K (.ref f_mt) = true)
    (nqM : PySem.W.noSeq K MC = true)
    (fnG : PySem.W.fnIn K f_gi = true)
    (neM : PySem.W.findIn K (.ref MC) "__ne__" = some (some (.builtin "object.__ne__")))
    (nfM : PySem.W.notFirst K MC (.ref MC) = true)
    (nfL : PySem.W.notFirst K MC (.type "list") = true)
    (a_MD : PySem.W.nsIn K mainGlobals "Made" = some (some (.ref MD)))
    (pg_MD : PySem.W.plainGet K MD Str.empty = true)
    (hd_MD : PySem.W.hasDictIn K MD = true)
    (po_MD : PySem.W.plainOver K MD = true)
    (sa_MD : PySem.W.findIn K (.ref MD) "__setattr__" = some (some (.builtin "object.__setattr__")))
    (mk_MD : PySem.W.makesIn K MD = true)
    (kc_MD : PySem.W.keepIn K (.ref MD) = true)
    (cC_MD : PySem.W.findIn K (.ref MD) "__class__" = some (some (.builtin "object.__class__")))
    (cM_MD : PySem.W.mroIn K MD (.type "object") = some true)
    (kk_MD : PySem.W.kitOne K (.ref MD) (.ref MD) = some true)
    (n_MD_flags : PySem.W.findIn K (.ref MD) "flags" = some none)
    (a_di : PySem.W.findIn K (.ref MD) "__init__" = some (some (.ref f_di)))
    (i_di : PySem.W.isFn K (.ref f_di) = true)
    (l_di : K.lookup f_di = some ⟨oc_di, od_di, .func (PySem.W.fnOf "__init__" "Made.__init__" (defArgs s_Made_init) (defBody s_Made_init) (defScope s_Made_init) .none kV_di dc_di pm_di an_di cd_di ct_di), sl_di⟩)
    (c_di : PySem.W.codeIn K cd_di "Made.__init__" = true)
    (k_di : PySem.W.keepIn K (.ref f_di) = true)
    (kDn : PySem.W.kitOne K (.type "NoneType") (.ref MD) = some false)
    (kDb : PySem.W.kitOne K (.type "bool") (.ref MD) = some false)
    (kDi : PySem.W.kitOne K (.type "int") (.ref MD) = some false)
    (kDs : PySem.W.kitOne K (.type "str") (.ref MD) = some false)
    (kDt : PySem.W.kitOne K (.type "tuple") (.ref MD) = some false)
    (kDl : PySem.W.kitOne K (.type "list") (.ref MD) = some false)
    (kLM : PySem.W.kitOne K (.type "list") (.ref MC) = some false)
    (a_D : PySem.W.nsIn K mainGlobals "PagesError" = some (some (.ref D)))
    (rd_D : PySem.W.readsIn K D (.type "type") = true)
    (ga_D : PySem.W.specialIn K (.ref D) "__getattribute__" = some (some (.builtin "type.__getattribute__")))
    (up_D : PySem.W.findCls K (.ref D) (.type "type") "__init__" = some (.val (.builtin "ValueError.__init__")))
    (a_W : PySem.W.nsIn K mainGlobals "BadMarks" = some (some (.ref W)))
    (x_W : K.lookup W = some (excClassObj nm_W qn_W W ns_W bs_W bm_W true sn_W sb_W ab_W co_W dd_W m0_W m1_W m2_W m3_W m5_W "ValueError.__new__"))
    (rv_W : PySem.HandSPX.refsVE bm_W = true)
    (sa_W : PySem.W.findIn K (.ref W) "__setattr__" = some (some (.builtin "object.__setattr__")))
    (gt_W : PySem.W.findIn K (.ref W) "__getattribute__" = some (some (.builtin "BaseException.__getattribute__")))
    (gg_W : PySem.W.findIn K (.ref W) "__getattr__" = some none)
    (cC_W : PySem.W.findIn K (.ref W) "__class__" = some (some (.builtin "object.__class__")))
    (no_W : PySem.W.findIn K (.ref W) "at" = some none)
    (ex_W : PySem.W.subIn K (.ref W) (.type "BaseException") = some true)
    (ty_W : PySem.W.typeIn K (.ref W) = some (.type "type"))
    (kc_W : PySem.W.keepIn K (.ref W) = true)
    (hd_W : PySem.W.hasDictIn K W = true)
    (ic_W : (PySem.W.clsIn K W).isSome = true)
    (cM_W : PySem.W.mroIn K W (.type "object") = some true)
    (ss_W : PySem.W.subIn K (.ref W) (.ref W) = some true)
    (in_W : PySem.W.findIn K (.ref W) "__init__" = some (some (.ref f_iW)))
    (it_W : PySem.W.typeIn K (.ref f_iW) = some (.type "function"))
    (l_iW : K.lookup f_iW = some ⟨oc_iW, od_iW, .func (PySem.W.fnOf "__init__" "BadMarks.__init__" (defArgs s_BadMarks_init) (defBody s_BadMarks_init) (defScope s_BadMarks_init) .none kV_iW dc_iW pm_iW an_iW cd_iW ct_iW), sl_iW⟩)
    (c_iW : PySem.W.codeIn K cd_iW "BadMarks.__init__" = true)
    (k_iW : PySem.W.keepIn K (.ref f_iW) = true)
    (a_Y : PySem.W.nsIn K mainGlobals "BadPage" = some (some (.ref Y)))
    (kWD : PySem.W.kitOne K (.ref W) (.ref D) = some true)
    (kWV : PySem.W.kitOne K (.ref W) (.type "ValueError") = some true)
    (kWY : PySem.W.kitOne K (.ref W) (.ref Y) = some false)
    (mpg : PySem.W.nsIn K mainGlobals "MOST_PAGES" = some (some (.int 64 tm)))
    (z_len : PySem.W.nsIn K mainGlobals "len" = some none)
    (z_int : PySem.W.nsIn K mainGlobals "int" = some none)
    (z_bool : PySem.W.nsIn K mainGlobals "bool" = some none)
    (z_isinstance : PySem.W.nsIn K mainGlobals "isinstance" = some none)
    (z_range : PySem.W.nsIn K mainGlobals "range" = some none)
    (z_sum : PySem.W.nsIn K mainGlobals "sum" = some none)
    (z_list : PySem.W.nsIn K mainGlobals "list" = some none)
    (z_enumerate : PySem.W.nsIn K mainGlobals "enumerate" = some none)
    (z_repr : PySem.W.nsIn K mainGlobals "repr" = some none)
    (z_ValueError : PySem.W.nsIn K mainGlobals "ValueError" = some none) :
    ∀ base : Heap, K.In base → base.Ns mainGlobals mg → Gd.FnG l.prog w K mg base CX0 8 fa (spLaw K) := by
  have e := hfa.symm.trans (PySem.W.mg_of X G a_law)
  cases e
  have F_is_whole := fun_mk (st := s_is_whole) l_is_whole c_is_whole k_is_whole
  have b_is_whole := F_is_whole.binds (ps := ["value"]) fun _ _ _ _ _ _ us hl => match us, hl with | [_], _ => rfl
  have F_is_between := fun_mk (st := s_is_between) l_is_between c_is_between k_is_between
  have b_is_between := F_is_between.binds (ps := ["value", "low", "high"]) fun _ _ _ _ _ _ us hl => match us, hl with | [_, _, _], _ => rfl
  have F_law_pot := fun_mk (st := s_law_pot) l_law_pot c_law_pot k_law_pot
  have b_law_pot := F_law_pot.binds (ps := ["script"]) fun _ _ _ _ _ _ us hl => match us, hl with | [_], _ => rfl
  have F_law_draw := fun_mk (st := s_law_draw) l_law_draw c_law_draw k_law_draw
  have b_law_draw := F_law_draw.binds (ps := ["pot", "many"]) fun _ _ _ _ _ _ us hl => match us, hl with | [_, _], _ => rfl
  have F_law_odd := fun_mk (st := s_law_odd) l_law_odd c_law_odd k_law_odd
  have b_law_odd := F_law_odd.binds (ps := ["pot"]) fun _ _ _ _ _ _ us hl => match us, hl with | [_], _ => rfl
  have F_law_put := fun_mk (st := s_law_put) l_law_put c_law_put k_law_put
  have b_law_put := F_law_put.binds (ps := ["marks", "at", "value"]) fun _ _ _ _ _ _ us hl => match us, hl with | [_, _, _], _ => rfl
  have F_law_item := fun_mk (st := s_law_item) l_law_item c_law_item k_law_item
  have b_law_item := F_law_item.binds (ps := ["marks", "at"]) fun _ _ _ _ _ _ us hl => match us, hl with | [_, _], _ => rfl
  have F_law_made := fun_mk (st := s_law_made) l_law_made c_law_made k_law_made
  have b_law_made := F_law_made.binds (ps := ["many"]) fun _ _ _ _ _ _ us hl => match us, hl with | [_], _ => rfl
  have F_law_is_page := fun_mk (st := s_law_is_page) l_law_is_page c_law_is_page k_law_is_page
  have b_law_is_page := F_law_is_page.binds (ps := ["at", "many"]) fun _ _ _ _ _ _ us hl => match us, hl with | [_, _], _ => rfl
  have F_law_all_made := fun_mk (st := s_law_all_made) l_law_all_made c_law_all_made k_law_all_made
  have b_law_all_made := F_law_all_made.binds (ps := ["pot"]) fun _ _ _ _ _ _ us hl => match us, hl with | [_], _ => rfl
  have F_law := fun_mk (st := s_law) l_law c_law k_law
  have F_law := fun_mk (st := s_law) l_law c_law k_law
  have b_law := F_law.binds (ps := ["script"]) fun _ _ _ _ _ _ us hl => match us, hl with | [_], _ => rfl
  have F_mi := fun_mk (st := s_Marks_init) l_mi c_mi k_mi
  have b_mi := F_mi.binds (ps := ["self", "many"]) fun _ _ _ _ _ _ us hl => match us, hl with | [_, _], _ => rfl
  have F_gi := fun_mk (st := s_Marks_getitem) l_gi c_gi k_gi
  have b_gi := F_gi.binds (ps := ["self", "at"]) fun _ _ _ _ _ _ us hl => match us, hl with | [_, _], _ => rfl
  have F_ms := fun_mk (st := s_Marks_setitem) l_ms c_ms k_ms
  have b_ms := F_ms.binds (ps := ["self", "at", "value"]) fun _ _ _ _ _ _ us hl => match us, hl with | [_, _, _], _ => rfl
  have F_mp := fun_mk (st := s_Marks_pages) l_mp c_mp k_mp
  have b_mp := F_mp.binds (ps := ["self"]) fun _ _ _ _ _ _ us hl => match us, hl with | [_], _ => rfl
  have F_ml := fun_mk (st := s_Marks_len) l_ml c_ml k_ml
  have b_ml := F_ml.binds (ps := ["self"]) fun _ _ _ _ _ _ us hl => match us, hl with | [_], _ => rfl
  have F_me := fun_mk (st := s_Marks_eq) l_me c_me k_me
  have b_me := F_me.binds (ps := ["self", "other"]) fun _ _ _ _ _ _ us hl => match us, hl with | [_, _], _ => rfl
  have F_mt := fun_mk (st := s_Marks_twin) l_mt c_mt k_mt
  have b_mt := F_mt.binds (ps := ["self"]) fun _ _ _ _ _ _ us hl => match us, hl with | [_], _ => rfl
  have F_di := fun_mk (st := s_Made_init) l_di c_di k_di
  have b_di := F_di.binds (ps := ["self", "flags"]) fun _ _ _ _ _ _ us hl => match us, hl with | [_, _], _ => rfl
  have F_iW := fun_mk (st := s_BadMarks_init) l_iW c_iW k_iW
  have b_iW := F_iW.binds (ps := ["self", "at"]) fun _ _ _ _ _ _ us hl => match us, hl with | [_, _], _ => rfl
  have ox_W : OexC K W := ⟨⟨_, _, _, _, _, _, _, _, _, _, _, _, _, _, _, x_W, rv_W⟩, sa_W, ex_W, ty_W, kc_W⟩
  intro base _ _
  have mz : ∀ {n : Str}, PySem.W.nsIn K mainGlobals n = some none → mg n = none := fun z => PySem.W.mg_none_of X G z
  have TI : NmI mg := ⟨mz z_isinstance, mz z_int, mz z_bool⟩
  have GW := ok_wholeG (P := l.prog) (w := w) (base := base) F_is_whole TI
  have GB := ok_betwG F_is_between GW k_is_whole b_is_whole (PySem.W.mg_of X G a_is_whole)
  have CBt : Cal l.prog w K mg base CX0 2 f_is_between _ "is_between" ["value", "low", "high"] (spBetwG K) := ⟨GB, k_is_between, b_is_between, PySem.W.mg_of X G a_is_between⟩
  have GD : FnOk l.prog w K mg base CX0 1 f_law_draw _ ["pot", "many"] spDraw := ok_draw F_law_draw (mz z_int) (mz z_len)
  have DW : Drw l.prog w K mg base f_law_draw _ := ⟨GD, k_law_draw, b_law_draw, PySem.W.mg_of X G a_law_draw⟩
  have MT : MkT K mg MC MD := ⟨⟨pg_MC, hd_MC, po_MC, sa_MC⟩, n_MC__flags, PySem.W.mg_of X G a_MD, mz z_isinstance, mz z_bool, mz z_len, mz z_list, mz z_enumerate, mz z_sum, ⟨tm, PySem.W.mg_of X G mpg⟩⟩
  have erW : Err l.prog w K mg base "BadMarks" "at" W f_iW _ (spErr K "at") := ⟨ox_W, no_W, PySem.W.mg_of X G a_W, in_W, it_W, ok_BadMarks_init F_iW (PySem.W.mg_of X G a_D) ⟨⟨rd_D, ga_D⟩, up_D⟩, b_iW⟩
  have SU : Sui K W "at" := ⟨⟨ic_W, gt_W, gg_W, ex_W, cC_W, cG, cT, cM_W⟩, ⟨gt_W, gg_W, ex_W, hd_W⟩, no_W, PySem.W.exm_ref ex_W hd_W ty_W ss_W⟩
  have KW : KitW K mg W D Y := ⟨mz z_isinstance, mz z_repr, PySem.W.mg_of X G a_W, PySem.W.mg_of X G a_D, PySem.W.mg_of X G a_Y, mz z_ValueError, kWD, kWV, kWY⟩
  have gM := PySem.W.mg_of X G a_MC
  have CM : MkC K MC := ⟨MT.cl, cC_MC, cG, cT, cM_MC, kk_MC⟩
  have clD : Cls K MD := ⟨pg_MD, hd_MD, po_MD, sa_MD⟩
  have CD : MkC K MD := ⟨clD, cC_MD, cG, cT, cM_MD, kk_MD⟩
  have MM : Mk K MC f_mi := ⟨mk_MC, a_mi, i_mi, kc_MC⟩
  have MMD : Mk K MD f_di := ⟨mk_MD, a_di, i_di, kc_MD⟩
  have FI := Vx.fnR (ok_mk_init F_mi MT CBt erW) b_mi
  have FS := Vx.fnR (ok_mk_set F_ms MT CBt erW) b_ms
  have FG := Vx.fnR (ok_mk_get F_gi MT CBt erW) b_gi
  have FM := ok_mk_initM (P := l.prog) (w := w) (base := base) F_mi MT CD n_MD_flags
  have FD := ok_md_init (P := l.prog) (w := w) (mg := mg) (base := base) F_di clD n_MD_flags
  have N : KindsOf K MD := ⟨kDn, kDb, kDi, kDs, kDt, kDl⟩
  have GMd := ok_made F_law_made b_law_made MM gM FI SU (mz z_isinstance) (mz z_repr) (PySem.W.mg_of X G a_W) (PySem.W.mg_of X G a_D) kWD
  exact ok_law F_law b_law { pot := ⟨ok_pot F_law_pot (mz z_int), k_law_pot, b_law_pot, PySem.W.mg_of X G a_law_pot⟩, draw := ⟨GD, k_law_draw, b_law_draw, PySem.W.mg_of X G a_law_draw⟩, odd := ⟨ok_odd F_law_odd DW, k_law_odd, b_law_odd, PySem.W.mg_of X G a_law_odd⟩, isp := ⟨ok_pageN F_law_is_page TI, k_law_is_page, b_law_is_page, PySem.W.mg_of X G a_law_is_page⟩, put := ok_put F_law_put b_law_put nqM a_ms i_ms FS SU KW, kPut := k_law_put, gPut := PySem.W.mg_of X G a_law_put, item := ok_item F_law_item b_law_item a_gi fnG i_gi FG SU (PySem.W.mg_of X G a_W) (mz z_repr), kItem := k_law_item, gItem := PySem.W.mg_of X G a_law_item, allM := ok_all_made F_law_all_made b_law_all_made DW N GMd k_law_made (PySem.W.mg_of X G a_law_made) (mz z_repr), kAll := k_law_all_made, gAll := PySem.W.mg_of X G a_law_all_made, mkM := MM, gM := gM, FI := FI, cl := MT.cl, mT := ⟨a_mt, i_mt, k_mt⟩, FT := ok_twin F_mt MT gM MM FM b_mi MMD FD b_di, bT := b_mt, mG := ⟨a_mp, i_mp, k_mp⟩, FG := ok_mk_pages F_mp MT, bG := b_mp, lnA := a_ml, lnF := i_ml, FL := Vx.fnR (ok_mk_len F_ml MT) b_ml, eqA := a_me, eqF := i_me, FE := Vx.fnR (ok_mk_eq F_me MT CM gM) b_me, ne := neM, nfM := nfM, nfL := nfL, C := CM, kL := kLM, kID := kDi, isi := mz z_isinstance, bool := mz z_bool, rep := mz z_repr, range := mz z_range, list := mz z_list, len := mz z_len }
end Toy
open PySem PySem.W PyProof.Rows in
set_option maxRecDepth 100000 in
set_option maxHeartbeats 0 in
theorem PySem.Challenge.cw_trustedpages_k11_marks_deeds_holds : PySem.Challenge.rw_trustedpages_k11_marks_deeds.Holds := by
  w_on; o_law; k_head; (case hw => w_witness2)
  k_fill
  refine Gd.walkG (l := PySem.Challenge.rw_trustedpages_k11_marks_deeds) (n := 63) (k := 8) (sp := Toy.spLaw) rfl (by decide) rfl ⟨rfl, by decide, by decide⟩ (fun w h Y => PySem.W.kIn_of Y) ?F (fun _ _ a ns hl S => ⟨a, ns, rfl, S, hl, fun _ => rfl⟩)
  case F =>
    intro w mg fa h KX G hmg
    refine' Toy.all_mk KX G hmg ?a_is_whole ?l_is_whole ?c_is_whole ?k_is_whole ?a_is_between ?l_is_between ?c_is_between ?k_is_between ?a_law_pot ?l_law_pot ?c_law_pot ?k_law_pot ?a_law_draw ?l_law_draw ?c_law_draw ?k_law_draw ?a_law_odd ?l_law_odd ?c_law_odd ?k_law_odd ?a_law_put ?l_law_put ?c_law_put ?k_law_put ?a_law_item ?l_law_item ?c_law_item ?k_law_item ?a_law_made ?l_law_made ?c_law_made ?k_law_made ?a_law_is_page ?l_law_is_page ?c_law_is_page ?k_law_is_page ?a_law_all_made ?l_law_all_made ?c_law_all_made ?k_law_all_made ?a_law ?l_law ?c_law ?k_law ?cG ?cT ?a_MC ?pg_MC ?hd_MC ?po_MC ?sa_MC ?mk_MC ?kc_MC ?cC_MC ?cM_MC ?kk_MC ?n_MC__flags ?a_mi ?i_mi ?l_mi ?c_mi ?k_mi ?a_gi ?i_gi ?l_gi ?c_gi ?k_gi ?a_ms ?i_ms ?l_ms ?c_ms ?k_ms ?a_mp ?i_mp ?l_mp ?c_mp ?k_mp ?a_ml ?i_ml ?l_ml ?c_ml ?k_ml ?a_me ?i_me ?l_me ?c_me ?k_me ?a_mt ?i_mt ?l_mt ?c_mt ?k_mt ?nqM ?fnG ?neM ?nfM ?nfL ?a_MD ?pg_MD ?hd_MD ?po_MD ?sa_MD ?mk_MD ?kc_MD ?cC_MD ?cM_MD ?kk_MD ?n_MD_flags ?a_di ?i_di ?l_di ?c_di ?k_di ?kDn ?kDb ?kDi ?kDs ?kDt ?kDl ?kLM ?a_D ?rd_D ?ga_D ?up_D ?a_W ?x_W ?rv_W ?sa_W ?gt_W ?gg_W ?cC_W ?no_W ?ex_W ?ty_W ?kc_W ?hd_W ?ic_W ?cM_W ?ss_W ?in_W ?it_W ?l_iW ?c_iW ?k_iW ?a_Y ?kWD ?kWV ?kWY ?mpg ?z_len ?z_int ?z_bool ?z_isinstance ?z_range ?z_sum ?z_list ?z_enumerate ?z_repr ?z_ValueError
    (case a_is_whole => k_is)
    (case l_is_whole => k_is)
    (case c_is_whole => k_is)
    (case k_is_whole => k_is)
    (case a_is_between => k_is)
    (case l_is_between => k_is)
    (case c_is_between => k_is)
    (case k_is_between => k_is)
    (case a_law_pot => k_is)
    (case l_law_pot => k_is)
    (case c_law_pot => k_is)
    (case k_law_pot => k_is)
    (case a_law_draw => k_is)
    (case l_law_draw => k_is)
    (case c_law_draw => k_is)
    (case k_law_draw => k_is)
    (case a_law_odd => k_is)
    (case l_law_odd => k_is)
    (case c_law_odd => k_is)
    (case k_law_odd => k_is)
    (case a_law_put => k_is)
    (case l_law_put => k_is)
    (case c_law_put => k_is)
    (case k_law_put => k_is)
    (case a_law_item => k_is)
    (case l_law_item => k_is)
    (case c_law_item => k_is)
    (case k_law_item => k_is)
    (case a_law_made => k_is)
    (case l_law_made => k_is)
    (case c_law_made => k_is)
    (case k_law_made => k_is)
    (case a_law_is_page => k_is)
    (case l_law_is_page => k_is)
    (case c_law_is_page => k_is)
    (case k_law_is_page => k_is)
    (case a_law_all_made => k_is)
    (case l_law_all_made => k_is)
    (case c_law_all_made => k_is)
    (case k_law_all_made => k_is)
    (case a_law => k_is)
    (case l_law => k_is)
    (case c_law => k_is)
    (case k_law => k_is)
    (case cG => k_is)
    (case cT => k_is)
    (case a_MC => k_is)
    (case pg_MC => k_is)
    (case hd_MC => k_is)
    (case po_MC => k_is)
    (case sa_MC => k_is)
    (case mk_MC => k_is)
    (case kc_MC => k_is)
    (case cC_MC => k_is)
    (case cM_MC => k_is)
    (case kk_MC => exact if_pos (beq_self_eq_true _))
    (case n_MC__flags => k_is)
    (case a_mi => k_is)
    (case i_mi => k_is)
    (case l_mi => k_is)
    (case c_mi => k_is)
    (case k_mi => k_is)
    (case a_gi => k_is)
    (case i_gi => k_is)
    (case l_gi => k_is)
    (case c_gi => k_is)
    (case k_gi => k_is)
    (case a_ms => k_is)
    (case i_ms => k_is)
    (case l_ms => k_is)
    (case c_ms => k_is)
    (case k_ms => k_is)
    (case a_mp => k_is)
    (case i_mp => k_is)
    (case l_mp => k_is)
    (case c_mp => k_is)
    (case k_mp => k_is)
    (case a_ml => k_is)
    (case i_ml => k_is)
    (case l_ml => k_is)
    (case c_ml => k_is)
    (case k_ml => k_is)
    (case a_me => k_is)
    (case i_me => k_is)
    (case l_me => k_is)
    (case c_me => k_is)
    (case k_me => k_is)
    (case a_mt => k_is)
    (case i_mt => k_is)
    (case l_mt => k_is)
    (case c_mt => k_is)
    (case k_mt => k_is)
    (case nqM => k_is)
    (case fnG => k_is)
    (case neM => k_is)
    (case nfM => k_is)
    (case nfL => k_is)
    (case a_MD => k_is)
    (case pg_MD => k_is)
    (case hd_MD => k_is)
    (case po_MD => k_is)
    (case sa_MD => k_is)
    (case mk_MD => k_is)
    (case kc_MD => k_is)
    (case cC_MD => k_is)
    (case cM_MD => k_is)
    (case kk_MD => exact if_pos (beq_self_eq_true _))
    (case n_MD_flags => k_is)
    (case a_di => k_is)
    (case i_di => k_is)
    (case l_di => k_is)
    (case c_di => k_is)
    (case k_di => k_is)
    (case kDn => kit_is)
    (case kDb => kit_is)
    (case kDi => kit_is)
    (case kDs => kit_is)
    (case kDt => kit_is)
    (case kDl => kit_is)
    (case kLM => kit_is)
    (case a_D => k_is)
    (case rd_D => k_is)
    (case ga_D => k_is)
    (case up_D => k_is)
    (case a_W => k_is)
    (case x_W => k_is)
    (case rv_W => decide +kernel)
    (case sa_W => k_is)
    (case gt_W => k_is)
    (case gg_W => k_is)
    (case cC_W => k_is)
    (case no_W => k_is)
    (case ex_W => k_is)
    (case ty_W => k_is)
    (case kc_W => k_is)
    (case hd_W => k_is)
    (case ic_W => first | rfl | k_is)
    (case cM_W => k_is)
    (case ss_W => first | rfl | k_is)
    (case in_W => k_is)
    (case it_W => k_is)
    (case l_iW => k_is)
    (case c_iW => k_is)
    (case k_iW => k_is)
    (case a_Y => k_is)
    (case kWD => kit_is)
    (case kWV => kit_is)
    (case kWY => kit_is)
    (case mpg => k_is)
    (case z_len => k_is)
    (case z_int => k_is)
    (case z_bool => k_is)
    (case z_isinstance => k_is)
    (case z_range => k_is)
    (case z_sum => k_is)
    (case z_list => k_is)
    (case z_enumerate => k_is)
    (case z_repr => k_is)
    (case z_ValueError => k_is)
