import PyProof.Rows.All
import Wide.All
import OpenK.AllK
import Wide.FinOn
import PyProof.EqAt
import PyProof.EqKinds
import PyProof.TupleCall
import KE.KOpsOwn
import HandS.ForMost
import HandS.OwnEq
import HandS.Star
import HandS.ClsMeth
import HandS.IsInst
import HandS.Codes
import HandS.Flow
import HandS.Wide
import PySem.Challenge.RW_trustedpages_k02_moment_of_writers
import KE.KExcIs
import HandS.ExcInit
import HandS.ExcField
import HandS.ExcIs
import HandS.ExcOwn
import HandS.MakeKw
import HandS.MakeKwOnly
import HandS.Defaults
import HandS.Property
import HandS.WordsExc
import PyProof.ReprRoads
import PyProof.CallFns
import HandS.Ends
import HandS.Style
import Open.Row
import KE.RegKIsAll
set_option Elab.async false
set_option linter.all false
set_option maxRecDepth 100000
set_option maxHeartbeats 2000000
/-! own operators, static methods, an own class called with a star -/
namespace Vx
open PySem PySem.Spec PyProof.Rows L2
section
variable {P : Program} {w : World} {K : PySem.W.Frag} {mg : Str → Option Value} {base : Heap} {CX : CXT} {k : Nat} {f : Addr} {fd : FuncData} {ps : List Str} {sp : Sp}
theorem fnR (F : FnOk P w K mg base CX k f fd ps sp) (hb : L2.Binds K fd ps []) : FnR P w K mg base CX k f sp := by
  intro A outer s H us vs Q E hr e0 r hsp
  have hl := F.len _ _ _ _ hsp
  have KX : K.In s.heap := e0.mod.kin.keeps fun b o e => (e0.bs b o e).1
  refine F.run A outer s H ⟨us, []⟩ us vs Q E hr e0 ?_ r hsp
  have := hb s us KX (by rw [List.append_nil, ← r.length]; exact hl)
  simpa using this
end
section
variable {X : Cx} {CX : CXT} {k : Nat} {C f : Addr} {sp : Sp} {E : XK} {pins : List (Addr × Obj)} {σ : L2.St} {H : Hp} {s : Shared} {Q : VK}
theorem cmpBack_of {v : Value} {s' : Shared} (h : EP X pins σ Q v s') : PySem.W.CmpBack (EP X pins σ Q) v s' := by
  cases v with
  | notImplemented =>
    obtain ⟨v', H', I', r, q⟩ := h
    cases v' with
    | int i => obtain ⟨t, e⟩ := r; cases e
    | str i => obtain ⟨t, e⟩ := r; cases e
    | byt i => obtain ⟨t, e⟩ := r; cases e
    | flt i => obtain ⟨t, e⟩ := r; cases e
    | non => cases r
    | bl b => cases r
    | ref a => cases r
    | ty n => cases r
  | _ => exact h
theorem call_cmp {us : List Value} {vs : List V} (F : FnR X.prog X.w X.K X.mg X.base CX k f sp) (hr : Room k X.A) (hx : Passes CX X E) (I : L2.Inv X pins σ H s) (r : Vals vs us) (h : sp vs H Q E) :
    wpAny (model X.prog X.w) X.A (call (.ref f) us) (PySem.W.CmpBack (EP X pins σ Q)) X.xe s :=
  wpAny_mono (wpAny_call (run_fnR F hr hx I r h)) (fun _ _ z => cmpBack_of z) fun _ _ z => z
/-- o op y by the own method of o's class; y of the same class, or an int -/
def rOwn (C : Addr) (sp : Sp) (E : XK) : R2 := fun x y H Q => (∃ a dx fs, x = .ref a ∧ H a = some (.ins C dx fs)) ∧ ((∃ b dy gs, y = .ref b ∧ H b = some (.ins C dy gs)) ∨ ∃ i, y = .int i) ∧ sp [x, y] H Q E
/-- what the text says of an operator of the class at C -/
structure OpF (K : PySem.W.Frag) (C f : Addr) (op : Operator) : Prop where
  sf : PySem.W.selfFirst K C = true
  at_ : PySem.W.findIn K (.ref C) (PySem.dunder op.info.2) = some (some (.ref f))
  fn : PySem.W.isFn K (.ref f) = true
  rf : ∃ rc, PySem.W.findIn K (.ref C) (PySem.dunderR op.info.2) = some rc ∧ (rc = none ∨ ∃ g : Addr, rc = some (.ref g))
  i1 : ∃ fo, PySem.W.findIn K (.type "int") (PySem.dunder op.info.2) = some fo
  i2 : ∃ ro, PySem.W.findIn K (.type "int") (PySem.dunderR op.info.2) = some ro
  sub : PySem.W.subIn K (.type "int") (.ref C) = some false
theorem op_own {op : Operator} (O : OpF X.K C f op) (F : FnR X.prog X.w X.K X.mg X.base CX k f sp) (hr : Room k X.A) (hx : Passes CX X E) : OpR X (binaryOp op) (rOwn C sp E) := by
  intro pins s σ H x y v u Q I rx ry hq
  obtain ⟨⟨a, dx, fs, rfl, ha⟩, hy, hsp⟩ := hq
  have ev : v = Value.ref a := rx
  have cl := call_cmp F hr hx I (us := [v, u]) (vs := [V.ref a, y]) (.cons rx (.cons ry .nil)) hsp
  subst ev
  obtain ⟨mA, J, _⟩ := ins_get I.hok ha
  obtain ⟨od, J, _⟩ := J.look
  obtain ⟨m, hF⟩ := I.fr
  rcases hy with ⟨b, dy, gs, rfl, hb⟩ | ⟨i, rfl⟩
  · have eu : u = Value.ref b := ry
    subst eu
    obtain ⟨mB, J', _⟩ := ins_get I.hok hb
    obtain ⟨od', J', _⟩ := J'.look
    exact PySem.W.binop_K hF I.ok.mod.kin J J'.type O.sf O.at_ O.fn cl
  · obtain ⟨t, rfl⟩ := ry
    obtain ⟨rc, r1, r2⟩ := O.rf
    obtain ⟨fo, i1⟩ := O.i1
    obtain ⟨ro, i2⟩ := O.i2
    exact PySem.W.ksp_binT (T := "int") hF I.ok.mod.kin J rfl O.sf O.at_ O.fn r1 r2 i1 i2 O.sub cl
/-- o cmp y by the own method, y of the same class -/
def rCmp (C : Addr) (sp : Sp) (E : XK) : R2 := fun x y H Q => (∃ a dx fs, x = .ref a ∧ H a = some (.ins C dx fs)) ∧ (∃ b dy gs, y = .ref b ∧ H b = some (.ins C dy gs)) ∧ sp [x, y] H Q E
theorem op_cmpOwn {op : CmpOp} (hc : ∀ v u, compareOp op v u = richCompare op v u) (nf : PySem.W.notFirst X.K C (.ref C) = true) (at_ : PySem.W.findIn X.K (.ref C) (cmpInfo op).2.1 = some (some (.ref f))) (fn : PySem.W.isFn X.K (.ref f) = true)
    (F : FnR X.prog X.w X.K X.mg X.base CX k f sp) (hr : Room k X.A) (hx : Passes CX X E) : OpR X (compareOp op) (rCmp C sp E) := by
  intro pins s σ H x y v u Q I rx ry hq
  obtain ⟨⟨a, dx, fs, rfl, ha⟩, ⟨b, dy, gs, rfl, hb⟩, hsp⟩ := hq
  have ev : v = Value.ref a := rx
  have eu : u = Value.ref b := ry
  have cl := call_cmp F hr hx I (us := [v, u]) (vs := [V.ref a, V.ref b]) (.cons rx (.cons ry .nil)) hsp
  subst ev eu
  obtain ⟨mA, J, _⟩ := ins_get I.hok ha
  obtain ⟨od, J, _⟩ := J.look
  obtain ⟨mB, J', _⟩ := ins_get I.hok hb
  obtain ⟨od', J', _⟩ := J'.look
  obtain ⟨m, hF⟩ := I.fr
  rw [hc]
  exact PySem.W.cmp_K hr.units0 hF I.ok.mod.kin J J'.type nf at_ fn cl
/-- x in o by the own method -/
def rInOwn (C : Addr) (sp : Sp) (E : XK) (neg : Bool) : R2 := fun x y H Q => (∃ a dx fs, y = .ref a ∧ H a = some (.ins C dx fs)) ∧ sp [y, x] H (fun v H' => ∃ b, v = .bl b ∧ Q (.bl (if neg then !b else b)) H') E
theorem op_inOwn (at_ : PySem.W.findIn X.K (.ref C) "__contains__" = some (some (.ref f))) (fn : PySem.W.isFn X.K (.ref f) = true)
    (F : FnR X.prog X.w X.K X.mg X.base CX k f sp) (hr : Room k X.A) (hx : Passes CX X E) : OpR X (compareOp .In) (rInOwn C sp E false) := by
  intro pins s σ H x y v u Q I rx ry hq
  obtain ⟨⟨a, dx, fs, rfl, ha⟩, hsp⟩ := hq
  have eu : u = Value.ref a := ry
  have cl := wpAny_call (run_fnR (us := [u, v]) (vs := [V.ref a, x]) F hr hx I (.cons ry (.cons rx .nil)) hsp)
  subst eu
  obtain ⟨mA, J, _⟩ := ins_get I.hok ha
  obtain ⟨od, J, _⟩ := J.look
  obtain ⟨m, hF⟩ := I.fr
  refine PySem.W.in_K hF I.ok.mod.kin J at_ fn (wpAny_mono cl (fun r s' z => ?_) fun _ _ z => z)
  obtain ⟨v', H', I', rv, b, rfl, q⟩ := z
  have er : r = Value.bool b := rv
  subst er
  exact wpAny_truthy_bool ⟨.bl b, H', I', rfl, q⟩
end
/-! static methods -/
structure SMet (K : PySem.W.Frag) (C : Addr) (mc : Value) (m : Str) (p g : Addr) : Prop where
  at_ : PySem.W.findCls K (.ref C) mc m = some (.get (.builtin "staticmethod.__get__") (.ref p) .none (.ref C))
  rc : ∃ rest, PySem.W.recIn K p "staticmethod" = some (.ref g :: rest)
  kp : PySem.W.keepIn K (.ref g) = true
def tSMeth (C : Addr) (sp : Sp) (E : XK) (ta : TE) (t : TA) : TE := fun σ H Q => ta σ H fun x H1 => x = .ref C ∧ t σ H1 fun vs H2 => sp vs H2 Q E
section
variable {X : Cx} {CX : CXT} {k : Nat} {C p g : Addr} {mc : Value} {sp : Sp} {E : XK} {o e : Expr} {es : List Expr} {m : Str} {pos apos : Pos} {ta : TE} {t : TA} {pl : Sem Bool}
theorem pe_smeth (he : PE X o ta) (r : ClX.CRead X.K C mc) (c : SMet X.K C mc m p g) (F : FnR X.prog X.w X.K X.mg X.base CX k g sp) (hr : Room k X.A) (hx : Passes CX X E) (ha : PA X (e :: es) t)
    (hst : starEach (e :: es) X.env = (false, eval e X.env) :: starEach es X.env := by rfl) (hpl : (backTo pos (starEach es X.env)).any (·.1) = false := by rfl)
    (ht : eval (.Call (.Attribute o m apos) (e :: es) [] pos) X.env = (do
      let ov ← eval o X.env
      standAt apos.atName
      let (f, first) ← holding [ov] (getMethod ov m pl)
      callWith pos f first (backTo pos (starEach (e :: es) X.env)) (backToKw pos (keywordEach [] X.env))) := by rfl) :
    PE X (.Call (.Attribute o m apos) (e :: es) [] pos) (tSMeth C sp E ta t) := by
  refine ⟨fun pins s σ H Q I h => ?_⟩
  refine PySem.W.methodCall_KW (pl := pl) (thn (he.run pins s σ H _ I h) fun u s1 ⟨x, H1, I1, rx, ex, q⟩ => ?_) ht
  subst ex
  obtain rfl : u = Value.ref C := rx
  obtain ⟨rest, hp⟩ := c.rc
  refine PySem.W.method_cls I1.kIn r.ga (PySem.W.cls_bind I1.kIn r.rd c.at_ (wpAny_call (PySem.W.sm_get (s := { s1 with toks := s1.toks + 1 }) I1.kIn hp (PySem.W.handed_on rfl ?_))))
  have I2 : L2.Inv X pins σ H1 { s1 with toks := s1.toks + 1 } := I1.tok _
  refine PySem.W.callWith_K (h₀ := X.base) I2.ok.mod.kin c.kp (thn (ha.run pos pins _ σ H1 _ I2 q) fun us s3 ⟨vs, H2, I3, rv, q2⟩ => ⟨I3.kIn, ?_⟩) hst hpl
  exact wpAny_call (run_fnR F hr hx I3 rv q2)
end
/-! C(*xs) -/
section
variable {X : Cx} {CX : CXT} {k : Nat} {f C : Addr} {sp : Sp} {E : XK} {x : Str} {e : Expr} {te : TE} {p pos sp_ : Pos}
def tMakeS (K : PySem.W.Frag) (C : Addr) (sp : Sp) (E : XK) (te : TE) : TE := fun σ H Q => te σ H fun y H1 => ∃ a xs, y = V.ref a ∧ (SqT K H1 a xs ∨ SqL K H1 a xs) ∧ ∀ x dx, H1 x = Option.none → H1 dx = Option.none → dx ≠ x →
  sp (V.ref x :: xs) (upd (upd H1 dx (.own x)) x (.ins C dx [])) (fun v H2 => v = .non ∧ Q (.ref x) H2) E
theorem pe_makeS (M : Mk X.K C f) (F : FnR X.prog X.w X.K X.mg X.base CX k f sp) (hr : Room (k + 1) X.A) (hg : Gl X x) (hm : X.mg x = some (.ref C)) (hx : Passes CX X E) (he : PE X e te) (hd : (x == ("__debug__" : Str)) = false := by decide)
    (hst : starEach [.Starred e sp_] X.env = [(true, eval e X.env)] := by rfl) :
    PE X (.Call (.Name x p) [.Starred e sp_] [] pos) (tMakeS X.K C sp E te) := by
  refine ⟨fun pins s σ H Q I h => ?_⟩
  refine wpAny_Call_Name_kw (ld_glob I hg hm ?_ hd)
  refine PySem.W.callWith_S (h₀ := X.base) I.ok.mod.kin M.kp (thn (he.run pins s σ H _ I h) fun v s1 ⟨y, H1, I1, ry, a, xs, ey, hxs, q⟩ => ?_) hst
  subst ey
  obtain rfl : v = Value.ref a := ry
  exact StX.star_any I1 hxs fun us s2 I2 rv => ⟨I2.kIn, StX.run_makeR M F hr hx I2 rv q⟩
def tMakeZ (C : Addr) (sp : Sp) (E : XK) : TE := fun _ H Q => ∀ x dx, H x = Option.none → H dx = Option.none → dx ≠ x →
  sp [V.ref x] (upd (upd H dx (.own x)) x (.ins C dx [])) (fun v H2 => v = .non ∧ Q (.ref x) H2) E
end
end Vx
set_option Elab.async false
set_option linter.all false
set_option maxRecDepth 100000
namespace Toy
open PySem PySem.Spec PyProof.Rows L2
def topS (i : Nat) : Stmt := PySem.Challenge.pw_trustedpages_k02_moment_of_writers.main.body.getD i (.Pass ⟨0, 0, 0, 0⟩)
abbrev s_BadWriter_init : Stmt := inClass (topS 2) 0
theorem sc_BadWriter_init : FnScope ["self", "value"] ["self", "value"] (defScope s_BadWriter_init) := ⟨rfl, rfl, rfl, by decide +kernel, rfl, by decide +kernel, by decide +kernel⟩
-- BadWriter_init cells []
abbrev s_is_whole : Stmt := topS 4
theorem sc_is_whole : FnScope ["value"] ["value"] (defScope s_is_whole) := ⟨rfl, rfl, rfl, by decide +kernel, rfl, by decide +kernel, by decide +kernel⟩
-- is_whole cells []
abbrev s_is_between : Stmt := topS 5
theorem sc_is_between : FnScope ["value", "low", "high"] ["value", "low", "high"] (defScope s_is_between) := ⟨rfl, rfl, rfl, by decide +kernel, rfl, by decide +kernel, by decide +kernel⟩
-- is_between cells []
abbrev s_is_writer_number : Stmt := topS 9
theorem sc_is_writer_number : FnScope ["value"] ["value"] (defScope s_is_writer_number) := ⟨rfl, rfl, rfl, by decide +kernel, rfl, by decide +kernel, by decide +kernel⟩
-- is_writer_number cells []
abbrev s_number_of : Stmt := topS 10
theorem sc_number_of : FnScope ["value"] ["value"] (defScope s_number_of) := ⟨rfl, rfl, rfl, by decide +kernel, rfl, by decide +kernel, by decide +kernel⟩
-- number_of cells []
abbrev s_Moment_init : Stmt := inClass (topS 11) 0
theorem sc_Moment_init : FnScope ["self", "writers", "writer", "k"] ["self", "writers"] (defScope s_Moment_init) := ⟨rfl, rfl, rfl, by decide +kernel, rfl, by decide +kernel, by decide +kernel⟩
-- Moment_init cells ['writers']
abbrev s_Moment_of : Stmt := inClass (topS 11) 1
theorem sc_Moment_of : FnScope ["number", "writers", "k"] ["number"] (defScope s_Moment_of) := ⟨rfl, rfl, rfl, by decide +kernel, rfl, by decide +kernel, by decide +kernel⟩
-- Moment_of cells ['number']
abbrev s_Moment_number : Stmt := inClass (topS 11) 2
theorem sc_Moment_number : FnScope ["self"] ["self"] (defScope s_Moment_number) := ⟨rfl, rfl, rfl, by decide +kernel, rfl, by decide +kernel, by decide +kernel⟩
-- Moment_number cells []
abbrev s_Moment_writers : Stmt := inClass (topS 11) 3
theorem sc_Moment_writers : FnScope ["self", "k"] ["self"] (defScope s_Moment_writers) := ⟨rfl, rfl, rfl, by decide +kernel, rfl, by decide +kernel, by decide +kernel⟩
-- Moment_writers cells ['self']
abbrev s_Moment_len : Stmt := inClass (topS 11) 4
theorem sc_Moment_len : FnScope ["self"] ["self"] (defScope s_Moment_len) := ⟨rfl, rfl, rfl, by decide +kernel, rfl, by decide +kernel, by decide +kernel⟩
-- Moment_len cells []
abbrev s_Moment_contains : Stmt := inClass (topS 11) 5
theorem sc_Moment_contains : FnScope ["self", "value"] ["self", "value"] (defScope s_Moment_contains) := ⟨rfl, rfl, rfl, by decide +kernel, rfl, by decide +kernel, by decide +kernel⟩
-- Moment_contains cells []
abbrev s_Moment_or : Stmt := inClass (topS 11) 6
theorem sc_Moment_or : FnScope ["self", "other", "number"] ["self", "other"] (defScope s_Moment_or) := ⟨rfl, rfl, rfl, by decide +kernel, rfl, by decide +kernel, by decide +kernel⟩
-- Moment_or cells []
abbrev s_Moment_ror : Stmt := inClass (topS 11) 7
theorem sc_Moment_ror : FnScope ["self", "other"] ["self", "other"] (defScope s_Moment_ror) := ⟨rfl, rfl, rfl, by decide +kernel, rfl, by decide +kernel, by decide +kernel⟩
-- Moment_ror cells []
abbrev s_Moment_and : Stmt := inClass (topS 11) 8
theorem sc_Moment_and : FnScope ["self", "other", "number"] ["self", "other"] (defScope s_Moment_and) := ⟨rfl, rfl, rfl, by decide +kernel, rfl, by decide +kernel, by decide +kernel⟩
-- Moment_and cells []
abbrev s_Moment_rand : Stmt := inClass (topS 11) 9
theorem sc_Moment_rand : FnScope ["self", "other"] ["self", "other"] (defScope s_Moment_rand) := ⟨rfl, rfl, rfl, by decide +kernel, rfl, by decide +kernel, by decide +kernel⟩
-- Moment_rand cells []
abbrev s_Moment_sub : Stmt := inClass (topS 11) 10
theorem sc_Moment_sub : FnScope ["self", "other", "number"] ["self", "other"] (defScope s_Moment_sub) := ⟨rfl, rfl, rfl, by decide +kernel, rfl, by decide +kernel, by decide +kernel⟩
-- Moment_sub cells []
abbrev s_Moment_rsub : Stmt := inClass (topS 11) 11
theorem sc_Moment_rsub : FnScope ["self", "other", "number"] ["self", "other"] (defScope s_Moment_rsub) := ⟨rfl, rfl, rfl, by decide +kernel, rfl, by decide +kernel, by decide +kernel⟩
-- Moment_rsub cells []
abbrev s_Moment_eq : Stmt := inClass (topS 11) 12
theorem sc_Moment_eq : FnScope ["self", "other"] ["self", "other"] (defScope s_Moment_eq) := ⟨rfl, rfl, rfl, by decide +kernel, rfl, by decide +kernel, by decide +kernel⟩
-- Moment_eq cells []
abbrev s_Moment_le : Stmt := inClass (topS 11) 13
theorem sc_Moment_le : FnScope ["self", "other"] ["self", "other"] (defScope s_Moment_le) := ⟨rfl, rfl, rfl, by decide +kernel, rfl, by decide +kernel, by decide +kernel⟩
-- Moment_le cells []
abbrev s_Moment_lt : Stmt := inClass (topS 11) 14
theorem sc_Moment_lt : FnScope ["self", "other"] ["self", "other"] (defScope s_Moment_lt) := ⟨rfl, rfl, rfl, by decide +kernel, rfl, by decide +kernel, by decide +kernel⟩
-- Moment_lt cells []
abbrev s_Moment_ge : Stmt := inClass (topS 11) 15
theorem sc_Moment_ge : FnScope ["self", "other"] ["self", "other"] (defScope s_Moment_ge) := ⟨rfl, rfl, rfl, by decide +kernel, rfl, by decide +kernel, by decide +kernel⟩
-- Moment_ge cells []
abbrev s_Moment_gt : Stmt := inClass (topS 11) 16
theorem sc_Moment_gt : FnScope ["self", "other"] ["self", "other"] (defScope s_Moment_gt) := ⟨rfl, rfl, rfl, by decide +kernel, rfl, by decide +kernel, by decide +kernel⟩
-- Moment_gt cells []
abbrev s_law_pot : Stmt := topS 13
theorem sc_law_pot : FnScope ["script", "cell"] ["script"] (defScope s_law_pot) := ⟨rfl, rfl, rfl, by decide +kernel, rfl, by decide +kernel, by decide +kernel⟩
-- law_pot cells []
abbrev s_law_draw : Stmt := topS 14
theorem sc_law_draw : FnScope ["pot", "many", "cells", "at", "cell"] ["pot", "many"] (defScope s_law_draw) := ⟨rfl, rfl, rfl, by decide +kernel, rfl, by decide +kernel, by decide +kernel⟩
-- law_draw cells []
abbrev s_law_odd : Stmt := topS 15
theorem sc_law_odd : FnScope ["pot", "odd"] ["pot"] (defScope s_law_odd) := ⟨rfl, rfl, rfl, by decide +kernel, rfl, by decide +kernel, by decide +kernel⟩
-- law_odd cells []
abbrev s_law_made : Stmt := topS 16
theorem sc_law_made : FnScope ["values"] ["values"] (defScope s_law_made) := ⟨rfl, rfl, rfl, by decide +kernel, rfl, by decide +kernel, by decide +kernel⟩
-- law_made cells []
abbrev s_law_refused : Stmt := topS 17
theorem sc_law_refused : FnScope ["values", "told", "e"] ["values"] (defScope s_law_refused) := ⟨rfl, rfl, rfl, by decide +kernel, rfl, by decide +kernel, by decide +kernel⟩
-- law_refused cells []
abbrev s_law_power : Stmt := topS 18
theorem sc_law_power : FnScope ["writer", "power", "k"] ["writer"] (defScope s_law_power) := ⟨rfl, rfl, rfl, by decide +kernel, rfl, by decide +kernel, by decide +kernel⟩
-- law_power cells []
abbrev s_law : Stmt := topS 19
theorem sc_law : FnScope ["script", "pot", "k", "values", "due", "moment", "number", "turned", "strange", "bent", "firsts", "at", "writer", "value"] ["script"] (defScope s_law) := ⟨rfl, rfl, rfl, by decide +kernel, rfl, by decide +kernel, by decide +kernel⟩
-- law cells ['pot', 'values']
end Toy
set_option Elab.async false
set_option linter.all false
set_option maxRecDepth 100000
set_option maxHeartbeats 2000000
namespace Toy
open PySem PySem.Spec PyProof.Rows L2
/-! ### heaps -/
theorem same_upd {H : Hp} {p : Addr} {o : HO} (h : H p = none) : Same H (upd H p o) := fun b x e => by
  rw [upd_ne (ne_of_none e h)]
  exact e
/-! ### moments as numbers -/
def mo (n : Nat) : List (Str × V) := [("_number", .int n)]
def MoAt (C : Addr) (H : Hp) (p : Addr) (n : Nat) : Prop := n < 2147483648 ∧ ∃ dx, H p = some (.ins C dx (mo n))
theorem MoAt.same {C : Addr} {H H' : Hp} {p : Addr} {n : Nat} (h : MoAt C H p n) (s : Same H H') : MoAt C H' p n := ⟨h.1, h.2.imp fun _ e => s _ _ e⟩
def vi (k : Nat) : V := .int k
def bits (n : Nat) : List Nat := (List.range 31).filter fun k => n.testBit k
/-- what the text says of the class and the names -/
structure Txt (K : PySem.W.Frag) (mg : Str → Option Value) (C : Addr) : Prop where
  cl : Cls K C
  nN : NoAttr K C "_number"
  mgC : mg "Moment" = some (.ref C)
  len : mg "len" = none
  int : mg "int" = none
  bool : mg "bool" = none
  isi : mg "isinstance" = none
  range : mg "range" = none
  sum : mg "sum" = none
  list : mg "list" = none
  cC : PySem.W.findIn K (.ref C) "__class__" = some (some (.builtin "object.__class__"))
  cG : PySem.W.specialIn K (.builtin "object.__class__") "__get__" = some (some (.builtin "getset_descriptor.__get__"))
  cT : PySem.W.takesIn K (.builtin "object.__class__") = some true
  cM : PySem.W.mroIn K C (.type "object") = some true
  kCC : PySem.W.kitOne K (.ref C) (.ref C) = some true
  kIC : PySem.W.kitOne K (.type "int") (.ref C) = some false
  lw : ∃ t, mg "LAST_WRITER" = some (.int 30 t)
  ln : ∃ t, mg "LAST_NUMBER" = some (.int 2147483647 t)
section
variable {P : Program} {w : World} {K : PySem.W.Frag} {mg : Str → Option Value} {base : Heap} {C : Addr}
/-! ### is_whole -/
def spWhole : Sp := fun vs H Q _ => ∃ i : Int, vs = [.int i] ∧ Q (.bl true) H
theorem ok_is_whole {f : Addr} {fd : FuncData} (F : Fun K "is_whole" "is_whole" s_is_whole f fd) (T : Txt K mg C) : FnOk P w K mg base CX0 1 f fd ["value"] spWhole := by
  refine F.ok sc_is_whole (fun vs H Q E h => ?_) (fun cdv A outer s H vs Q E hr h => ?_)
  · obtain ⟨i, rfl, _⟩ := h
    rfl
  · obtain ⟨i, rfl, q⟩ := h
    refine ⟨_, pss_one (ps_ret (pe_and (pe_callB call_isi (by rfl) T.isi (by decide +kernel) (pa_cons (pv 0) (pa_cons (pe_bltn (v := .ty "int") (by rfl) T.int (by decide +kernel) rfl) pa_nil)))
      (pe_one (pe_not (pe_callB call_isi (by rfl) T.isi (by decide +kernel) (pa_cons (pv 0) (pa_cons (pe_bltn (v := .ty "bool") (by rfl) T.bool (by decide +kernel) rfl) pa_nil))))))), ?_⟩
    refine ⟨_, rfl, .int i, .ty "int", _, _, true, rfl, .ty _, .base (.int i), kit_ty (by decide +kernel), true, rfl, iteT ?_⟩
    exact ⟨_, rfl, .int i, .ty "bool", _, _, false, rfl, .ty _, .base (.int i), kit_ty (by decide +kernel), false, rfl, q⟩
/-! ### is_between -/
def spBetw : Sp := fun vs H Q _ => ∃ i l h : Int, vs = [.int i, .int l, .int h] ∧ Q (.bl (decide (l ≤ i ∧ i ≤ h))) H
theorem ok_is_between {f fW : Addr} {fd fdW : FuncData} (F : Fun K "is_between" "is_between" s_is_between f fd) (T : Txt K mg C) (FW : Fun K "is_whole" "is_whole" s_is_whole fW fdW) (bW : L2.Binds K fdW ["value"] []) (gW : mg "is_whole" = some (.ref fW)) :
    FnOk P w K mg base CX0 2 f fd ["value", "low", "high"] spBetw := by
  have GW : FnOk P w K mg base CX0 1 fW fdW ["value"] spWhole := ok_is_whole FW T
  refine F.ok sc_is_between (fun vs H Q E h => ?_) (fun cdv A outer s H vs Q E hr h => ?_)
  · obtain ⟨i, l, h, rfl, _⟩ := h
    rfl
  · obtain ⟨i, l, u, rfl, q⟩ := h
    refine ⟨_, pss_one (ps_ret (pe_and (pe_call GW hr (by rfl) gW FW.kp bW .nil pass0 (pa_cons (pv 0) pa_nil)) (pe_one (pe_chain op_le op_le (pv 1) (pv 0) (pv 2))))), ?_⟩
    refine ⟨_, rfl, i, rfl, true, rfl, iteT ?_⟩
    refine ⟨_, rfl, _, rfl, l, i, rfl, rfl, decide (l ≤ i), rfl, ?_⟩
    by_cases h1 : l ≤ i
    · rw [decide_eq_true h1]
      refine iteT ⟨_, rfl, i, u, rfl, rfl, ?_⟩
      have e : decide (l ≤ i ∧ i ≤ u) = decide (i ≤ u) := by by_cases h2 : i ≤ u <;> simp [h1, h2]
      rw [e] at q
      exact q
    · rw [decide_eq_false h1]
      have e : decide (l ≤ i ∧ i ≤ u) = false := by simp [h1]
      rw [e] at q
      exact iteF q
end
end Toy
set_option Elab.async false
set_option linter.all false
set_option maxRecDepth 100000
set_option maxHeartbeats 2000000
namespace Toy
open PySem PySem.Spec PyProof.Rows L2
/-! ### the mathematics of bits -/
theorem bits_succ (p : Nat → Bool) (i : Nat) : (List.range (i + 1)).filter p = if p i = true then (List.range i).filter p ++ [i] else (List.range i).filter p := by
  rw [List.range_succ, List.filter_append]
  by_cases h : p i = true
  · rw [if_pos h, List.filter_cons_of_pos h]
    rfl
  · rw [if_neg h, List.filter_cons_of_neg h, List.filter_nil, List.append_nil]
theorem mod_succ (n i : Nat) : n % 2 ^ (i + 1) = n % 2 ^ i + (if n.testBit i = true then 2 ^ i else 0) := by
  rw [Nat.pow_succ, Nat.mod_mul, Nat.testBit_eq_decide_div_mod_eq]
  by_cases h : n / 2 ^ i % 2 = 1
  · rw [h, if_pos (by decide), Nat.mul_one]
  · have h0 : n / 2 ^ i % 2 = 0 := by omega
    rw [h0, if_neg (by decide), Nat.mul_zero]
theorem sum_bits (n : Nat) : ∀ i : Nat, (((List.range i).filter fun k => n.testBit k).map fun k => ((2 ^ k : Nat) : Int)).sum = ((n % 2 ^ i : Nat) : Int)
  | 0 => by simp [Nat.mod_one]
  | i + 1 => by
    have ih := sum_bits n i
    rw [bits_succ, mod_succ]
    by_cases h : n.testBit i = true
    · rw [if_pos h, if_pos h, List.map_append, List.sum_append, ih]
      simp
    · rw [if_neg h, if_neg h, ih]
      simp
theorem mem_bits {n k : Nat} : k ∈ bits n ↔ k < 31 ∧ n.testBit k = true := by
  unfold bits
  rw [List.mem_filter, List.mem_range]
theorem inV_vi (k : Nat) (ws : List Nat) : inV (vi k) (ws.map vi) = decide (k ∈ ws) := by
  unfold inV
  induction ws with
  | nil => rfl
  | cons a r ih =>
    rw [List.map_cons, List.any_cons, ih]
    show ((((a : Nat) : Int) == ((k : Nat) : Int)) || decide (k ∈ r)) = decide (k ∈ a :: r)
    by_cases h : a = k
    · subst h
      simp
    · have h1 : (((a : Nat) : Int) == ((k : Nat) : Int)) = false := by
        simp
        omega
      rw [h1]
      have h2 : k ≠ a := fun e => h e.symm
      simp [h2]
theorem flat_vi (ws : List Nat) : (ws.map vi).all flatV = true := by
  rw [List.all_map]
  simp [Function.comp, vi, flatV]
theorem filter_bits_mem (n : Nat) (i : Nat) (hi : i ≤ 31) : (List.range i).filter (fun k => decide (k ∈ bits n)) = (List.range i).filter (fun k => n.testBit k) := by
  apply List.filter_congr
  intro k hk
  have h : k < 31 := Nat.lt_of_lt_of_le (List.mem_range.mp hk) hi
  by_cases b : n.testBit k = true
  · rw [b]
    exact decide_eq_true (mem_bits.mpr ⟨h, b⟩)
  · have b' : n.testBit k = false := by simpa using b
    rw [b']
    exact decide_eq_false fun z => b (mem_bits.mp z).2
theorem bit_test (n k : Nat) : ((Builtin.bitAnd ((n : Int) / 2 ^ k) 1 : Int) != 0) = n.testBit k := by
  have e : ((n : Int) / 2 ^ k) = ((n / 2 ^ k : Nat) : Int) := by simp
  rw [e, bitAnd_pp (Int.natCast_nonneg _) (by decide), Int.toNat_natCast]
  show (((n / 2 ^ k &&& 1 : Nat) : Int) != 0) = _
  rw [Nat.testBit_eq_decide_div_mod_eq, Nat.and_one_is_mod]
  by_cases h : n / 2 ^ k % 2 = 1
  · rw [h]
    decide
  · have h0 : n / 2 ^ k % 2 = 0 := by omega
    rw [h0]
    decide
section
variable {P : Program} {w : World} {K : PySem.W.Frag} {mg : Str → Option Value} {base : Heap} {C : Addr}
/-! ### is_writer_number -/
def spIsW : Sp := fun vs H Q _ => ∃ i : Int, vs = [.int i] ∧ Q (.bl (decide (0 ≤ i ∧ i ≤ 30))) H
theorem ok_is_writer {f fB : Addr} {fd fdB : FuncData} (F : Fun K "is_writer_number" "is_writer_number" s_is_writer_number f fd) (T : Txt K mg C) (GB : FnOk P w K mg base CX0 2 fB fdB ["value", "low", "high"] spBetw) (kB : PySem.W.keepIn K (.ref fB) = true)
    (bB : L2.Binds K fdB ["value", "low", "high"] []) (gB : mg "is_between" = some (.ref fB)) : FnOk P w K mg base CX0 3 f fd ["value"] spIsW := by
  obtain ⟨t, lw⟩ := T.lw
  refine F.ok sc_is_writer_number (fun vs H Q E h => ?_) (fun cdv A outer s H vs Q E hr h => ?_)
  · obtain ⟨i, rfl, _⟩ := h
    rfl
  · obtain ⟨i, rfl, q⟩ := h
    refine ⟨_, pss_one (ps_ret (pe_call GB hr (by rfl) gB kB bB .nil pass0 (pa_cons (pv 0) (pa_cons pe_int (pa_cons (pe_glob (v := .int 30) (by rfl) lw ⟨_, rfl⟩) pa_nil))))), ?_⟩
    exact ⟨_, rfl, i, 0, 30, rfl, q⟩
/-! ### _number_of -/
/-- what stands on the right: a moment or a writer, with its number -/
def Arg (C : Addr) (H : Hp) (y : V) (m : Nat) : Prop := m < 2147483648 ∧ ((∃ b, y = .ref b ∧ MoAt C H b m) ∨ ∃ k : Nat, y = vi k ∧ k ≤ 30 ∧ m = 2 ^ k)
def spNum (C : Addr) : Sp := fun vs H Q _ => ∃ (v : V) (m : Nat), vs = [v] ∧ Arg C H v m ∧ Q (vi m) H
theorem ok_number_of {f fI : Addr} {fd fdI : FuncData} (F : Fun K "_number_of" "_number_of" s_number_of f fd) (T : Txt K mg C) (GI : FnOk P w K mg base CX0 3 fI fdI ["value"] spIsW) (kI : PySem.W.keepIn K (.ref fI) = true)
    (bI : L2.Binds K fdI ["value"] []) (gI : mg "is_writer_number" = some (.ref fI)) : FnOk P w K mg base CX0 4 f fd ["value"] (spNum C) := by
  refine F.ok sc_number_of (fun vs H Q E h => ?_) (fun cdv A outer s H vs Q E hr h => ?_)
  · obtain ⟨i, m, rfl, _⟩ := h
    rfl
  · obtain ⟨v, m, rfl, ha, q⟩ := h
    refine ⟨_, pss_cons (ps_if (pt_val (pe_callB call_isi (by rfl) T.isi (by decide +kernel) (pa_cons (pv 0) (pa_cons (pe_glob (v := .ref C) (by rfl) T.mgC rfl) pa_nil)))) (pss_one (ps_ret (pe_fld (pv 0) rfl))) pss_nil)
      (pss_cons (ps_if (pt_val (pe_call GI hr (by rfl) gI kI bI .nil pass0 (pa_cons (pv 0) pa_nil))) (pss_one (ps_ret (pe_op op_shl pe_int (pv 0)))) pss_nil) (pss_one (ps_ret pe_non))), ?_⟩
    obtain ⟨hm, ⟨p, rfl, hn, dx, hp⟩ | ⟨k, rfl, hk, rfl⟩⟩ := ha
    · refine ⟨_, rfl, .ref p, .ref C, .ref C, .ref C, true, rfl, .own C, .base (.ins hp T.cl T.cC T.cG T.cT T.cM), T.kCC, true, rfl, iteT ?_⟩
      exact ⟨_, rfl, p, C, dx, _, _, rfl, hp, T.cl, T.nN, rfl, q⟩
    · refine ⟨_, rfl, .int k, .ref C, .type "int", .ref C, false, rfl, .own C, .base (.int k), T.kIC, false, rfl, iteF ?_⟩
      refine ⟨_, rfl, (k : Int), rfl, _, rfl, ?_⟩
      have e : decide ((0 : Int) ≤ (k : Int) ∧ (k : Int) ≤ 30) = true := decide_eq_true ⟨by omega, by omega⟩
      rw [e]
      refine iteT ⟨_, rfl, 1, (k : Int), rfl, rfl, ⟨by omega, by omega, by decide⟩, ?_⟩
      have e2 : ((1 : Int) * 2 ^ ((k : Int)).toNat) = ((2 ^ k : Nat) : Int) := by simp
      show Q (.int (1 * 2 ^ ((k : Int)).toNat)) H
      rw [e2]
      exact q
end
end Toy
set_option Elab.async false
set_option linter.all false
set_option maxRecDepth 100000
set_option maxHeartbeats 2000000
namespace Toy
open PySem PySem.Spec PyProof.Rows L2
theorem not_upd {H : Hp} {p q : Addr} {o : HO} (h : p ≠ q) : (upd H q o) p = H p := upd_ne h
section
variable {P : Program} {w : World} {K : PySem.W.Frag} {mg : Str → Option Value} {base : Heap} {C : Addr}
/-! ### __init__: the body, with its tuple of writers -/
def spInit (C : Addr) : Sp := fun vs H Q _ => ∃ (H0 : Hp) (p dx t : Addr) (n : Nat), vs = [.ref p, .ref t] ∧ n < 2147483648 ∧ Same H0 H ∧ H0 p = none ∧ H p = some (.ins C dx []) ∧ H t = some (.tup ((bits n).map vi)) ∧
  ∀ H', Same H0 H' → H' p = some (.ins C dx (mo n)) → Q .non H'
theorem body_init {A : Around} {outer : List Env} {s : Shared} {H : Hp} {vs : List V} {Q : VK} {E : XK} {f fI : Addr} {fdI : FuncData} {cdv : Value} (T : Txt K mg C) (GI : FnOk P w K mg base CX0 3 fI fdI ["value"] spIsW) (kI : PySem.W.keepIn K (.ref fI) = true)
    (bI : L2.Binds K fdI ["value"] []) (gI : mg "is_writer_number" = some (.ref fI)) (hr : Room 3 (A.deeper (envOfC "Moment.__init__" (defScope s_Moment_init) s.heap.objs.size f cdv))) (h : spInit C vs H Q E) :
    ∃ t, PSs (cxOf CX0 P w K mg base ["self", "writers", "writer", "k"] "Moment.__init__" (defScope s_Moment_init) f cdv A outer s H E) (defBody s_Moment_init) t ∧ t { nx := fun _ H' => Q .non H', rt := Q } (L2.start ["self", "writers", "writer", "k"] vs) H := by
  obtain ⟨tk, lw⟩ := T.lw
  obtain ⟨H0, p, dx, t, n, rfl, hn, s0, p0, hp, ht, q⟩ := h
  refine ⟨_, PSs.nox (pss_cons (ps_for PassesOwn.never rfl (pi_tup (pv 1)) (pg_name (i := 2) sc_Moment_init.nd rfl (Or.inl rfl))
      (pss_one (ps_if (pt_not (pt_val (pe_call GI hr (by rfl) gI kI bI .nil pass0 (pa_cons (pv 2) pa_nil)))) (pss_one ps_never) pss_nil)))
    (pss_one (ps_fld (pv 0) (pe_callB (cr_sum rfl) (by rfl) T.sum (by decide +kernel) (pa_cons
      (pe_lc (own := [("k", 3)]) (g := gName 3) rfl sc_Moment_init.nd (pi_range1 (by rfl) T.range (pa_cons (pe_op op_add (pe_glob (v := .int 30) (by rfl) lw ⟨_, rfl⟩) pe_int) pa_nil))
        (blkOk_by (own := [("k", 3)]) (N := ["self", "writers", "writer", "k"]) (sc := defScope s_Moment_init) (by decide +kernel)) (fun _ _ _ _ _ => pg_name (i := 3) sc_Moment_init.nd rfl (Or.inl rfl))
        (fun _ _ _ _ _ => pts_one (pt_cmpR (show OpR _ (compareOp .In) (rIn K false) from op_in_seq) (pv 3) (pv 1) (by rfl))) (fun _ _ _ _ _ => pe_op op_shl pe_int (pv 3))) pa_nil)) rfl))), ?_⟩
  have hT : SqT K H t ((bits n).map vi) := SqT.of ht
  refine ⟨.ref t, rfl, t, rfl, ⟨_, hT⟩, for_tup (K := K) (a := t) (xs := (bits n).map vi) (fun i σ H' => H' = H ∧ ∃ v, σ = [some (.ref p), some (.ref t), v, none]) ⟨rfl, none, rfl⟩ (fun i σ H' _ e => e.1 ▸ hT) ?_ ?_⟩
  · rintro i x σ H' hi ⟨rfl, v, rfl⟩
    obtain ⟨k, hk, rfl⟩ : ∃ k, k < 31 ∧ x = vi k := by
      obtain ⟨j, hj, e⟩ := List.mem_map.mp (List.mem_of_getElem? hi)
      exact ⟨j, (mem_bits.mp hj).1, e.symm⟩
    refine ⟨_, rfl, (k : Int), rfl, _, rfl, ?_⟩
    have e : decide ((0 : Int) ≤ (k : Int) ∧ (k : Int) ≤ 30) = true := decide_eq_true ⟨by omega, by omega⟩
    rw [e]
    exact iteF ⟨rfl, _, rfl⟩
  · rintro σ H' ⟨rfl, v, rfl⟩
    refine ⟨30, 1, rfl, rfl, 31, rfl, by decide, by decide, fun D hD => ?_⟩
    have sD : ∀ xs, Same H' (upd H' D (.lst xs)) := fun xs => same_upd hD
    refine lc_range (lo := 0) (n := 31) (fun i H2 => Same H' H2 ∧ H2 D = some (.lst (((List.range i).filter fun k => decide (k ∈ bits n)).map fun k => V.int ((2 ^ k : Nat) : Int)))) ⟨sD _, upd_same⟩ ?_ ?_
    · rintro i H2 hi ⟨s2, e2⟩
      refine ⟨rfl, .int (0 + (i : Int)), rfl, .ref t, rfl, t, _, rfl, .inr (SqT.of (s2 _ _ ht)), rfl, flat_vi _, _, rfl, ?_⟩
      have ei : V.int (0 + (i : Int)) = vi i := by rw [Int.zero_add]; rfl
      show if (if false = true then !inV (V.int (0 + (i : Int))) ((bits n).map vi) else inV (V.int (0 + (i : Int))) ((bits n).map vi)) = true then _ else _
      rw [ei, inV_vi]
      by_cases hm : i ∈ bits n
      · refine ite2 (fun _ => ?_) (fun z => absurd (by simpa using hm) z)
        refine ⟨vi i, rfl, 1, (i : Int), rfl, rfl, ⟨by omega, by omega, by decide⟩, _, e2, ?_, fun b o e => ?_, ?_⟩
        · rw [List.length_map]
          exact Nat.lt_of_le_of_lt (Nat.le_trans (List.length_filter_le _ _) (by rw [List.length_range]; exact Nat.le_of_lt hi)) (by decide)
        · rw [upd_ne (ne_of_none e hD)]
          exact s2 _ _ e
        · rw [upd_same, bits_succ, if_pos (decide_eq_true hm), List.map_append]
          have e3 : (1 : Int) * 2 ^ ((i : Int)).toNat = ((2 ^ i : Nat) : Int) := by simp
          show some (HO.lst (_ ++ [V.int (1 * 2 ^ ((i : Int)).toNat)])) = _
          rw [e3]
          rfl
      · refine ite2 (fun z => absurd (by simpa using z) hm) (fun _ => ⟨s2, ?_⟩)
        rw [bits_succ, if_neg (by simpa using hm)]
        exact e2
    · rintro H2 ⟨s2, e2⟩
      refine ⟨D, ((List.range 31).filter fun k => decide (k ∈ bits n)).map fun k => ((2 ^ k : Nat) : Int), rfl, SqL.of (by rw [List.map_map]; exact e2), ?_⟩
      rw [filter_bits_mem n 31 (Nat.le_refl _), sum_bits, Nat.mod_eq_of_lt (show n < 2 ^ 31 from hn)]
      refine ⟨_, rfl, p, C, dx, [], rfl, s2 _ _ hp, T.cl, T.nN, (by decide), ?_⟩
      refine q _ (fun b o e => ?_) upd_same
      have nb : b ≠ p := fun z => by rw [z, p0] at e; cases e
      rw [upd_ne nb]
      exact s2 _ _ (s0 _ _ e)
end
end Toy
set_option Elab.async false
set_option linter.all false
set_option maxRecDepth 100000
set_option maxHeartbeats 2000000
namespace Vx
open PySem PySem.Spec PyProof.Rows L2
theorem pe_fldK {X : Cx} {K : PySem.W.Frag} {e : Expr} {f : Str} {ta : TE} {pos : Pos} (hK : X.K = K) (he : PE X e ta) (hb : attributeBase e f X.env (eval e X.env) = eval e X.env) : PE X (.Attribute e f pos) (tFld K ta f) := hK ▸ pe_fld he hb
theorem op_inK {X : Cx} {K : PySem.W.Frag} (hK : X.K = K) : OpR X (compareOp .In) (rIn K false) := hK ▸ op_in_seq
theorem op_notInK {X : Cx} {K : PySem.W.Frag} (hK : X.K = K) : OpR X (compareOp .NotIn) (rIn K true) := hK ▸ op_notIn_seq
def tTru (K : PySem.W.Frag) (ta : TE) : TT := fun σ H Q => ta σ H fun x H' => ∃ k, TruV K x H' k ∧ Q k H'
theorem pt_truthK {X : Cx} {K : PySem.W.Frag} {a : Expr} {ta : TE} (hK : X.K = K) (ha : PE X a ta) (he : ∀ whole, isTrue a X.env whole = (do let v ← whole; standAt a.pos; holding [v] (truthy v))) :
    PT X a (tTru K ta) := hK ▸ pt_truth ha he
end Vx
namespace Toy
open PySem PySem.Spec PyProof.Rows L2
theorem dec_int (a b : Nat) : decide (V.int (a : Int) = V.int (b : Int)) = decide (a = b) := by
  by_cases h : a = b
  · subst h
    rw [decide_eq_true rfl, decide_eq_true rfl]
  · rw [decide_eq_false h, decide_eq_false fun z => h (by injection z with z; omega)]
theorem and_pp (n m : Nat) : Builtin.bitAnd (n : Int) (m : Int) = ((n &&& m : Nat) : Int) := by
  rw [bitAnd_pp (Int.natCast_nonneg _) (Int.natCast_nonneg _), Int.toNat_natCast, Int.toNat_natCast]
theorem or_pp (n m : Nat) : Builtin.bitOr (n : Int) (m : Int) = ((n ||| m : Nat) : Int) := by
  rw [Bits.bitOr_pp (Int.natCast_nonneg _) (Int.natCast_nonneg _), Int.toNat_natCast, Int.toNat_natCast]
theorem two_pow_lt {k : Nat} (h : k ≤ 30) : 2 ^ k < 2147483648 := Nat.lt_of_le_of_lt (Nat.pow_le_pow_right (by decide) h) (by decide)
/-- a list of the numbers for which p holds, by a comprehension -/
theorem acc_len (p : Nat → Bool) {i : Nat} (hi : i < 31) : (((List.range i).filter p).map vi).length < sizeLine := by
  rw [List.length_map]
  exact Nat.lt_of_le_of_lt (Nat.le_trans (List.length_filter_le _ _) (by rw [List.length_range]; exact Nat.le_of_lt hi)) (by decide)
section
variable {P : Program} {w : World} {K : PySem.W.Frag} {mg : Str → Option Value} {base : Heap} {C : Addr}
/-- Moment's __init__, called with the writers -/
def spMk (C : Addr) : Sp := fun vs H Q _ => ∃ (H0 : Hp) (p dx : Addr) (n : Nat), vs = .ref p :: (bits n).map vi ∧ n < 2147483648 ∧ Same H0 H ∧ H0 p = none ∧ H p = some (.ins C dx []) ∧ ∀ H', Same H0 H' → H' p = some (.ins C dx (mo n)) → Q .non H'
theorem ok_init {f fI : Addr} {fdI : FuncData} {oc kV doc pm cdv ct : Value} {od an : Option Addr} {osl : Array (Option Value)} (lk : K.lookup f = some ⟨oc, od, .func (PySem.W.fnOf "__init__" "Moment.__init__" (defArgs s_Moment_init) (defBody s_Moment_init) (defScope s_Moment_init) .none kV doc pm an cdv ct), osl⟩)
    (hcd : PySem.W.codeIn K cdv "Moment.__init__" = true) (T : Txt K mg C) (GI : FnOk P w K mg base CX0 3 fI fdI ["value"] spIsW) (kI : PySem.W.keepIn K (.ref fI) = true) (bI : L2.Binds K fdI ["value"] []) (gI : mg "is_writer_number" = some (.ref fI)) :
    FnR P w K mg base CX0 4 f (spMk C) := by
  have z : FnR P w K mg base CX0 4 f _ := StX.fn_star (sp := spInit C) (ps := ["self"]) (pv := "writers") lk hcd sc_Moment_init StX.cxUp_none (StX.bind_star1 (B := fun us => bindArgs (PySem.W.fnOf "__init__" "Moment.__init__" (defArgs s_Moment_init) (defBody s_Moment_init) (defScope s_Moment_init) .none kV doc pm an cdv ct) ⟨us, []⟩) (p1 := "self") (pv := "writers") (fun a => by rfl) (fun a r rs => by rfl)) (fun A outer s H vs Q E hr h => body_init T GI kI bI gI hr h)
  refine z.imp fun vs H Q E h => ?_
  obtain ⟨H0, p, dx, n, rfl, hn, s0, p0, hp, q⟩ := h
  refine ⟨[.ref p], (bits n).map vi, rfl, rfl, ?_, fun t ht => ?_⟩
  · rw [List.length_map]
    exact Nat.le_trans (Nat.le_trans (List.length_filter_le _ _) (by rw [List.length_range]; exact Nat.le_refl _)) (by decide : 31 ≤ sizeLine)
  · have npt : p ≠ t := ne_of_none hp ht
    exact ⟨H0, p, dx, t, n, rfl, hn, s0.trans (same_upd ht), p0, by rw [upd_ne npt]; exact hp, upd_same, q⟩
/-! ### of -/
def spOf (C : Addr) : Sp := fun vs H Q _ => ∃ n : Nat, vs = [vi n] ∧ n < 2147483648 ∧ ∀ H' p, Same H H' → H p = none → MoAt C H' p n → Q (.ref p) H'
theorem ok_of {f fB fM : Addr} {fd fdB : FuncData} (F : Fun K "of" "Moment.of" s_Moment_of f fd) (T : Txt K mg C) (GB : FnOk P w K mg base CX0 2 fB fdB ["value", "low", "high"] spBetw) (kB : PySem.W.keepIn K (.ref fB) = true)
    (bB : L2.Binds K fdB ["value", "low", "high"] []) (gB : mg "is_between" = some (.ref fB)) (M : Mk K C fM) (GM : FnR P w K mg base CX0 4 fM (spMk C)) : FnOk P w K mg base CX0 6 f fd ["number"] (spOf C) := by
  obtain ⟨tl, ln⟩ := T.ln
  obtain ⟨tw, lw⟩ := T.lw
  refine F.ok sc_Moment_of (fun vs H Q E h => ?_) (fun cdv A outer s H vs Q E hr h => ?_)
  · obtain ⟨i, rfl, _⟩ := h
    rfl
  · obtain ⟨n, rfl, hn, q⟩ := h
    have hr2 : Room 2 _ := hr.mono (by decide)
    refine ⟨_, pss_cons (ps_if (pt_not (pt_val (pe_call GB hr2 (by rfl) gB kB bB .nil pass0 (pa_cons (pv 0) (pa_cons pe_int (pa_cons (pe_glob (v := .int 2147483647) (by rfl) ln ⟨_, rfl⟩) pa_nil)))))) (pss_one ps_never) pss_nil)
      (pss_cons (ps_setLc (i := 1) (own := [("k", 2)]) (g := gName 2) rfl sc_Moment_of.nd rfl rfl (sw_true rfl rfl rfl (by decide +kernel)) (pi_range1 (by rfl) T.range (pa_cons (pe_op op_add (pe_glob (v := .int 30) (by rfl) lw ⟨_, rfl⟩) pe_int) pa_nil))
        (blkOk_by (own := [("k", 2)]) (N := ["number", "writers", "k"]) (sc := defScope s_Moment_of) (by decide +kernel)) (fun _ _ _ _ _ => pg_name (i := 2) sc_Moment_of.nd rfl (Or.inl rfl))
        (fun _ _ _ _ _ => pts_one (Vx.pt_truthK (K := K) rfl (pe_op op_and (pe_op op_shr (pv 0) (pv 2)) pe_int) (by intro _; rfl))) (fun _ _ _ _ _ => pv 2))
      (pss_one (ps_ret (Vx.pe_makeS M GM hr (by rfl) T.mgC pass0 (pv 1))))), ?_⟩
    refine ⟨_, rfl, (n : Int), 0, 2147483647, rfl, _, rfl, ?_⟩
    have e : decide ((0 : Int) ≤ (n : Int) ∧ (n : Int) ≤ 2147483647) = true := decide_eq_true ⟨by omega, by omega⟩
    rw [e]
    refine iteF ⟨30, 1, rfl, rfl, 31, rfl, by decide, by decide, fun D hD => ?_⟩
    refine lc_range (lo := 0) (n := 31) (fun i H2 => Same H H2 ∧ H2 D = some (.lst (((List.range i).filter fun k => n.testBit k).map vi))) ⟨same_upd hD, upd_same⟩ ?_ ?_
    · rintro i H2 hi ⟨s2, e2⟩
      refine ⟨rfl, vi n, rfl, .int (0 + (i : Int)), rfl, (n : Int), _, rfl, rfl, by omega, _, _, rfl, rfl, (Builtin.bitAnd ((n : Int) / 2 ^ (0 + (i : Int)).toNat) 1 != 0), rfl, ?_⟩
      have ei : (0 + (i : Int)).toNat = i := by omega
      rw [ei, bit_test]
      by_cases hm : n.testBit i = true
      · refine ite2 (fun _ => ?_) (fun z => absurd hm z)
        refine ⟨.int (0 + (i : Int)), rfl, _, e2, acc_len _ hi, fun b o e => ?_, ?_⟩
        · rw [upd_ne (ne_of_none e hD)]
          exact s2 _ _ e
        · rw [upd_same, bits_succ, if_pos hm, List.map_append, Int.zero_add]
          rfl
      · refine ite2 (fun z => absurd z hm) (fun _ => ?_)
        refine ⟨s2, ?_⟩
        rw [bits_succ, if_neg hm]
        exact e2
    · rintro H2 ⟨s2, e2⟩
      refine ⟨.ref D, rfl, D, (bits n).map vi, rfl, .inr (SqL.of e2), fun x dx nx ndx ne => ?_⟩
      refine ⟨H2, x, dx, n, rfl, hn, fun b o e => ?_, nx, upd_same, fun H3 s3 e3 => ⟨rfl, ?_⟩⟩
      · rw [upd_ne (ne_of_none e nx), upd_ne (ne_of_none e ndx)]
        exact e
      · refine q H3 x (s2.trans s3) (s2.free nx) ⟨hn, dx, e3⟩
/-! ### writers -/
def spWri (C : Addr) : Sp := fun vs H Q _ => ∃ (p : Addr) (n : Nat), vs = [.ref p] ∧ MoAt C H p n ∧ ∀ H' l, Same H H' → H l = none → H' l = some (.lst ((bits n).map vi)) → Q (.ref l) H'
theorem ok_writers {f : Addr} {fd : FuncData} (F : Fun K "writers" "Moment.writers" s_Moment_writers f fd) (T : Txt K mg C) : FnOk P w K mg base CX0 1 f fd ["self"] (spWri C) := by
  obtain ⟨tw, lw⟩ := T.lw
  refine F.ok sc_Moment_writers (fun vs H Q E h => ?_) (fun cdv A outer s H vs Q E hr h => ?_)
  · obtain ⟨p, n, rfl, _⟩ := h
    rfl
  · obtain ⟨p, n, rfl, ⟨hn, dx, hp⟩, q⟩ := h
    refine ⟨_, pss_one (ps_ret (pe_lc (own := [("k", 1)]) (g := gName 1) rfl sc_Moment_writers.nd (pi_range1 (by rfl) T.range (pa_cons (pe_op op_add (pe_glob (v := .int 30) (by rfl) lw ⟨_, rfl⟩) pe_int) pa_nil))
        (blkOk_by (own := [("k", 1)]) (N := ["self", "k"]) (sc := defScope s_Moment_writers) (by decide +kernel)) (fun _ _ _ _ _ => pg_name (i := 1) sc_Moment_writers.nd rfl (Or.inl rfl))
        (fun _ _ _ _ _ => pts_one (Vx.pt_truthK (K := K) rfl (pe_op op_and (pe_op op_shr (Vx.pe_fldK (K := K) rfl (pv 0) rfl) (pv 1)) pe_int) (by intro _; rfl))) (fun _ _ _ _ _ => pv 1))), ?_⟩
    refine ⟨30, 1, rfl, rfl, 31, rfl, by decide, by decide, fun D hD => ?_⟩
    refine lc_range (lo := 0) (n := 31) (fun i H2 => Same H H2 ∧ H2 D = some (.lst (((List.range i).filter fun k => n.testBit k).map vi))) ⟨same_upd hD, upd_same⟩ ?_ ?_
    · rintro i H2 hi ⟨s2, e2⟩
      refine ⟨rfl, .ref p, rfl, p, C, dx, _, _, rfl, s2 _ _ hp, T.cl, T.nN, rfl, .int (0 + (i : Int)), rfl, (n : Int), _, rfl, rfl, by omega, _, _, rfl, rfl, (Builtin.bitAnd ((n : Int) / 2 ^ (0 + (i : Int)).toNat) 1 != 0), rfl, ?_⟩
      have ei : (0 + (i : Int)).toNat = i := by omega
      rw [ei, bit_test]
      by_cases hm : n.testBit i = true
      · refine ite2 (fun _ => ?_) (fun z => absurd hm z)
        refine ⟨.int (0 + (i : Int)), rfl, _, e2, acc_len _ hi, fun b o e => ?_, ?_⟩
        · rw [upd_ne (ne_of_none e hD)]
          exact s2 _ _ e
        · rw [upd_same, bits_succ, if_pos hm, List.map_append, Int.zero_add]
          rfl
      · refine ite2 (fun z => absurd z hm) (fun _ => ?_)
        refine ⟨s2, ?_⟩
        rw [bits_succ, if_neg hm]
        exact e2
    · rintro H2 ⟨s2, e2⟩
      exact q H2 D s2 hD e2
end
end Toy
set_option Elab.async false
set_option linter.all false
set_option maxRecDepth 100000
set_option maxHeartbeats 2000000
namespace Toy
open PySem PySem.Spec PyProof.Rows L2
/-- the operators' text -/
structure Ops (K : PySem.W.Frag) (mg : Str → Option Value) (C fN fO pO mcG : Addr) (mc : Value) : Prop where
  gN : mg "_number_of" = some (.ref fN)
  kN : PySem.W.keepIn K (.ref fN) = true
  rd : ClX.CRead K C mc
  sm : Vx.SMet K C mc "of" pO fO
section
variable {P : Program} {w : World} {K : PySem.W.Frag} {mg : Str → Option Value} {base : Heap} {C : Addr}
/-! ### a | b, a & b -/
def spBin (C : Addr) (g : Nat → Nat → Nat) : Sp := fun vs H Q _ => ∃ (p : Addr) (n m : Nat) (y : V), vs = [.ref p, y] ∧ MoAt C H p n ∧ Arg C H y m ∧ ∀ H' q, Same H H' → H q = none → MoAt C H' q (g n m) → Q (.ref q) H'
theorem ok_or {f fN fO pO x : Addr} {mc : Value} {fd fdN : FuncData} (F : Fun K "__or__" "Moment.__or__" s_Moment_or f fd) (T : Txt K mg C) (O : Ops K mg C fN fO pO x mc) (GN : FnOk P w K mg base CX0 4 fN fdN ["value"] (spNum C)) (bN : L2.Binds K fdN ["value"] [])
    (GO : FnR P w K mg base CX0 6 fO (spOf C)) : FnOk P w K mg base CX0 7 f fd ["self", "other"] (spBin C fun n m => n ||| m) := by
  refine F.ok sc_Moment_or (fun vs H Q E h => ?_) (fun cdv A outer s H vs Q E hr h => ?_)
  · obtain ⟨p, n, m, y, rfl, _⟩ := h
    rfl
  · obtain ⟨p, n, m, y, rfl, hp, ha, q⟩ := h
    have hr4 : Room 4 _ := hr.mono (by decide)
    refine ⟨_, pss_cons (ps_set (i := 2) sc_Moment_or.nd rfl (Or.inl rfl) (pe_call GN hr4 (by rfl) O.gN O.kN bN .nil pass0 (pa_cons (pv 1) pa_nil)))
      (pss_cons (ps_if (pt_cmpR op_isN (pv 2) pe_non (nomark _)) (pss_one ps_never) pss_nil)
      (pss_one (ps_ret (Vx.pe_smeth (pe_glob (v := .ref C) (by rfl) T.mgC rfl) O.rd O.sm GO hr pass0 (pa_cons (pe_op op_or (pe_fld (pv 0) rfl) (pv 2)) pa_nil))))), ?_⟩
    refine ⟨_, rfl, y, m, rfl, ha, ?_⟩
    refine ⟨_, rfl, rfl, _, rfl, iteF ?_⟩
    obtain ⟨hn, dx, hp'⟩ := id hp
    refine ⟨rfl, _, rfl, p, C, dx, _, _, rfl, hp', T.cl, T.nN, rfl, _, rfl, (n : Int), (m : Int), rfl, rfl, n ||| m, ?_, Nat.or_lt_two_pow (n := 31) hn ha.1, fun H' r s' hr' hm' => q H' r s' hr' hm'⟩
    show [V.int (Builtin.bitOr (n : Int) (m : Int))] = [vi (n ||| m)]
    rw [or_pp]
    rfl
theorem ok_and {f fN fO pO x : Addr} {mc : Value} {fd fdN : FuncData} (F : Fun K "__and__" "Moment.__and__" s_Moment_and f fd) (T : Txt K mg C) (O : Ops K mg C fN fO pO x mc) (GN : FnOk P w K mg base CX0 4 fN fdN ["value"] (spNum C)) (bN : L2.Binds K fdN ["value"] [])
    (GO : FnR P w K mg base CX0 6 fO (spOf C)) : FnOk P w K mg base CX0 7 f fd ["self", "other"] (spBin C fun n m => n &&& m) := by
  refine F.ok sc_Moment_and (fun vs H Q E h => ?_) (fun cdv A outer s H vs Q E hr h => ?_)
  · obtain ⟨p, n, m, y, rfl, _⟩ := h
    rfl
  · obtain ⟨p, n, m, y, rfl, hp, ha, q⟩ := h
    have hr4 : Room 4 _ := hr.mono (by decide)
    refine ⟨_, pss_cons (ps_set (i := 2) sc_Moment_and.nd rfl (Or.inl rfl) (pe_call GN hr4 (by rfl) O.gN O.kN bN .nil pass0 (pa_cons (pv 1) pa_nil)))
      (pss_cons (ps_if (pt_cmpR op_isN (pv 2) pe_non (nomark _)) (pss_one ps_never) pss_nil)
      (pss_one (ps_ret (Vx.pe_smeth (pe_glob (v := .ref C) (by rfl) T.mgC rfl) O.rd O.sm GO hr pass0 (pa_cons (pe_op op_and (pe_fld (pv 0) rfl) (pv 2)) pa_nil))))), ?_⟩
    refine ⟨_, rfl, y, m, rfl, ha, ?_⟩
    refine ⟨_, rfl, rfl, _, rfl, iteF ?_⟩
    obtain ⟨hn, dx, hp'⟩ := id hp
    refine ⟨rfl, _, rfl, p, C, dx, _, _, rfl, hp', T.cl, T.nN, rfl, _, rfl, (n : Int), (m : Int), rfl, rfl, n &&& m, ?_, Nat.lt_of_le_of_lt Nat.and_le_left hn, fun H' r s' hr' hm' => q H' r s' hr' hm'⟩
    show [V.int (Builtin.bitAnd (n : Int) (m : Int))] = [vi (n &&& m)]
    rw [and_pp]
    rfl
/-! ### comparisons -/
def spCmp (C : Addr) (g : Nat → Nat → Bool) : Sp := fun vs H Q _ => ∃ (p r : Addr) (n m : Nat), vs = [.ref p, .ref r] ∧ MoAt C H p n ∧ MoAt C H r m ∧ Q (.bl (g n m)) H
def gLe (n m : Nat) : Bool := decide (n &&& m = n)
def gGe (n m : Nat) : Bool := decide (n &&& m = m)
def gLt (n m : Nat) : Bool := decide (n &&& m = n) && decide (n ≠ m)
def gGt (n m : Nat) : Bool := decide (n &&& m = m) && decide (n ≠ m)
def gEq (n m : Nat) : Bool := decide (n = m)
theorem isi_mo {p : Addr} {n : Nat} {H : Hp} (T : Txt K mg C) (h : MoAt C H p n) : TyX K H (.ref p) (.ref C) := by
  obtain ⟨_, dx, e⟩ := h
  exact .base (.ins e T.cl T.cC T.cG T.cT T.cM)
theorem ok_le {f : Addr} {fd : FuncData} (F : Fun K "__le__" "Moment.__le__" s_Moment_le f fd) (T : Txt K mg C) : FnOk P w K mg base CX0 1 f fd ["self", "other"] (spCmp C gLe) := by
  refine F.ok sc_Moment_le (fun vs H Q E h => ?_) (fun cdv A outer s H vs Q E hr h => ?_)
  · obtain ⟨p, r, n, m, rfl, _⟩ := h
    rfl
  · obtain ⟨p, r, n, m, rfl, hp, hm, q⟩ := h
    refine ⟨_, pss_cons (ps_if (pt_not (pt_val (pe_callB call_isi (by rfl) T.isi (by decide +kernel) (pa_cons (pv 1) (pa_cons (pe_glob (v := .ref C) (by rfl) T.mgC rfl) pa_nil))))) (pss_one ps_never) pss_nil)
      (pss_one (ps_ret (pe_cmpR op_eq (pe_op op_and (pe_fld (pv 0) rfl) (pe_fld (pv 1) rfl)) (pe_fld (pv 0) rfl) (nomark _)))), ?_⟩
    refine ⟨_, rfl, .ref r, .ref C, .ref C, .ref C, true, rfl, .own C, isi_mo T hm, T.kCC, true, rfl, iteF ?_⟩
    obtain ⟨_, dx, hp'⟩ := hp
    obtain ⟨_, dy, hm'⟩ := hm
    refine ⟨_, rfl, p, C, dx, _, _, rfl, hp', T.cl, T.nN, rfl, _, rfl, r, C, dy, _, _, rfl, hm', T.cl, T.nN, rfl, (n : Int), (m : Int), rfl, rfl, _, rfl, p, C, dx, _, _, rfl, hp', T.cl, T.nN, rfl, rfl, ?_⟩
    show Q (V.bl (decide (V.int (Builtin.bitAnd (n : Int) (m : Int)) = V.int (n : Int)))) H
    rw [and_pp, dec_int]
    exact q
theorem ok_ge {f : Addr} {fd : FuncData} (F : Fun K "__ge__" "Moment.__ge__" s_Moment_ge f fd) (T : Txt K mg C) : FnOk P w K mg base CX0 1 f fd ["self", "other"] (spCmp C gGe) := by
  refine F.ok sc_Moment_ge (fun vs H Q E h => ?_) (fun cdv A outer s H vs Q E hr h => ?_)
  · obtain ⟨p, r, n, m, rfl, _⟩ := h
    rfl
  · obtain ⟨p, r, n, m, rfl, hp, hm, q⟩ := h
    refine ⟨_, pss_cons (ps_if (pt_not (pt_val (pe_callB call_isi (by rfl) T.isi (by decide +kernel) (pa_cons (pv 1) (pa_cons (pe_glob (v := .ref C) (by rfl) T.mgC rfl) pa_nil))))) (pss_one ps_never) pss_nil)
      (pss_one (ps_ret (pe_cmpR op_eq (pe_op op_and (pe_fld (pv 0) rfl) (pe_fld (pv 1) rfl)) (pe_fld (pv 1) rfl) (nomark _)))), ?_⟩
    refine ⟨_, rfl, .ref r, .ref C, .ref C, .ref C, true, rfl, .own C, isi_mo T hm, T.kCC, true, rfl, iteF ?_⟩
    obtain ⟨_, dx, hp'⟩ := hp
    obtain ⟨_, dy, hm'⟩ := hm
    refine ⟨_, rfl, p, C, dx, _, _, rfl, hp', T.cl, T.nN, rfl, _, rfl, r, C, dy, _, _, rfl, hm', T.cl, T.nN, rfl, (n : Int), (m : Int), rfl, rfl, _, rfl, r, C, dy, _, _, rfl, hm', T.cl, T.nN, rfl, rfl, ?_⟩
    show Q (V.bl (decide (V.int (Builtin.bitAnd (n : Int) (m : Int)) = V.int (m : Int)))) H
    rw [and_pp, dec_int]
    exact q
/-- what the text says of a comparison's method -/
structure CmpF (K : PySem.W.Frag) (C f : Addr) (op : CmpOp) : Prop where
  nf : PySem.W.notFirst K C (.ref C) = true
  at_ : PySem.W.findIn K (.ref C) (cmpInfo op).2.1 = some (some (.ref f))
  fn : PySem.W.isFn K (.ref f) = true
theorem ok_lt {f fL : Addr} {fd : FuncData} (F : Fun K "__lt__" "Moment.__lt__" s_Moment_lt f fd) (T : Txt K mg C) (L : CmpF K C fL .LtE) (GL : FnR P w K mg base CX0 1 fL (spCmp C gLe)) : FnOk P w K mg base CX0 2 f fd ["self", "other"] (spCmp C gLt) := by
  refine F.ok sc_Moment_lt (fun vs H Q E h => ?_) (fun cdv A outer s H vs Q E hr h => ?_)
  · obtain ⟨p, r, n, m, rfl, _⟩ := h
    rfl
  · obtain ⟨p, r, n, m, rfl, hp, hm, q⟩ := h
    refine ⟨_, pss_cons (ps_if (pt_not (pt_val (pe_callB call_isi (by rfl) T.isi (by decide +kernel) (pa_cons (pv 1) (pa_cons (pe_glob (v := .ref C) (by rfl) T.mgC rfl) pa_nil))))) (pss_one ps_never) pss_nil)
      (pss_one (ps_ret (pe_and (pe_cmpR (Vx.op_cmpOwn (op := .LtE) (fun _ _ => rfl) L.nf L.at_ L.fn GL hr pass0) (pv 0) (pv 1) (nomark _)) (pe_one (pe_cmpR op_ne (pe_fld (pv 0) rfl) (pe_fld (pv 1) rfl) (nomark _)))))), ?_⟩
    refine ⟨_, rfl, .ref r, .ref C, .ref C, .ref C, true, rfl, .own C, isi_mo T hm, T.kCC, true, rfl, iteF ?_⟩
    obtain ⟨_, dx, hp'⟩ := id hp
    obtain ⟨_, dy, hm'⟩ := id hm
    refine ⟨_, rfl, _, rfl, ⟨p, dx, _, rfl, hp'⟩, ⟨r, dy, _, rfl, hm'⟩, p, r, n, m, rfl, hp, hm, gLe n m, rfl, ?_⟩
    by_cases hl : n &&& m = n
    · have e : gLe n m = true := decide_eq_true hl
      rw [e]
      refine iteT ⟨_, rfl, p, C, dx, _, _, rfl, hp', T.cl, T.nN, rfl, _, rfl, r, C, dy, _, _, rfl, hm', T.cl, T.nN, rfl, rfl, ?_⟩
      show Q (V.bl (!decide (V.int (n : Int) = V.int (m : Int)))) H
      rw [dec_int]
      have e2 : gLt n m = !decide (n = m) := by unfold gLt; rw [decide_eq_true hl]; simp
      rw [e2] at q
      exact q
    · have e : gLe n m = false := decide_eq_false hl
      rw [e]
      have e2 : gLt n m = false := by unfold gLt; rw [decide_eq_false hl]; rfl
      rw [e2] at q
      exact iteF q
theorem ok_gt {f fL : Addr} {fd : FuncData} (F : Fun K "__gt__" "Moment.__gt__" s_Moment_gt f fd) (T : Txt K mg C) (L : CmpF K C fL .GtE) (GL : FnR P w K mg base CX0 1 fL (spCmp C gGe)) : FnOk P w K mg base CX0 2 f fd ["self", "other"] (spCmp C gGt) := by
  refine F.ok sc_Moment_gt (fun vs H Q E h => ?_) (fun cdv A outer s H vs Q E hr h => ?_)
  · obtain ⟨p, r, n, m, rfl, _⟩ := h
    rfl
  · obtain ⟨p, r, n, m, rfl, hp, hm, q⟩ := h
    refine ⟨_, pss_cons (ps_if (pt_not (pt_val (pe_callB call_isi (by rfl) T.isi (by decide +kernel) (pa_cons (pv 1) (pa_cons (pe_glob (v := .ref C) (by rfl) T.mgC rfl) pa_nil))))) (pss_one ps_never) pss_nil)
      (pss_one (ps_ret (pe_and (pe_cmpR (Vx.op_cmpOwn (op := .GtE) (fun _ _ => rfl) L.nf L.at_ L.fn GL hr pass0) (pv 0) (pv 1) (nomark _)) (pe_one (pe_cmpR op_ne (pe_fld (pv 0) rfl) (pe_fld (pv 1) rfl) (nomark _)))))), ?_⟩
    refine ⟨_, rfl, .ref r, .ref C, .ref C, .ref C, true, rfl, .own C, isi_mo T hm, T.kCC, true, rfl, iteF ?_⟩
    obtain ⟨_, dx, hp'⟩ := id hp
    obtain ⟨_, dy, hm'⟩ := id hm
    refine ⟨_, rfl, _, rfl, ⟨p, dx, _, rfl, hp'⟩, ⟨r, dy, _, rfl, hm'⟩, p, r, n, m, rfl, hp, hm, gGe n m, rfl, ?_⟩
    by_cases hl : n &&& m = m
    · have e : gGe n m = true := decide_eq_true hl
      rw [e]
      refine iteT ⟨_, rfl, p, C, dx, _, _, rfl, hp', T.cl, T.nN, rfl, _, rfl, r, C, dy, _, _, rfl, hm', T.cl, T.nN, rfl, rfl, ?_⟩
      show Q (V.bl (!decide (V.int (n : Int) = V.int (m : Int)))) H
      rw [dec_int]
      have e2 : gGt n m = !decide (n = m) := by unfold gGt; rw [decide_eq_true hl]; simp
      rw [e2] at q
      exact q
    · have e : gGe n m = false := decide_eq_false hl
      rw [e]
      have e2 : gGt n m = false := by unfold gGt; rw [decide_eq_false hl]; rfl
      rw [e2] at q
      exact iteF q
theorem ok_eq {f : Addr} {fd : FuncData} (F : Fun K "__eq__" "Moment.__eq__" s_Moment_eq f fd) (T : Txt K mg C) : FnOk P w K mg base CX0 1 f fd ["self", "other"] (spCmp C gEq) := by
  refine F.ok sc_Moment_eq (fun vs H Q E h => ?_) (fun cdv A outer s H vs Q E hr h => ?_)
  · obtain ⟨p, r, n, m, rfl, _⟩ := h
    rfl
  · obtain ⟨p, r, n, m, rfl, hp, hm, q⟩ := h
    refine ⟨_, pss_one (ps_ret (pe_and (pe_callB call_isi (by rfl) T.isi (by decide +kernel) (pa_cons (pv 1) (pa_cons (pe_glob (v := .ref C) (by rfl) T.mgC rfl) pa_nil))) (pe_one (pe_cmpR op_eq (pe_fld (pv 0) rfl) (pe_fld (pv 1) rfl) (nomark _))))), ?_⟩
    refine ⟨_, rfl, .ref r, .ref C, .ref C, .ref C, true, rfl, .own C, isi_mo T hm, T.kCC, true, rfl, iteT ?_⟩
    obtain ⟨_, dx, hp'⟩ := hp
    obtain ⟨_, dy, hm'⟩ := hm
    refine ⟨_, rfl, p, C, dx, _, _, rfl, hp', T.cl, T.nN, rfl, _, rfl, r, C, dy, _, _, rfl, hm', T.cl, T.nN, rfl, rfl, ?_⟩
    show Q (V.bl (decide (V.int (n : Int) = V.int (m : Int)))) H
    rw [dec_int]
    exact q
end
end Toy
set_option Elab.async false
set_option linter.all false
set_option maxRecDepth 100000
set_option maxHeartbeats 2000000
namespace Vx
open PySem PySem.Spec PyProof.Rows L2
section
variable {X : Cx} {CX : CXT} {k : Nat} {C f : Addr} {sp : Sp} {E : XK} {pins : List (Addr × Obj)} {σ : L2.St} {H : Hp} {s : Shared} {Q : VK} {A : Around}
/-- a def called somewhere below the running body -/
theorem run_in {us : List Value} {vs : List V} (sb : Sub X k A) (F : FnR X.prog X.w X.K X.mg X.base CX k f sp) (hx : Passes CX X E) (I : L2.Inv X pins σ H s) (r : Vals vs us) (h : sp vs H Q E) :
    codeAny (model X.prog X.w) A (.call (.ref f) ⟨us, []⟩) (fun r s' => match r with | .ok (.ret v) => EP X pins σ Q v s' | .ok _ => False | .error e => X.xe e s') s := by
  have e0 : Env0 X.prog X.w X.K X.mg X.base A X.stack s H := by
    have e := I.env0
    exact ⟨by rw [sb.fr]; exact e.frames, e.mod, e.bs, e.bsz, e.funs, e.frf, e.hok, e.bare⟩
  refine codeAny_mono (F A X.stack s H us vs Q E sb.room e0 r h) fun r s' hq => ?_
  cases r with
  | error e => exact hx pins σ H s e s' I hq
  | ok fl =>
    cases fl with
    | ret u => exact I.after hq
    | next => exact False.elim hq
    | brk => exact False.elim hq
    | cont => exact False.elim hq
end
section
variable {prog : Program} {w : World} {A : Around} {E : Value → Shared → Prop} {s : Shared} {K : PySem.W.Frag} {x C L f : Addr} {h₀ : Heap} {m : Str → Option Value} {ox : Obj} {od : Option Obj} {b : Value}
open PySem.W in
theorem ne_body (hu : A.units < cLine) (X : K.In s.heap) (I : InstAt s.heap x ox C od) (he : findIn K (.ref C) "__eq__" = some (some (.ref f))) (hf : isFn K (.ref f) = true) {Q : Value → Shared → Prop}
    (h : wpAny (model prog w) A (call (.ref f) [.ref x, b]) (fun v s' => ∃ r, v = .bool r ∧ Q (.bool (!r)) s') E s) :
    wpAny (model prog w) A (Builtin.«object.__ne__» ⟨[.ref x, b], []⟩) (fun fin s' => ∃ v, fin = .done (.ret v) ∧ Q v s') E s := by
  unfold Builtin.«object.__ne__»
  obtain ⟨hh, g, d, t, os⟩ := s
  have st : wpAny (model prog w) A (callSpecialIfBound? (.ref x) "__eq__" [b]) (fun r s' => ∃ v, r = some (.bool v) ∧ Q (.bool (!v)) s') E ⟨hh, g, d, t, os⟩ :=
    ifBound_K X I he hf (wpAny_mono h (fun v s' hv => by obtain ⟨r, rfl, q⟩ := hv; exact ⟨r, rfl, q⟩) fun _ _ z => z)
  repeat (first | with_reducible refine wpAny_cRoomFor hu ?_ | with_reducible refine wpAny_bind (wpAny_mono st (fun r s' hr => ?_) fun _ _ z => z) | wp_step)
  obtain ⟨v, rfl, q⟩ := hr
  refine wpAny_bind (wpAny_truthy_bool ?_)
  exact wpAny_pure ⟨_, rfl, q⟩
open PySem.W in
theorem ne_K {Q : Value → Shared → Prop} {tb : Value} (hu : A.units + 1 < cLine) (F : Fr h₀ L s.heap m) (X₀ : K.In h₀) (I : InstAt s.heap x ox C od) (hb : Looks (model prog w) s.heap (typeOf b) tb) (hn : notFirst K C tb = true)
    (hs : findIn K (.ref C) "__ne__" = some (some (.builtin "object.__ne__"))) (he : findIn K (.ref C) "__eq__" = some (some (.ref f))) (hf : isFn K (.ref f) = true) (ho : mroIn K C (.type "object") = some true)
    (h : wpAny (model prog w) A.in1 (call (.ref f) [.ref x, b]) (fun v s' => ∃ r, v = .bool r ∧ Q (.bool (!r)) s') E s) : wpAny (model prog w) A (richCompare .NotEq (.ref x) b) Q E s := by
  have X := X₀.keeps F.keep
  have hu0 : A.units < cLine := Nat.lt_trans (Nat.lt_succ_self _) hu
  have cb : wpAny (model prog w) A (call (.builtin "object.__ne__") ([.ref x] ++ [b])) (fun v s' => ∃ r, v = .bool r ∧ Q v s') E s := by
    refine wpAny_call (codeAny_call_builtin PySem.F.cmp_object.ne.plain PySem.F.cmpEntry_ne (check_slot PySem.F.cmpKind_ne PySem.F.cmpSplit_ne (I.type.andThen (looks_mroIn X ho)) (PySem.F.cmpArgs_ne _ _) ?_))
    have z : wpAny (model prog w) A.in1 (Builtin.«object.__ne__» ⟨[.ref x, b], []⟩) (fun fin s' => ∃ v, fin = .done (.ret v) ∧ ∃ r, v = .bool r ∧ Q v s') E s :=
      ne_body (Q := fun v s' => ∃ r, v = .bool r ∧ Q v s') (A := A.in1) hu X I he hf (wpAny_mono h (fun v s' hv => by obtain ⟨r, rfl, q⟩ := hv; exact ⟨r, rfl, _, rfl, q⟩) fun _ _ z => z)
    refine wpAny_mono z (fun fin s' hv => ?_) fun _ _ y => y
    obtain ⟨v, rfl, r, rfl, q⟩ := hv
    exact ⟨r, rfl, q⟩
  have one : wpAny (model prog w) A (tryCompare (.ref x) "__ne__" b) (fun r s' => ∃ v, r = some v ∧ Q v s') E s := by
    unfold tryCompare
    refine wpAny_bind ?_
    simp only [callSpecialIfBound?, bindSpecialIfBound?]
    refine wpAny_holding (wpAny_bind (wpAny_bind (wpAny_bind (I.type.here ((looks_findIn X hs).here ?_)))))
    simp only [PySem.F.cmp_object.ne.bind]
    refine wpAny_bind (wpAny_askSetting (wpAny_ite ?_))
    have fin : wpAny (model prog w) A (call (.builtin "object.__ne__") ([.ref x] ++ [b]) >>= fun v => pure (some v)) (fun r s' => ∃ v, r = some (.bool v) ∧ Q (.bool v) s') E s :=
      wpAny_bind (wpAny_mono cb (fun v s' h' => by obtain ⟨r, rfl, q⟩ := h'; exact wpAny_pure ⟨r, rfl, q⟩) fun _ _ h' => h')
    have fin2 := wpAny_mono fin (Q' := fun r s' => wpAny (model prog w) A (match r with | some .notImplemented => pure none | none => pure none | some v => pure (some v)) (fun r s' => ∃ v, r = some v ∧ Q v s') E s') (fun r s' h' => by obtain ⟨v, rfl, q⟩ := h'; exact wpAny_pure ⟨_, rfl, q⟩) fun _ _ z => z
    split
    · exact wpAny_bind (wpAny_pure (wpAny_pure fin2))
    · exact wpAny_tryCatch (wpAny_bind (wpAny_pure (wpAny_pure fin2)))
  unfold richCompare
  simp only [oneThing_ref]
  refine wpAny_holding (wpAny_bind (wpAny_cRoomFor hu0 ?_))
  refine wpAny_bind (I.type.here (wpAny_bind (hb.here ?_)))
  split
  · rename_i q
    have e : subIn K tb (.ref C) = some false := by
      rcases Bool.or_eq_true_iff.mp hn with e | e
      · rw [beq_iff_eq.mp e] at q; simp at q
      · exact beq_iff_eq.mp e
    refine wpAny_bind ((looks_subIn X e).here ?_)
    simp only [Bool.false_eq_true, if_false]
    refine wpAny_bind (wpAny_mono one (fun r s' z => ?_) fun _ _ e => e)
    obtain ⟨v, rfl, hq⟩ := z
    exact wpAny_pure hq
  · refine wpAny_bind (wpAny_pure ?_)
    simp only [Bool.false_eq_true, if_false]
    refine wpAny_bind (wpAny_mono one (fun r s' z => ?_) fun _ _ e => e)
    obtain ⟨v, rfl, hq⟩ := z
    exact wpAny_pure hq
end
section
variable {X : Cx} {CX : CXT} {k : Nat} {C f : Addr} {sp : Sp} {E : XK}
/-- o != y: not o == y, by the own == -/
def rNeOwn (C : Addr) (sp : Sp) (E : XK) : R2 := fun x y H Q => (∃ a dx fs, x = .ref a ∧ H a = some (.ins C dx fs)) ∧ (∃ b dy gs, y = .ref b ∧ H b = some (.ins C dy gs)) ∧ sp [x, y] H (fun v H' => ∃ r, v = .bl r ∧ Q (.bl (!r)) H') E
theorem op_neOwn (nf : PySem.W.notFirst X.K C (.ref C) = true) (hs : PySem.W.findIn X.K (.ref C) "__ne__" = some (some (.builtin "object.__ne__"))) (he : PySem.W.findIn X.K (.ref C) "__eq__" = some (some (.ref f))) (fn : PySem.W.isFn X.K (.ref f) = true)
    (ho : PySem.W.mroIn X.K C (.type "object") = some true) (F : FnR X.prog X.w X.K X.mg X.base CX k f sp) (hr : Room (k + 1) X.A) (hx : Passes CX X E) : OpR X (compareOp .NotEq) (rNeOwn C sp E) := by
  intro pins s σ H x y v u Q I rx ry hq
  obtain ⟨⟨a, dx, fs, rfl, ha⟩, ⟨b, dy, gs, rfl, hb⟩, hsp⟩ := hq
  have ev : v = Value.ref a := rx
  have eu : u = Value.ref b := ry
  have sb : Sub X k X.A.in1 := (⟨hr, rfl⟩ : Sub X (k + 1) X.A).in1
  have cl := wpAny_call (run_in (us := [v, u]) (vs := [V.ref a, V.ref b]) sb F hx I (.cons rx (.cons ry .nil)) hsp)
  subst ev eu
  obtain ⟨mA, J, _⟩ := ins_get I.hok ha
  obtain ⟨od, J, _⟩ := J.look
  obtain ⟨mB, J', _⟩ := ins_get I.hok hb
  obtain ⟨od', J', _⟩ := J'.look
  obtain ⟨m, hF⟩ := I.fr
  show wpAny (model X.prog X.w) X.A (richCompare .NotEq (.ref a) (.ref b)) (EP X pins σ Q) X.xe s
  refine ne_K (hu_of hr) hF I.ok.mod.kin J J'.type nf hs he fn ho (wpAny_mono cl (fun v s' hv => ?_) fun _ _ z => z)
  obtain ⟨v', H', I', rv, r, rfl, q⟩ := hv
  exact ⟨r, rv, .bl (!r), H', I', rfl, q⟩
end
end Vx
set_option Elab.async false
set_option linter.all false
set_option maxRecDepth 100000
set_option maxHeartbeats 2000000
namespace Toy
open PySem PySem.Spec PyProof.Rows L2
/-! ### the pot of drawn numbers -/
def Pot (H : Hp) (p c : Addr) : Prop := ∃ (cs : List Int) (at_ : Nat) (x : Int), H p = some (.lst [.ref c, .int at_, .int x]) ∧ H c = some (.lst (cs.map V.int)) ∧ cs.length ≤ 63 ∧ 0 ≤ x ∧ x < 2147483647
theorem Pot.ne {H : Hp} {p c : Addr} (h : Pot H p c) : p ≠ c := by
  obtain ⟨cs, a, x, h1, h2, _⟩ := h
  intro e
  rw [e, h2] at h1
  injection h1 with h1
  injection h1 with h1
  cases cs with
  | nil => cases h1
  | cons y r => injection h1 with z; cases z
theorem Pot.same {H H' : Hp} {p c : Addr} (h : Pot H p c) (s : Same H H') : Pot H' p c := by
  obtain ⟨cs, a, x, h1, h2, r⟩ := h
  exact ⟨cs, a, x, s _ _ h1, s _ _ h2, r⟩
/-- all but the pot stays -/
def Kept (p c : Addr) (H H' : Hp) : Prop := ∀ b o, b ≠ p → b ≠ c → H b = some o → H' b = some o
theorem Kept.rfl' {p c : Addr} {H : Hp} : Kept p c H H := fun _ _ _ _ e => e
theorem Kept.trans {p c : Addr} {H H1 H2 : Hp} (a : Kept p c H H1) (b : Kept p c H1 H2) : Kept p c H H2 := fun x o n m e => b x o n m (a x o n m e)
theorem Kept.of_same {p c : Addr} {H H' : Hp} (s : Same H H') : Kept p c H H' := fun b o _ _ e => s b o e
theorem ixN_nat {n k : Nat} (h : k < n) : ixN n (k : Int) = some k := by
  unfold ixN
  rw [if_pos (Int.natCast_nonneg _), if_pos (by omega), Int.toNat_natCast]
theorem cut63 {xs : List V} (h : xs.length ≤ 63) : cutV xs none (some 63) = xs := by
  unfold cutV
  rw [HT.sIx_none, show HT.sIx xs.length xs.length (some 63) = min 63 xs.length from HT.sIx_nat xs.length xs.length 63, List.drop_zero, Nat.sub_zero]
  exact List.take_of_length_le (by omega)
section
variable {P : Program} {w : World} {K : PySem.W.Frag} {mg : Str → Option Value} {base : Heap} {C : Addr}
def spPot (K : PySem.W.Frag) : Sp := fun vs H Q _ => ∃ (a : Addr) (ns : List Int), vs = [.ref a] ∧ SqL K H a (ns.map V.int) ∧ ns.length ≤ 63 ∧ ∀ H' p c, Same H H' → H p = none → H c = none → Pot H' p c → Q (.ref p) H'
theorem ok_pot {f : Addr} {fd : FuncData} (F : Fun K "_law_pot" "_law_pot" s_law_pot f fd) (mi : mg "int" = none) : FnOk P w K mg base CX0 1 f fd ["script"] (spPot K) := by
  refine F.ok sc_law_pot (fun vs H Q E h => ?_) (fun cdv A outer s H vs Q E hr h => ?_)
  · obtain ⟨a, ns, rfl, _⟩ := h
    rfl
  · obtain ⟨a, ns, rfl, hS, hn, q⟩ := h
    refine ⟨_, pss_one (ps_ret (pe_lst (pa_cons (pe_lc (own := [("cell", 1)]) (g := gName 1) (tt := tYes) rfl sc_law_pot.nd (pi_list (pe_slice sl_list (pv 0) po_none (po_some pe_int)))
        (blkOk_by (own := [("cell", 1)]) (N := ["script", "cell"]) (sc := defScope s_law_pot) (by decide +kernel)) (fun _ _ _ _ _ => pg_name (i := 1) sc_law_pot.nd rfl (Or.inl rfl))
        (fun _ _ _ _ _ => pts_nil) (fun _ _ _ _ _ => pe_callTy call_int1 (by rfl) mi (by decide +kernel) (pa_cons (pv 1) pa_nil))) (pa_cons pe_int (pa_cons pe_int pa_nil))))), ?_⟩
    refine ⟨.ref a, rfl, 63, rfl, a, _, rfl, hS, fun b nb => ?_⟩
    rw [cut63 (by rw [List.length_map]; exact hn)]
    refine ⟨b, rfl, ⟨_, SqL.of upd_same⟩, fun D hD => ?_⟩
    have hb : (upd H b (.lst (ns.map V.int))) b = some (.lst (ns.map V.int)) := upd_same
    have s1 : Same H (upd H b (.lst (ns.map V.int))) := same_upd nb
    have hD0 : H D = none := s1.free hD
    refine lc_list (K := K) (a := b) (xs := ns.map V.int) (fun i H2 => Same (upd H b (.lst (ns.map V.int))) H2 ∧ H2 D = some (.lst ((ns.take i).map V.int))) ⟨same_upd hD, upd_same⟩ (fun i H2 _ z => SqL.of (z.1 _ _ hb)) ?_ ?_
    · rintro i x H2 hx ⟨s2, e2⟩
      obtain ⟨n, hi, rfl⟩ : ∃ n, ns[i]? = some n ∧ x = V.int n := by
        rw [List.getElem?_map] at hx
        cases e : ns[i]? with
        | none => rw [e] at hx; cases hx
        | some n => rw [e] at hx; exact ⟨n, rfl, (Option.some.inj hx).symm⟩
      refine ⟨rfl, ?_⟩
      refine ⟨_, rfl, .inl ⟨n, rfl, _, e2, ?_, fun d o e => ?_, ?_⟩⟩
      · rw [List.length_map, List.length_take]
        exact Nat.lt_of_le_of_lt (Nat.le_trans (Nat.min_le_right _ _) hn) (by decide)
      · rw [upd_ne (ne_of_none e hD)]
        exact s2 _ _ e
      · rw [upd_same, List.take_add_one, hi, List.map_append]
        rfl
    · rintro H2 ⟨s2, e2⟩
      rw [List.length_map, List.take_length] at e2
      refine ⟨(by show 3 ≤ sizeLine; decide), fun p np => ?_⟩
      have s3 : Same H (upd H2 p (.lst [.ref D, .int 0, .int 7])) := s1.trans (s2.trans (same_upd np))
      have hDp : D ≠ p := ne_of_none e2 np
      refine q _ p D s3 ((s1.trans s2).free np) hD0 ⟨ns, 0, 7, upd_same, by rw [upd_ne hDp]; exact e2, hn, by decide, by decide⟩
/-! ### a draw -/
def spDraw : Sp := fun vs H Q _ => ∃ (p c : Addr) (m : Int), vs = [.ref p, .int m] ∧ Pot H p c ∧ 0 < m ∧ m ≤ 2147483648 ∧ ∀ H' r, Pot H' p c → Kept p c H H' → 0 ≤ r → r < m → Q (.int r) H'
theorem fmod_lt {a m : Int} (h : 0 < m) : 0 ≤ a.fmod m ∧ a.fmod m < m := by
  rw [Int.fmod_eq_emod_of_nonneg _ (Int.le_of_lt h)]
  exact ⟨Int.emod_nonneg _ (by omega), Int.emod_lt_of_pos _ h⟩
def nxt (x cell : Int) : Int := (x * 48271 + cell * 69621 + 11).fmod 2147483647
theorem ok_draw {f : Addr} {fd : FuncData} (F : Fun K "_law_draw" "_law_draw" s_law_draw f fd) (mi : mg "int" = none) (ml : mg "len" = none) : FnOk P w K mg base CX0 1 f fd ["pot", "many"] spDraw := by
  refine F.ok sc_law_draw (fun vs H Q E h => ?_) (fun cdv A outer s H vs Q E hr h => ?_)
  · obtain ⟨p, c, m, rfl, _⟩ := h
    rfl
  · obtain ⟨p, c, m, rfl, hP, hm, hm2, q⟩ := h
    refine ⟨_, pss_cons (ps_set (i := 2) sc_law_draw.nd rfl (Or.inl rfl) (pe_ix ix_list (pv 0) pe_int (fun _ _ => rfl)))
      (pss_cons (ps_set (i := 3) sc_law_draw.nd rfl (Or.inl rfl) (pe_ix ix_list (pv 0) pe_int (fun _ _ => rfl)))
      (pss_cons (ps_set (i := 4) sc_law_draw.nd rfl (Or.inl rfl) pe_int)
      (C8.pss_cut (ps_if (pt_cmpR op_lt (pv 3) (pe_callB call_len_seq (by rfl) ml PySem.boot_len (pa_cons (pv 2) pa_nil)) (nomark _))
        (pss_cons (ps_set (i := 4) sc_law_draw.nd rfl (Or.inl rfl) (pe_ix ix_list (pv 2) (pv 3) (fun _ _ => rfl)))
        (pss_cons (ps_if (pt_cmpR op_ge (pv 4) (pe_op op_pow pe_int pe_int) (nomark _))
          (pss_cons (ps_asg (pe_op op_fdivW (pv 4) (pv 1)) (pg_sub (pv 2) (pv 3) set_list))
          (pss_one (ps_ret (pe_op op_modN (pe_callTy call_int1 (by rfl) mi (by decide +kernel) (pa_cons (pv 4) pa_nil)) (pv 1))))) pss_nil)
        (pss_one (ps_asg (pe_op op_add (pv 3) pe_int) (pg_sub (pv 0) pe_int set_list))))) pss_nil)
      (pss_cons (ps_asg (pe_op op_modN (pe_callTy call_int1 (by rfl) mi (by decide +kernel) (pa_cons (pe_op op_add (pe_op op_add (pe_op op_mul (pe_ix ix_list (pv 0) pe_int (fun _ _ => rfl)) pe_int) (pe_op op_mul (pv 4) pe_int)) pe_int) pa_nil)) pe_int) (pg_sub (pv 0) pe_int set_list))
      (pss_one (ps_ret (pe_op op_modN (pe_callTy call_int1 (by rfl) mi (by decide +kernel) (pa_cons (pe_op op_add (pe_op op_fdivN (pe_op op_mul (pe_ix ix_list (pv 0) pe_int (fun _ _ => rfl)) pe_int) pe_int) (pe_ix ix_list (pv 0) pe_int (fun _ _ => rfl))) pa_nil)) (pv 1)))))))), ?_⟩
    have pc : p ≠ c := hP.ne
    obtain ⟨cs, at_, x, h1, h2, hl, x0, x1⟩ := hP
    refine ⟨_, rfl, p, _, _, _, rfl, rfl, SqL.of h1, rfl, ?_⟩
    refine ⟨_, rfl, p, _, _, _, rfl, rfl, SqL.of h1, rfl, ?_⟩
    refine ⟨fun σ' H' => ∃ (a : Nat) (cell : Int), σ' = [some (.ref p), some (.int m), some (.ref c), some (.int at_), some (.int cell)] ∧ H' p = some (.lst [.ref c, .int a, .int x]) ∧ H' c = some (.lst (cs.map V.int)) ∧ Kept p c H H', ?_, ?_⟩
    · refine ⟨_, rfl, _, rfl, c, _, rfl, .inl (SqL.of h2), _, _, rfl, rfl, _, rfl, ?_⟩
      rw [List.length_map]
      refine ite2 (fun hlt => ?_) (fun _ => ⟨at_, 0, rfl, h1, h2, Kept.rfl'⟩)
      have hi : at_ < cs.length := by have := of_decide_eq_true hlt; omega
      have hg : (cs.map V.int)[at_]? = some (.int cs[at_]) := by rw [List.getElem?_map, List.getElem?_eq_getElem hi]; rfl
      refine ⟨_, rfl, _, rfl, c, _, _, _, rfl, rfl, SqL.of h2, atI_nat hg, ?_⟩
      refine ⟨_, rfl, 10, 18, rfl, rfl, ⟨by decide, by decide, by decide⟩, _, _, rfl, rfl, _, rfl, ?_⟩
      refine ite2 (fun _ => ?_) (fun _ => ?_)
      · refine ⟨_, rfl, _, rfl, _, _, rfl, rfl, wide_div (b := 32) hm (by omega) (by decide) (by decide), _, rfl, _, rfl, c, _, _, at_, rfl, rfl, h2, ixN_nat (by rw [List.length_map]; exact hi), ?_⟩
        refine ⟨_, rfl, .inl ⟨_, rfl, _, rfl, _, _, rfl, rfl, by omega, ?_⟩⟩
        have f := fmod_lt (a := cs[at_]) hm
        refine q _ _ ⟨cs.set at_ (cs[at_] / m), at_, x, by rw [upd_ne pc]; exact h1, ?_, by rw [List.length_set]; exact hl, x0, x1⟩ (fun b o n1 n2 e => ?_) f.1 f.2
        · rw [upd_same, List.map_set]
        · rw [upd_ne n2]
          exact e
      · refine ⟨_, rfl, _, _, rfl, rfl, _, rfl, p, _, _, 1, rfl, rfl, h1, rfl, ?_⟩
        refine ⟨at_ + 1, cs[at_], rfl, ?_, by rw [upd_ne pc.symm]; exact h2, fun b o n1 n2 e => ?_⟩
        · rw [upd_same]
          rfl
        · rw [upd_ne n1]
          exact e
    · rintro σ' H1 ⟨a, cell, rfl, g1, g2, kp⟩
      refine ⟨_, rfl, p, _, _, _, rfl, rfl, SqL.of g1, rfl, _, _, rfl, rfl, .inl ⟨by omega, by omega⟩, _, rfl, _, _, rfl, rfl, .inr ⟨by decide, by decide⟩, _, _, rfl, rfl, _, _, rfl, rfl, .inl ⟨_, rfl, _, _, rfl, rfl, (show (2147483647 : Int) ≠ 0 by decide), _, rfl, p, _, _, 2, rfl, rfl, g1, rfl, ?_⟩⟩
      have fy : 0 ≤ nxt x cell ∧ nxt x cell < 2147483647 := fmod_lt (by decide)
      have g3 : (upd H1 p (.lst ([V.ref c, V.int a, V.int x].set 2 (V.int (nxt x cell))))) p = some (.lst [V.ref c, V.int a, V.int (nxt x cell)]) := upd_same
      refine ⟨_, rfl, p, _, _, _, rfl, rfl, SqL.of g3, rfl, _, _, rfl, rfl, .inl ⟨by omega, by omega⟩, _, _, rfl, rfl, ⟨by decide, by decide⟩, _, rfl, p, _, _, _, rfl, rfl, SqL.of g3, rfl, _, _, rfl, rfl, .inl ⟨_, rfl, _, rfl, _, _, rfl, rfl, by omega, ?_⟩⟩
      have f := fmod_lt (a := (nxt x cell * 16807).fdiv 128 + nxt x cell) hm
      refine q _ _ ⟨cs, a, nxt x cell, g3, by rw [upd_ne pc.symm]; exact g2, hl, fy.1, fy.2⟩ (fun b o n1 n2 e => ?_) f.1 f.2
      rw [upd_ne n1]
      exact kp b o n1 n2 e
end
end Toy
set_option Elab.async false
set_option linter.all false
set_option maxRecDepth 100000
set_option maxHeartbeats 2000000
/-! own errors: a base's __init__ said by the base's name; isinstance of what was caught; makings that may raise, within a try -/
namespace Vx
open PySem PySem.Spec PyProof.Rows L2
/-- the class at D, above an own error, whose __init__ is ValueError's -/
structure UpC (K : PySem.W.Frag) (D : Addr) (mc : Value) : Prop where
  rd : ClX.CRead K D mc
  ini : PySem.W.findCls K (.ref D) mc "__init__" = some (.val (.builtin "ValueError.__init__"))
def tUp (K : PySem.W.Frag) (D : Addr) (ta : TE) (t : TA) : TE := fun σ H Q => ta σ H fun x H1 => x = .ref D ∧ tVeI K t σ H1 Q
section
variable {X : Cx} {D : Addr} {mc : Value} {o e : Expr} {es : List Expr} {pos apos : Pos} {ta : TE} {t : TA} {pl : Sem Bool}
theorem pe_up (hO : PE X o ta) (U : UpC X.K D mc) (hA : PA X (e :: es) t) (h1 : starEach (e :: es) X.env = (false, eval e X.env) :: starEach es X.env := by rfl) (h2 : (backTo pos (starEach es X.env)).any (·.1) = false := by rfl)
    (hW : eval (.Call (.Attribute o "__init__" apos) (e :: es) [] pos) X.env = (do
      let ov ← eval o X.env
      standAt apos.atName
      let (f, first) ← holding [ov] (getMethod ov "__init__" pl)
      callWith pos f first (backTo pos (starEach (e :: es) X.env)) (backToKw pos (keywordEach [] X.env))) := by rfl) : PE X (.Call (.Attribute o "__init__" apos) (e :: es) [] pos) (tUp X.K D ta t) := by
  refine ⟨fun pn s σ H Q I h => PySem.W.methodCall_KW (pl := pl) (thn (hO.run pn s σ H _ I h) fun u s1 hh => ?_) hW⟩
  obtain ⟨x, H1, I1, rx, ex, q⟩ := hh
  subst ex
  obtain rfl : u = Value.ref D := rx
  refine PySem.W.method_cls I1.kIn U.rd.ga (PySem.W.cls_value I1.kIn U.rd.rd U.ini rfl ?_)
  refine PyProof.Rows.callWith_method1 (thn (hA.run pos pn _ σ H1 _ (I1.tok _) q) fun us s2 hh => ?_) h1 h2
  obtain ⟨vs, H2, I2, r2, a, C, ws, ev, hl, T, ea, q2⟩ := hh
  subst ev
  cases r2 with
  | @cons _ u0 _ ur ra rb =>
    obtain rfl : u0 = Value.ref a := ra
    exact oinit_ok T I2 ea (by rw [← Paired.length rb, sizeLine_eq]; omega) fun s3 J => ⟨.non, H2, J, rfl, q2⟩
end
/-! isinstance(e, c), e a caught error with its dict -/
structure ExcX (K : PySem.W.Frag) (C : Addr) : Prop where
  cl : (PySem.W.clsIn K C).isSome = true
  ga : PySem.W.findIn K (.ref C) "__getattribute__" = some (some (.builtin "BaseException.__getattribute__"))
  gt : PySem.W.findIn K (.ref C) "__getattr__" = some none
  sb : PySem.W.subIn K (.ref C) (.type "BaseException") = some true
  ac : PySem.W.findIn K (.ref C) "__class__" = some (some (.builtin "object.__class__"))
  gn : PySem.W.specialIn K (.builtin "object.__class__") "__get__" = some (some (.builtin "getset_descriptor.__get__"))
  tk : PySem.W.takesIn K (.builtin "object.__class__") = some true
  mo : PySem.W.mroIn K C (.type "object") = some true
def rIsX (K : PySem.W.Frag) (C a : Addr) (cls : Value) (d : Option Addr) : List V → Hp → VK → Prop := fun xs H Q => cls = .ref C ∧ ∃ (dd : Addr) (fs : List (Str × V)) (c : V) (cv : Value) (b : Bool), d = some dd ∧ H dd = some (.xd fs) ∧ xs = [.ref a, c] ∧ (∀ u, RelV c u → u = cv) ∧ PySem.W.kitOne K (.ref C) cv = some b ∧ Q (.bl b) H
theorem call_isX {X : Cx} {a C : Addr} {oe : Obj} {cls : Value} {d : Option Addr} {pn : List (Addr × Obj)} (T : ExcX X.K C) (hz : Zc cls d oe) (hf : ∃ vs, oe.data = .fields vs) : CallR (X.suite a ((a, oe) :: pn)) (.builtin "isinstance") (rIsX X.K C a cls d) := by
  intro pins s σ H xs us Q I r h
  obtain ⟨ec, dd, fs, c, cv, b, ed, hd, ex, hcv, e, q⟩ := h
  subst ec ed ex
  cases r with
  | cons rx rr =>
    cases rr with
    | cons rt rn =>
      cases rn
      cases rx
      obtain rfl := hcv _ rt
      obtain ⟨hget, _⟩ := I.pin (a, oe) (List.mem_append.mpr (.inl List.mem_cons_self))
      obtain ⟨vs, hv⟩ := hf
      have hx : ObjOk X.prog X.w H s.heap dd (.xd fs) := I.hok dd _ hd
      obtain ⟨mA, hns, _⟩ := hx
      obtain ⟨od, ho, _⟩ := lookIn_ns hns
      have J : PySem.W.InstAt s.heap a oe C (some od) := ⟨hget, hz.1, by unfold PySem.W.notCls; rw [hv] <;> rfl, by rw [hz.2]; exact ho⟩
      exact PySem.W.kia_one (PySem.W.kitx_exc T.cl T.ga T.gt T.sb T.ac T.gn T.tk T.mo) I.kIn J e (fun z => nomatch z) fun tk => ⟨.bl b, H, I.kept (t' := tk) fun _ _ z => z, rfl, q⟩
/-! makings and static calls that may raise, the wish at the caller's slots -/
section
variable {X : Cx} {CX : CXT} {k n : Nat} {f C : Addr} {fd : FuncData} {ps ks : List Str} {sp : Sp} {E : L2.St → XK} {x : Str} {p pos : Pos} {e : Expr} {es : List Expr} {kws : List Keyword} {t tk : TA} {g : List Value → List Value → List Value} {gV : List V → List V → List V}
def tMakeNS (C : Addr) (n m : Nat) (sp : Sp) (gV : List V → List V → List V) (E : L2.St → XK) (t tk : TA) : TE := fun σ H Q => t σ H fun vs H1 => tk σ H1 fun zs H2 => vs.length = n ∧ zs.length = m ∧
  ∀ y dy, H2 y = none → H2 dy = none → dy ≠ y → sp (gV (.ref y :: vs) zs) (upd (upd H2 dy (.own y)) y (.ins C dy [])) (fun v H3 => v = .non ∧ Q (.ref y) H3) (E σ)
theorem run_makeNS {pn : List (Addr × Obj)} {σ : L2.St} {H : Hp} {s : Shared} {Q : VK} {us ws : List Value} {vs zs : List V} (M : Mk X.K C f) (F : FnOk X.prog X.w X.K X.mg X.base CX k f fd ps sp) (hr : Room (k + 1) X.A) (hb : KBn X.K fd ps (n + 1) ks g gV)
    (hx : PassesAt CX X σ (E σ)) (I : L2.Inv X pn σ H s) (ru : Vals vs us) (rw_ : Vals zs ws) (e1 : vs.length = n) (e2 : zs.length = ks.length)
    (h : ∀ y dy, H y = none → H dy = none → dy ≠ y → sp (gV (.ref y :: vs) zs) (upd (upd H dy (.own y)) y (.ins C dy [])) (fun v H3 => v = .non ∧ Q (.ref y) H3) (E σ)) : wpAny (model X.prog X.w) X.A (call (.ref C) us (ks.zip ws)) (EP X pn σ Q) X.xe s := by
  have J : L2.Inv X pn σ _ _ := L2.Inv.made (C := C) I
  have r1 : Vals (V.ref (s.heap.objs.size + 1) :: vs) (Value.ref (s.heap.objs.size + 1) :: us) := Paired.cons rfl ru
  have z1 : (Value.ref (s.heap.objs.size + 1) :: us).length = n + 1 := r1.length.symm.trans (congrArg (· + 1) e1)
  have z2 : ws.length = ks.length := rw_.length.symm.trans e2
  have hq := h (s.heap.objs.size + 1) s.heap.objs.size (I.hok.fresh (Nat.le_succ _)) (I.hok.fresh Nat.le.refl) (Nat.ne_of_lt (Nat.lt_succ_self _))
  have run := F.run _ X.stack _ _ ⟨Value.ref (s.heap.objs.size + 1) :: us, ks.zip ws⟩ (g (Value.ref (s.heap.objs.size + 1) :: us) ws) _ _ (E σ) (hr.make C us (ks.zip ws)) (J.env0.make C us (ks.zip ws)) (hb.to _ _ ws J.kIn z1 z2) (hb.rel r1 rw_) hq
  refine wpAny_call (make_map (f := f) I.kIn M.makes M.init (beq_iff_eq.mp M.fn) (codeAny_mono run fun r s2 z => ?_))
  match r, z with
  | .error er, z => exact hx pn _ _ er s2 J z
  | .ok (.ret u), z =>
    obtain ⟨v, H3, J3, rv, ev, q⟩ := J.after z
    subst ev
    exact ⟨rv, .ref (s.heap.objs.size + 1), H3, J3, rfl, q⟩
theorem pe_makeNS (M : Mk X.K C f) (F : FnOk X.prog X.w X.K X.mg X.base CX k f fd ps sp) (hr : Room (k + 1) X.A) (hg : Gl X x) (hm : X.mg x = some (.ref C)) (hb : KBn X.K fd ps (n + 1) ks g gV) (hx : ∀ σ, PassesAt CX X σ (E σ)) (hA : PA X (e :: es) t) (hK : PK X kws tk)
    (h1 : (backToKw pos (keywordEach kws X.env)).all (·.1.isSome) = true := by rfl) (h2 : (backToKw pos (keywordEach kws X.env)).filterMap (·.1) = ks := by rfl) (h3 : (x == ("__debug__" : Str)) = false := by decide)
    (h4 : starEach (e :: es) X.env = (false, eval e X.env) :: starEach es X.env := by rfl) (h5 : ((backTo pos (starEach (e :: es) X.env)).any (·.1) || (backToKw pos (keywordEach kws X.env)).any (·.1.isNone)) = false := by rfl) :
    PE X (.Call (.Name x p) (e :: es) kws pos) (tMakeNS C n ks.length sp gV E t tk) := by
  refine ⟨fun pn s σ H Q I h => wpAny_Call_Name_kw (ld_glob I hg hm ?_ h3)⟩
  refine PySem.W.callWith_KW (h₀ := X.base) I.ok.mod.kin M.kp h1 (thn (hA.run pos pn s σ H _ I h) fun us s1 hh => ?_) h5 h4
  obtain ⟨vs, H1, I1, r1, q⟩ := hh
  refine thn (hK.run pos pn s1 σ H1 _ I1 q) fun ws s2 hh => ?_
  obtain ⟨zs, H2, I2, r2, l1, l2, q2⟩ := hh
  refine ⟨I2.kIn, ?_⟩
  rw [h2]
  exact run_makeNS M F hr hb (hx σ) I2 r1 r2 l1 l2 q2
end
section
variable {X : Cx} {CX : CXT} {k : Nat} {f C : Addr} {sp : Sp} {E : L2.St → XK}
theorem run_fnRS {pn : List (Addr × Obj)} {σ : L2.St} {H : Hp} {s : Shared} {Q : VK} {us : List Value} {vs : List V} (F : FnR X.prog X.w X.K X.mg X.base CX k f sp) (hr : Room k X.A) (hx : PassesAt CX X σ (E σ)) (I : L2.Inv X pn σ H s) (r : Vals vs us) (h : sp vs H Q (E σ)) :
    wpAny (model X.prog X.w) X.A (call (.ref f) us) (EP X pn σ Q) X.xe s := by
  refine wpAny_call (codeAny_mono (F X.A X.stack s H us vs Q (E σ) hr I.env0 r h) fun z s2 y => ?_)
  match z, y with
  | .error er, y => exact hx pn H s er s2 I y
  | .ok (.ret u), y => exact I.after y
theorem run_makeRS {pn : List (Addr × Obj)} {σ : L2.St} {H : Hp} {s : Shared} {Q : VK} {us : List Value} {vs : List V} (M : Mk X.K C f) (F : FnR X.prog X.w X.K X.mg X.base CX k f sp) (hr : Room (k + 1) X.A) (hx : PassesAt CX X σ (E σ)) (I : L2.Inv X pn σ H s) (r : Vals vs us)
    (h : ∀ y dy, H y = Option.none → H dy = Option.none → dy ≠ y → sp (V.ref y :: vs) (upd (upd H dy (.own y)) y (.ins C dy [])) (fun v H2 => v = .non ∧ Q (.ref y) H2) (E σ)) : wpAny (model X.prog X.w) X.A (call (.ref C) us) (EP X pn σ Q) X.xe s := by
  have J : L2.Inv X pn σ _ _ := L2.Inv.made (C := C) I
  have r1 : Vals (V.ref (s.heap.objs.size + 1) :: vs) (Value.ref (s.heap.objs.size + 1) :: us) := Paired.cons rfl r
  have hq := h (s.heap.objs.size + 1) s.heap.objs.size (I.hok.fresh (Nat.le_succ _)) (I.hok.fresh Nat.le.refl) (Nat.ne_of_lt (Nat.lt_succ_self _))
  refine wpAny_call (make_map (f := f) I.kIn M.makes M.init (beq_iff_eq.mp M.fn) (codeAny_mono (F _ X.stack _ _ (Value.ref (s.heap.objs.size + 1) :: us) _ _ (E σ) (hr.make C us []) (J.env0.make C us []) r1 hq) fun z s2 y => ?_))
  match z, y with
  | .error er, y => exact hx pn _ _ er s2 J y
  | .ok (.ret u), y =>
    obtain ⟨v, H3, J3, rv, ev, q⟩ := J.after y
    subst ev
    exact ⟨rv, .ref (s.heap.objs.size + 1), H3, J3, rfl, q⟩
def tMethE (C : Addr) (m : Str) (sp : Sp) (E : L2.St → XK) (ta : TE) (t : TA) : TE := fun σ H Q => ta σ H fun x H1 => ∃ a dx fs, x = .ref a ∧ H1 a = some (.ins C dx fs) ∧ fs.lookup m = Option.none ∧ t σ H1 fun vs H2 => sp (.ref a :: vs) H2 Q (E σ)
theorem pe_methE {o e : Expr} {es : List Expr} {m : Str} {pos apos : Pos} {ta : TE} {t : TA} {pl : Sem Bool} (hO : PE X o ta) (c : Cls X.K C) (hm : Meth X.K C m f) (F : FnR X.prog X.w X.K X.mg X.base CX k f sp) (hr : Room k X.A) (hx : ∀ σ, PassesAt CX X σ (E σ)) (hA : PA X (e :: es) t)
    (h1 : starEach (e :: es) X.env = (false, eval e X.env) :: starEach es X.env := by rfl) (h2 : (backTo pos (starEach es X.env)).any (·.1) = false := by rfl)
    (hW : eval (.Call (.Attribute o m apos) (e :: es) [] pos) X.env = (do
      let ov ← eval o X.env
      standAt apos.atName
      let (f, first) ← holding [ov] (getMethod ov m pl)
      callWith pos f first (backTo pos (starEach (e :: es) X.env)) (backToKw pos (keywordEach [] X.env))) := by rfl) : PE X (.Call (.Attribute o m apos) (e :: es) [] pos) (tMethE C m sp E ta t) := by
  refine ⟨fun pn s σ H Q I h => PySem.W.methodCall_KW (pl := pl) (thn (hO.run pn s σ H _ I h) fun u s1 hh => ?_) hW⟩
  obtain ⟨x, H1, I1, rx, a, dx, fs, ex, ea, l, q⟩ := hh
  subst ex
  obtain rfl : u = Value.ref a := rx
  refine getmeth_ok I1 ea c hm l (PySem.W.callWith_K (first := [.ref a]) (h₀ := X.base) I.ok.mod.kin hm.kp (thn (hA.run pos pn s1 σ H1 _ I1 q) fun us s2 hh => ?_) h1 h2)
  obtain ⟨vs, H2, I2, r, q2⟩ := hh
  exact ⟨I2.kIn, run_fnRS (us := .ref a :: us) (vs := .ref a :: vs) F hr (hx σ) I2 (.cons rfl r) q2⟩
def tSMethE (C : Addr) (sp : Sp) (E : L2.St → XK) (ta : TE) (t : TA) : TE := fun σ H Q => ta σ H fun x H1 => x = .ref C ∧ t σ H1 fun vs H2 => sp vs H2 Q (E σ)
theorem pe_smethE {o e : Expr} {es : List Expr} {m : Str} {g q : Addr} {mc : Value} {pos apos : Pos} {ta : TE} {t : TA} {pl : Sem Bool} (hO : PE X o ta) (cr : ClX.CRead X.K C mc) (c : SMet X.K C mc m q g) (F : FnR X.prog X.w X.K X.mg X.base CX k g sp) (hr : Room k X.A) (hx : ∀ σ, PassesAt CX X σ (E σ)) (hA : PA X (e :: es) t)
    (h1 : starEach (e :: es) X.env = (false, eval e X.env) :: starEach es X.env := by rfl) (h2 : (backTo pos (starEach es X.env)).any (·.1) = false := by rfl)
    (hW : eval (.Call (.Attribute o m apos) (e :: es) [] pos) X.env = (do
      let ov ← eval o X.env
      standAt apos.atName
      let (f, first) ← holding [ov] (getMethod ov m pl)
      callWith pos f first (backTo pos (starEach (e :: es) X.env)) (backToKw pos (keywordEach [] X.env))) := by rfl) : PE X (.Call (.Attribute o m apos) (e :: es) [] pos) (tSMethE C sp E ta t) := by
  refine ⟨fun pn s σ H Q I h => PySem.W.methodCall_KW (pl := pl) (thn (hO.run pn s σ H _ I h) fun u s1 hh => ?_) hW⟩
  obtain ⟨x, H1, I1, rx, ex, y⟩ := hh
  subst ex
  obtain rfl : u = Value.ref C := rx
  obtain ⟨rest, hp⟩ := c.rc
  refine PySem.W.method_cls I1.kIn cr.ga (PySem.W.cls_bind I1.kIn cr.rd c.at_ (wpAny_call (PySem.W.sm_get (s := { s1 with toks := s1.toks + 1 }) I1.kIn hp (PySem.W.handed_on rfl ?_))))
  have I2 : L2.Inv X pn σ H1 { s1 with toks := s1.toks + 1 } := I1.tok _
  refine PySem.W.callWith_K (h₀ := X.base) I2.ok.mod.kin c.kp (thn (hA.run pos pn _ σ H1 _ I2 y) fun us s3 hh => ?_) h1 h2
  obtain ⟨vs, H2, I3, rv, q2⟩ := hh
  exact ⟨I3.kIn, run_fnRS F hr (hx σ) I3 rv q2⟩
end
end Vx
set_option Elab.async false
set_option linter.all false
set_option maxRecDepth 100000
set_option maxHeartbeats 4000000
namespace L2
open PySem PySem.Spec PyProof.Rows
theorem FnOk.imp' {P : Program} {w : World} {K : PySem.W.Frag} {mg : Str → Option Value} {base : Heap} {CX : CXT} {k : Nat} {f : Addr} {fd : FuncData} {ps : List Str} {sp sp' : Sp} (F : FnOk P w K mg base CX k f fd ps sp) (h : ∀ vs H Q E, sp' vs H Q E → sp vs H Q E) : FnOk P w K mg base CX k f fd ps sp' :=
  ⟨fun vs H Q E z => F.len vs H Q E (h _ _ _ _ z), fun A outer s H args us vs Q E hr e0 b r z => F.run A outer s H args us vs Q E hr e0 b r (h _ _ _ _ z)⟩
end L2
namespace Toy
open PySem PySem.Spec PyProof.Rows L2
theorem TyX.same {K : PySem.W.Frag} {H H' : Hp} {v : V} {t : Value} (h : TyX K H v t) (s : Same H H') : TyX K H' v t := by
  cases h with
  | base h =>
    cases h with
    | non => exact .base .non
    | bl x => exact .base (.bl x)
    | int x => exact .base (.int x)
    | str x => exact .base (.str x)
    | flt x => exact .base (.flt x)
    | lst e => exact .base (.lst (s _ _ e))
    | frz e => exact .base (.frz (s _ _ e))
    | tup e => exact .base (.tup (s _ _ e))
    | dK e => exact .base (.dK (s _ _ e))
    | dT e => exact .base (.dT (s _ _ e))
    | ins e cl a b c d => exact .base (.ins (s _ _ e) cl a b c d)
  | byt b => exact .byt b
  | set e => exact .set (s _ _ e)
  | kList e c => exact .kList e c
  | kTuple e c => exact .kTuple e c
  | kDict e c => exact .kDict e c
  | fTuple e => exact .fTuple (s _ _ e)
  | fDict e => exact .fDict (s _ _ e)
/-- what a value is as a number: a number, or none (a truth value is none) -/
inductive NV (K : PySem.W.Frag) (H : Hp) : V → Option Int → Prop
  | int (i : Int) : NV K H (.int i) (some i)
  | bl (b : Bool) : NV K H (.bl b) none
  | oth {v : V} {t : Value} (h : TyX K H v t) (k : PySem.W.kitOne K t (.type "int") = some false) (kb : PySem.W.kitOne K t (.type "bool") = some false) (n : ∀ i, v ≠ .int i) : NV K H v none
theorem NV.same {K : PySem.W.Frag} {H H' : Hp} {v : V} {o : Option Int} (h : NV K H v o) (s : Same H H') : NV K H' v o := by
  cases h with
  | int i => exact .int i
  | bl b => exact .bl b
  | oth h k kb n => exact .oth (TyX.same h s) k kb n
theorem NV.non {K : PySem.W.Frag} {H : Hp} : NV K H .non none := .oth (t := .type "NoneType") (.base .non) (kit_ty (by decide +kernel)) (kit_ty (by decide +kernel)) (fun _ z => nomatch z)
theorem NV.str {K : PySem.W.Frag} {H : Hp} (z : Str) : NV K H (.str z) none := .oth (t := .type "str") (.base (.str z)) (kit_ty (by decide +kernel)) (kit_ty (by decide +kernel)) (fun _ z => nomatch z)
theorem NV.lst {K : PySem.W.Frag} {H : Hp} {a : Addr} {xs : List V} (h : H a = some (.lst xs)) : NV K H (.ref a) none := .oth (t := .type "list") (.base (.lst h)) (kit_ty (by decide +kernel)) (kit_ty (by decide +kernel)) (fun _ z => nomatch z)
theorem NV.tup {K : PySem.W.Frag} {H : Hp} {a : Addr} {xs : List V} (h : H a = some (.tup xs)) : NV K H (.ref a) none := .oth (t := .type "tuple") (.base (.tup h)) (kit_ty (by decide +kernel)) (kit_ty (by decide +kernel)) (fun _ z => nomatch z)
def btw (o : Option Int) (l h : Int) : Bool := match o with
  | some i => decide (l ≤ i ∧ i ≤ h)
  | none => false
structure NmI (mg : Str → Option Value) : Prop where
  isi : mg "isinstance" = none
  int : mg "int" = none
  bool : mg "bool" = none
section
variable {P : Program} {w : World} {K : PySem.W.Frag} {mg : Str → Option Value} {base : Heap}
def spWholeG (K : PySem.W.Frag) : Sp := fun vs H Q _ => ∃ (v : V) (o : Option Int), vs = [v] ∧ NV K H v o ∧ Q (.bl o.isSome) H
theorem ok_wholeG {f : Addr} {fd : FuncData} (F : Fun K "is_whole" "is_whole" s_is_whole f fd) (T : NmI mg) : FnOk P w K mg base CX0 1 f fd ["value"] (spWholeG K) := by
  refine F.ok sc_is_whole (fun vs H Q E h => ?_) (fun cdv A outer s H vs Q E hr h => ?_)
  · obtain ⟨v, o, rfl, _⟩ := h
    rfl
  · obtain ⟨v, o, rfl, hv, q⟩ := h
    refine ⟨_, pss_one (ps_ret (pe_and (pe_callB call_isi (by rfl) T.isi (by decide +kernel) (pa_cons (pv 0) (pa_cons (pe_bltn (v := .ty "int") (by rfl) T.int (by decide +kernel) rfl) pa_nil)))
      (pe_one (pe_not (pe_callB call_isi (by rfl) T.isi (by decide +kernel) (pa_cons (pv 0) (pa_cons (pe_bltn (v := .ty "bool") (by rfl) T.bool (by decide +kernel) rfl) pa_nil))))))), ?_⟩
    cases hv with
    | int i => exact ⟨_, rfl, .int i, .ty "int", _, _, true, rfl, .ty _, .base (.int i), kit_ty (by decide +kernel), true, rfl, iteT ⟨_, rfl, .int i, .ty "bool", _, _, false, rfl, .ty _, .base (.int i), kit_ty (by decide +kernel), false, rfl, q⟩⟩
    | bl b => exact ⟨_, rfl, .bl b, .ty "int", _, _, true, rfl, .ty _, .base (.bl b), kit_ty (by decide +kernel), true, rfl, iteT ⟨_, rfl, .bl b, .ty "bool", _, _, true, rfl, .ty _, .base (.bl b), kit_ty (by decide +kernel), true, rfl, q⟩⟩
    | oth ht k kb n => exact ⟨_, rfl, v, .ty "int", _, _, false, rfl, .ty _, ht, k, false, rfl, iteF q⟩
def spBetwG (K : PySem.W.Frag) : Sp := fun vs H Q _ => ∃ (v : V) (o : Option Int) (l h : Int), vs = [v, .int l, .int h] ∧ NV K H v o ∧ Q (.bl (btw o l h)) H
theorem NV.some_eq {H : Hp} {v : V} {i : Int} (h : NV K H v (some i)) : v = .int i := by
  cases h
  rfl
theorem ok_betwG {f fW : Addr} {fd fdW : FuncData} (F : Fun K "is_between" "is_between" s_is_between f fd) (GW : FnOk P w K mg base CX0 1 fW fdW ["value"] (spWholeG K)) (kW : PySem.W.keepIn K (.ref fW) = true) (bW : L2.Binds K fdW ["value"] []) (gW : mg "is_whole" = some (.ref fW)) :
    FnOk P w K mg base CX0 2 f fd ["value", "low", "high"] (spBetwG K) := by
  refine F.ok sc_is_between (fun vs H Q E h => ?_) (fun cdv A outer s H vs Q E hr h => ?_)
  · obtain ⟨v, o, l, h, rfl, _⟩ := h
    rfl
  · obtain ⟨v, o, l, u, rfl, hv, q⟩ := h
    refine ⟨_, pss_one (ps_ret (pe_and (pe_call GW hr (by rfl) gW kW bW .nil pass0 (pa_cons (pv 0) pa_nil)) (pe_one (pe_chain op_le op_le (pv 1) (pv 0) (pv 2))))), ?_⟩
    refine ⟨_, rfl, v, o, rfl, hv, o.isSome, rfl, ?_⟩
    cases o with
    | none => exact iteF q
    | some i =>
      obtain rfl := hv.some_eq
      refine iteT ⟨_, rfl, _, rfl, l, i, rfl, rfl, decide (l ≤ i), rfl, ?_⟩
      by_cases h1 : l ≤ i
      · rw [decide_eq_true h1]
        refine iteT ⟨_, rfl, i, u, rfl, rfl, ?_⟩
        have e : btw (some i) l u = decide (i ≤ u) := by by_cases h2 : i ≤ u <;> simp [btw, h1, h2]
        rw [e] at q
        exact q
      · rw [decide_eq_false h1]
        have e : btw (some i) l u = false := by simp [btw, h1]
        rw [e] at q
        exact iteF q
def spIsWG (K : PySem.W.Frag) : Sp := fun vs H Q _ => ∃ (v : V) (o : Option Int), vs = [v] ∧ NV K H v o ∧ Q (.bl (btw o 0 30)) H
theorem ok_isWG {f fB : Addr} {fd fdB : FuncData} (F : Fun K "is_writer_number" "is_writer_number" s_is_writer_number f fd) (GB : FnOk P w K mg base CX0 2 fB fdB ["value", "low", "high"] (spBetwG K)) (kB : PySem.W.keepIn K (.ref fB) = true)
    (bB : L2.Binds K fdB ["value", "low", "high"] []) (gB : mg "is_between" = some (.ref fB)) (lw : ∃ t, mg "LAST_WRITER" = some (.int 30 t)) : FnOk P w K mg base CX0 3 f fd ["value"] (spIsWG K) := by
  obtain ⟨tk, lw⟩ := lw
  refine F.ok sc_is_writer_number (fun vs H Q E h => ?_) (fun cdv A outer s H vs Q E hr h => ?_)
  · obtain ⟨v, o, rfl, _⟩ := h
    rfl
  · obtain ⟨v, o, rfl, hv, q⟩ := h
    refine ⟨_, pss_one (ps_ret (pe_call GB hr (by rfl) gB kB bB .nil pass0 (pa_cons (pv 0) (pa_cons pe_int (pa_cons (pe_glob (v := .int 30) (by rfl) lw ⟨_, rfl⟩) pa_nil))))), ?_⟩
    exact ⟨_, rfl, v, o, 0, 30, rfl, hv, q⟩
theorem whole_int {f : Addr} {fd : FuncData} (F : FnOk P w K mg base CX0 1 f fd ["value"] (spWholeG K)) : FnOk P w K mg base CX0 1 f fd ["value"] spWhole := F.imp' fun vs H Q E h => by
  obtain ⟨i, rfl, q⟩ := h
  exact ⟨_, _, rfl, .int i, q⟩
theorem betw_int {f : Addr} {fd : FuncData} (F : FnOk P w K mg base CX0 2 f fd ["value", "low", "high"] (spBetwG K)) : FnOk P w K mg base CX0 2 f fd ["value", "low", "high"] spBetw := F.imp' fun vs H Q E h => by
  obtain ⟨i, l, u, rfl, q⟩ := h
  exact ⟨_, _, l, u, rfl, .int i, q⟩
theorem isW_int {f : Addr} {fd : FuncData} (F : FnOk P w K mg base CX0 3 f fd ["value"] (spIsWG K)) : FnOk P w K mg base CX0 3 f fd ["value"] spIsW := F.imp' fun vs H Q E h => by
  obtain ⟨i, rfl, q⟩ := h
  exact ⟨_, _, rfl, .int i, q⟩
end
end Toy
set_option Elab.async false
set_option linter.all false
set_option maxRecDepth 100000
set_option maxHeartbeats 4000000
namespace Gd
open PySem PySem.Spec PyProof.Rows L2
/-! promises that are kept where no repr is under way: what repr of a list or a tuple asks -/
abbrev Calm0 (A : Around) : Prop := A.guards = some []
def FnG (P : Program) (w : World) (K : PySem.W.Frag) (mg : Str → Option Value) (base : Heap) (CX : CXT) (k : Nat) (f : Addr) (sp : Sp) : Prop :=
  ∀ (A : Around) (outer : List Env) (s : Shared) (H : Hp) (us : List Value) (vs : List V) (Q : VK) (E : XK), Calm0 A → Room k A → Env0 P w K mg base A outer s H → Vals vs us → sp vs H Q E →
    codeAny (model P w) A (.call (.ref f) ⟨us, []⟩) (CR CX outer P w H s Q E) s
section
variable {P : Program} {w : World} {K : PySem.W.Frag} {mg : Str → Option Value} {base : Heap} {k : Nat} {f : Addr} {fd : FuncData} {x qual : Str} {st : Stmt} {N ps : List Str} {sp : Sp}
theorem FnG.of {CX : CXT} (F : FnR P w K mg base CX k f sp) : FnG P w K mg base CX k f sp := fun A o s H us vs Q E _ hr e r h => F A o s H us vs Q E hr e r h
/-- a def by its body, run where no repr is under way -/
theorem fnG_ok (F : Fun K x qual st f fd) (S : FnScope N ps (defScope st)) (B : L2.Binds K fd ps []) (len : ∀ vs H Q E, sp vs H Q E → vs.length = ps.length)
    (body : ∀ (cdv : Value) (A : Around) (outer : List Env) (s : Shared) (H : Hp) (vs : List V) (Q : VK) (E : XK), Calm0 A → Room k (A.deeper (envOfC qual (defScope st) s.heap.objs.size f cdv)) → sp vs H Q E →
      ∃ t, PSs (cxOf CX0 P w K mg base N qual (defScope st) f cdv A outer s H E).nox (defBody st) t ∧ t { nx := fun _ G => Q .non G, rt := Q } (start N vs) H) : FnG P w K mg base CX0 (k + 1) f sp := by
  obtain ⟨oc, od, kV, doc, pm, an, cdv, ct, osl, rfl, lk, hcd⟩ := F.ex
  intro A outer s H us vs Q E g room e r h
  have n1 : vs.length = ps.length := len vs H Q E h
  have inH : K.In s.heap := e.mod.kin.keeps (fun b o z => (e.bs b o z).left)
  have nolim : s.heap.NoLimit := e.mod.nolimit.keeps (fun b o z => (e.bs b o z).left)
  have bd := B s us inH (by rw [List.append_nil, ← r.length]; exact n1)
  rw [List.append_nil] at bd
  have kinds : ∀ q ∈ ps.zip us, (defScope st).names.lookup q.1 = some .local ∨ ((defScope st).names.lookup q.1 = some .cell ∧ ((cellsFrom (s.heap.objs.size + 1) (defScope st).names []).lookup q.1).isSome = true) := by
    rintro ⟨n, v⟩ hq
    cases S.par n (List.of_mem_zip hq).1 with
    | inl z => exact Or.inl z
    | inr z => exact Or.inr ⟨z, PySem.W.cellsFrom_some _ _ _ (Or.inl z)⟩
  obtain ⟨t, ht, q⟩ := body cdv A outer s H vs Q E g (room.deeper _) h
  apply codeAny_call_function room.depth (inH _ _ lk) rfl S.co S.gen rfl (PySem.W.codeRec_of inH hcd) (bd _ _ _ _ _)
  apply wpAny_newFunctionEnv_cells S.kind kinds
  intro env he s1 z
  subst he
  refine And.intro (nolim.keeps z.toInCall.keep) (codeAny_func ?_)
  have I := inv_start (CX := CX0) (E := E) S room.hd e n1 r z
  apply wpAny_mono (ht.nox.run [] s1 (start N vs) H _ I q) (fun fl s2 hs => ?_) (fun _ _ hs => hs)
  cases fl with
  | ret u => obtain ⟨v, σ2, H2, J, rv, z2⟩ := hs; exact ⟨v, H2, J.os, J.bare, J.base, J.hok, rv, z2⟩
  | next => obtain ⟨σ2, H2, J, z2⟩ := hs; exact ⟨V.non, H2, J.os, J.bare, J.base, J.hok, rfl, z2⟩
  | brk => exact hs.elim fun _ z2 => z2.elim fun _ z3 => z3.2.elim
  | cont => exact hs.elim fun _ z2 => z2.elim fun _ z3 => z3.2.elim
end
section
variable {X : Cx} {CX : CXT} {k : Nat} {f : Addr} {sp : Sp} {E : XK} {x : Str} {p pos : Pos} {e : Expr} {es : List Expr} {t : TA}
theorem pe_callG (F : FnG X.prog X.w X.K X.mg X.base CX k f sp) (g : Calm0 X.A) (hr : Room k X.A) (hg : Gl X x) (hm : X.mg x = some (.ref f)) (hk : PySem.W.keepIn X.K (.ref f) = true) (hx : Passes CX X E)
    (ha : PA X (e :: es) t) (hdb : (x == ("__debug__" : Str)) = false := by decide) (he : starEach (e :: es) X.env = (false, eval e X.env) :: starEach es X.env := by rfl) (hpl : (backTo pos (starEach es X.env)).any (·.1) = false := by rfl) :
    PE X (.Call (.Name x p) (e :: es) [] pos) (tCall sp [] E t) := by
  constructor
  intro pins s σ H Q I h
  apply wpAny_Call_Name_kw (ld_glob I hg hm ?_ hdb)
  apply PySem.W.callWith_K (h₀ := X.base) I.ok.mod.kin hk (thn (ha.run pos pins s σ H _ I h) fun us s1 ⟨vs, H1, I1, r, q⟩ => ⟨I1.kIn, ?_⟩) he hpl
  have q : sp vs H1 Q E := by
    have z : sp (vs ++ []) H1 Q E := q
    rwa [List.append_nil] at z
  refine wpAny_call (codeAny_mono (F _ _ _ _ _ _ _ _ g hr I1.env0 r q) fun z s2 hq => ?_)
  match z, hq with
  | .error u, hq => exact hx pins σ H1 s1 u s2 I1 hq
  | .ok (.ret u), hq => exact I1.after hq
end
/-! repr of data -/
def okShow : PyData → Bool
  | .int i => decide (i.natAbs.log2 < 1920)
  | d => d.showable && !d.hasDict && decide (d.depth ≤ 8) && decide (d.shown.length ≤ 1000000)
theorem show_of {d : PyData} (n : ∀ i, d ≠ .int i) (h : okShow d = true) : d.showable = true ∧ d.hasDict = false ∧ d.depth ≤ 8 ∧ d.shown.length ≤ sizeLine := by
  cases d with
  | int i => exact (n i rfl).elim
  | _ =>
    simp only [okShow, Bool.and_eq_true, decide_eq_true_eq, Bool.not_eq_true'] at h
    exact ⟨h.1.1.1, h.1.1.2, h.1.2, Nat.le_trans h.2 (by decide)⟩
theorem call_reprD {X : Cx} (g : Calm0 X.A) (hu : X.A.units + 64 < cLine) : CallR X (.builtin "repr") (fun xs H Q => ∃ v d, xs = [v] ∧ Dp X.K H v d ∧ okShow d = true ∧ Q (.str d.shown) H) := by
  intro pins s σ H xs us Q I r ⟨v, d, e, hd, ok, q⟩
  subst e
  obtain ⟨u, rfl, ru⟩ := vals1 r
  cases hd with
  | non => cases ru; exact PySem.P.repr_of_none ⟨.str _, H, I.tok _, ⟨_, rfl⟩, q⟩
  | bl b => cases ru; exact PySem.P.repr_of_bool ⟨.str _, H, I.tok _, ⟨_, rfl⟩, q⟩
  | int i => obtain ⟨t, rfl⟩ := ru; exact PySem.P.repr_of_int (of_decide_eq_true ok) ⟨.str _, H, I.tok _, ⟨_, rfl⟩, q⟩
  | str z => obtain ⟨t, rfl⟩ := ru; exact PySem.P.repr_of_str ⟨.str _, H, I.tok _, ⟨_, rfl⟩, q⟩ (show_of (by intro i e; cases e) ok).2.2.2
  | lst h1 h2 =>
    obtain ⟨o1, o2, o3, o5⟩ := show_of (by intro i e; cases e) ok
    obtain ⟨as, rd⟩ := Dp.reads I _ _ _ (Dp.lst h1 h2) ru
    cases ru
    exact repr_of_reads' rd o1 (fun z => by rw [o2] at z; cases z) g (by omega) (fun _ _ z => z) (fun h' u tk hk => ⟨.str _, H, I.kept hk, ⟨_, rfl⟩, q⟩) o5
  | tup h1 h2 =>
    obtain ⟨o1, o2, o3, o5⟩ := show_of (by intro i e; cases e) ok
    obtain ⟨as, rd⟩ := Dp.reads I _ _ _ (Dp.tup h1 h2) ru
    cases ru
    exact repr_of_reads' rd o1 (fun z => by rw [o2] at z; cases z) g (by omega) (fun _ _ z => z) (fun h' u tk hk => ⟨.str _, H, I.kept hk, ⟨_, rfl⟩, q⟩) o5
/-! the head of a law that is kept where no repr is under way -/
section
variable {P : Program} {w : World} {K : PySem.W.Frag} {mg mb : Str → Option Value} {k : Nat} {fa a : Addr} {sp : Sp} {s : Shared} {vs : List Value} {ns : List Int}
/-- what the law's run is to give -/
abbrev Gives (s : Shared) (r : Result) (s2 : Shared) : Prop := r = .ok (.ret (.bool true)) ∧ OldK s.heap s2.heap ∧ s2.os = s.os ∧ AllBare s2.gens
/-- the ground of a heap H that tracks at most the script -/
theorem ground_of {H : Hp} (inH : K.In s.heap) (g : s.heap.Ns mainGlobals mg) (b : s.heap.Ns builtinsNs mb) (bb : ∀ x : Str, x ≠ "__name__" → mb x = bootBuiltins x) (nl : s.heap.NoLimit) (ng : s.gens = #[])
    (sc : s.heap.get? a = some { cls := .type "list", data := .seq vs.toArray }) (ok : HOk P w H s.heap) (one : ∀ b u, H b = some u → b = a ∧ K.lookup a = none) :
    K.In (hidT s.heap H) ∧ (hidT s.heap H).Ns mainGlobals mg ∧ Env0 P w K mg (hidT s.heap H) callerA [] s H := by
  have open_ : ∀ {b : Addr} {o : Obj}, s.heap.get? b = some o → b ≠ a → (hidT s.heap H).get? b = some o := fun {b o} e n => hidT_get e (by
    cases z : H b with
    | none => rfl
    | some u => exact (n (one b u z).1).elim)
  have names : ∀ {b : Addr} {m : Str → Option Value}, s.heap.Ns b m → (hidT s.heap H).Ns b m := by
    rintro b m ⟨o, es, ep, e, d, r⟩
    refine ⟨o, es, ep, open_ e ?_, d, r⟩
    rintro rfl
    rw [e] at sc
    cases sc
    cases d
  have inG : K.In (hidT s.heap H) := fun b o e => by
    by_cases z : b = a
    · subst z
      refine hidT_get (inH b o e) ?_
      cases y : H b with
      | none => rfl
      | some u => rw [(one b u y).2] at e; cases e
    · exact open_ (inH b o e) z
  obtain ⟨mc, l1, l2⟩ := nl
  exact ⟨inG, names g, ⟨rfl, ⟨inG, names g, ⟨mb, names b, bb⟩, ⟨mc, names l1, l2⟩⟩, fun b o e => of_hidT e, Nat.le_of_eq (hidT_size _ _), trivial, fun b hb => (nomatch hb), ok, .of_eq ng⟩⟩
theorem law_runG (inH : K.In s.heap) (g : s.heap.Ns mainGlobals mg) (b : s.heap.Ns builtinsNs mb) (bb : ∀ x : Str, x ≠ "__name__" → mb x = bootBuiltins x) (nl : s.heap.NoLimit) (ng : s.gens = #[])
    (sc : s.heap.get? a = some { cls := .type "list", data := .seq vs.toArray }) (hi : IntsAre vs ns) (hl : ns.length ≤ sizeLine) (hr : Room k callerA)
    (F : ∀ base : Heap, K.In base → base.Ns mainGlobals mg → FnG P w K mg base CX0 k fa sp) (hsp : ∀ H : Hp, SqL K H a (ns.map V.int) → sp [.ref a] H (fun v _ => v = .bl true) fun _ _ _ => False) :
    codeAny (model P w) callerA (.call (.ref fa) ⟨[.ref a], []⟩) (Gives s) s := by
  have rv := vals_ints hi
  have small : (ns.map V.int).length ≤ sizeLine := by rw [List.length_map]; exact hl
  have way : ∀ H : Hp, (∀ b u, H b = some u → ∃ o xs, u = .frz o (.lst xs)) → SqL K H a (ns.map V.int) → HOk P w H s.heap → (∀ b u, H b = some u → b = a ∧ K.lookup a = none) → codeAny (model P w) callerA (.call (.ref fa) ⟨[.ref a], []⟩) (Gives s) s := by
    intro H fz S ok one
    obtain ⟨g1, g2, g3⟩ := ground_of inH g b bb nl ng sc ok one
    refine codeAny_mono (F _ g1 g2 callerA [] s H [.ref a] [V.ref a] _ _ rfl hr g3 (.cons rfl .nil) (hsp H S)) fun r s2 h => ?_
    match r, h with
    | .ok (.ret u), ⟨v, H2, os, bare, un, ok2, ru, q⟩ =>
      have q : v = .bl true := q
      subst q
      have ru : u = Value.bool true := ru
      subst ru
      refine ⟨rfl, OldK.of_keep fun c o e => ?_, os, bare⟩
      cases z : H c with
      | none => exact un.keep c o e z (by intro y; cases y) (by simp)
      | some u =>
        obtain ⟨ob, xs, rfl⟩ := fz c u z
        have e1 := (ok c _ z).1
        rw [e] at e1
        cases e1
        exact (ok2 c _ (un.frzs c o _ z)).1
  cases own : K.lookup a with
  | some o =>
    have e := inH a o own
    rw [sc] at e
    cases e
    exact way (fun _ => none) (fun _ _ z => nomatch z) (.inr ⟨_, vs.toArray, _, own, rfl, rfl, rfl, by rw [List.size_toArray, hi.length]; exact hl, by simpa using rv⟩) (fun _ _ z => nomatch z) (fun _ _ z => nomatch z)
  | none =>
    have at_ : ∀ b u, (if b = a then some (HO.frz { cls := .type "list", data := .seq vs.toArray } (.lst (ns.map V.int))) else none) = some u → b = a ∧ u = .frz { cls := .type "list", data := .seq vs.toArray } (.lst (ns.map V.int)) := fun b u z => by
      by_cases y : b = a
      · rw [if_pos y] at z; cases z; exact ⟨y, rfl⟩
      · rw [if_neg y] at z; cases z
    refine way (fun b => if b = a then some (.frz { cls := .type "list", data := .seq vs.toArray } (.lst (ns.map V.int))) else none) (fun b u z => ⟨_, _, (at_ b u z).2⟩) (.inl (.inr ⟨_, if_pos rfl⟩)) (fun b u z => ?_) (fun b u z => ⟨(at_ b u z).1, own⟩)
    obtain ⟨rfl, rfl⟩ := at_ b u z
    exact ⟨sc, small, vs, _, rv, sc⟩
end
theorem walkG {l : PySem.W.OpenLaw} {n k : Nat} {q : Program} {loose : List Str} {XP : (Str → Option Value) → Heap → Prop} {YP : World → Heap → Prop} {d : DefRec} {K : Params → PySem.W.Frag} {sp : PySem.W.Frag → Sp}
    (hn : l.most = some n) (n2 : n ≤ sizeLine) (hdf : d.params.defaults = []) (hr : Room k callerA) (hY : ∀ (w : World) (h : Heap), YP w h → (K w.params).In h)
    (F : ∀ (w : World) (mg : Str → Option Value) (fa : Addr) (h : Heap), (K w.params).In h → h.Ns mainGlobals mg → mg d.name = some (.ref fa) → ∀ base : Heap, (K w.params).In base → base.Ns mainGlobals mg → FnG l.prog w (K w.params) mg base CX0 k fa (sp (K w.params)))
    (hsp : ∀ (K : PySem.W.Frag) (H : Hp) (a : Addr) (ns : List Int), ns.length ≤ n → SqL K H a (ns.map V.int) → sp K [.ref a] H (fun v _ => v = .bl true) fun _ _ _ => False) :
    PySem.W.WalkO q loose XP YP l.row.toRowW d [] (fun f vs => PySem.call f vs) := by
  apply Att.attach_call hn hdf
  intro w s₀ s₁ mg mb fa o pm cd doc a vs ns G Y ho hd hcd hmg hobj hints hlen hg
  exact law_runG (hY w _ Y) G.T.g G.T.b G.T.builtins G.T.nolimit hg hobj hints (Nat.le_trans hlen n2) hr (F w mg fa _ (hY w _ Y) G.T.g hmg) (fun H S => hsp _ H a ns hlen S)
end Gd
set_option Elab.async false
set_option linter.all false
set_option maxRecDepth 100000
set_option maxHeartbeats 4000000
namespace Vx
open PySem PySem.Spec PyProof.Rows L2
/-- o cmp y by the own method; y of any class that does not come first -/
def rCmpA (K : PySem.W.Frag) (C : Addr) (sp : Sp) (E : XK) : R2 := fun x y H Q => (∃ a dx fs, x = .ref a ∧ H a = some (.ins C dx fs)) ∧ (∃ t, TyX K H y t ∧ PySem.W.notFirst K C t = true) ∧ sp [x, y] H Q E
theorem op_cmpAny {X : Cx} {CX : CXT} {k : Nat} {C f : Addr} {sp : Sp} {E : XK} {op : CmpOp} (hc : ∀ v u, compareOp op v u = richCompare op v u) (at_ : PySem.W.findIn X.K (.ref C) (cmpInfo op).2.1 = some (some (.ref f))) (fn : PySem.W.isFn X.K (.ref f) = true)
    (F : FnR X.prog X.w X.K X.mg X.base CX k f sp) (hr : Room k X.A) (hx : Passes CX X E) : OpR X (compareOp op) (rCmpA X.K C sp E) := by
  intro pins s σ H x y v u Q I rx ry hq
  obtain ⟨⟨a, dx, fs, rfl, ha⟩, ⟨t, ty, nf⟩, hsp⟩ := hq
  have ev : v = Value.ref a := rx
  have cl := call_cmp F hr hx I (us := [v, u]) (vs := [V.ref a, y]) (.cons rx (.cons ry .nil)) hsp
  subst ev
  obtain ⟨mA, J, _⟩ := ins_get I.hok ha
  obtain ⟨od, J, _⟩ := J.look
  obtain ⟨m, hF⟩ := I.fr
  obtain ⟨PP, KX, hP, _⟩ := L2.kit_of I ry ty
  rw [hc]
  exact PySem.W.cmp_K hr.units0 hF I.ok.mod.kin J (KX.ty _ _ I.kIn hP) nf at_ fn cl
end Vx
namespace Toy
open PySem PySem.Spec PyProof.Rows L2
/-! ### own errors -/
/-- what the text says of an own error class: its attribute f, its __init__ at fI -/
structure Err (P : Program) (w : World) (K : PySem.W.Frag) (mg : Str → Option Value) (base : Heap) (x f : Str) (C fI : Addr) (fd : FuncData) (sp : Sp) : Prop where
  T : OexC K C
  no : PySem.W.findIn K (.ref C) f = some none
  gC : mg x = some (.ref C)
  iC : PySem.W.findIn K (.ref C) "__init__" = some (some (.ref fI))
  tI : PySem.W.typeIn K (.ref fI) = some (.type "function")
  F : FnOk P w K mg base CX0 1 fI fd ["self", f] sp
  b : L2.Binds K fd ["self", f] []
def spErr (K : PySem.W.Frag) (f : Str) : Sp := fun vs H Q _ => ∃ (a C : Addr) (v : V), vs = [.ref a, v] ∧ OexC K C ∧ PySem.W.findIn K (.ref C) f = some none ∧ H a = some (exo a C none) ∧ ∀ d, H d = none → d ≠ a → Q .non (upd (upd H d (exd d [(f, v)])) a (exo a C (some d)))
theorem err_end {K : PySem.W.Frag} {f : Str} {C a : Addr} {v : V} {H : Hp} {E : XK} (T : OexC K C) (no : PySem.W.findIn K (.ref C) f = some none) (na : H a = none)
    (q : ∀ H' d, Same H H' → H d = none → H' d = some (.xd [(f, v)]) → E (.ref C) (some d) H') :
    spErr K f (.ref a :: ([v] ++ [])) (upd H a (exo a C none)) (fun u H2 => u = .non ∧ ∃ (d : Addr) (fs : List (Str × V)), H2 a = some (exo a C (some d)) ∧ H2 d = some (exd d fs) ∧ H d = none ∧ E (.ref C) (some d) (upd (del H2 a) d (.xd fs))) (fun _ _ _ => False) := by
  refine ⟨a, C, v, rfl, T, no, upd_same, fun d hd ne => ⟨rfl, d, _, upd_same, by rw [upd_ne ne]; exact upd_same, ?_, ?_⟩⟩
  · rw [upd_ne ne] at hd
    exact hd
  · rw [upd_ne ne] at hd
    refine q _ d (fun b o e => ?_) hd upd_same
    have nba : b ≠ a := ne_of_none e na
    have nbd : b ≠ d := ne_of_none e hd
    rw [upd_ne nbd, del_ne nba, upd_ne nba, upd_ne nbd, upd_ne nba]
    exact e
section
variable {P : Program} {w : World} {K : PySem.W.Frag} {mg : Str → Option Value} {base : Heap}
theorem ok_BadWriter_init {f D : Addr} {mc : Value} {fd : FuncData} (F : Fun K "__init__" "BadWriter.__init__" s_BadWriter_init f fd) (gD : mg "PagesError" = some (.ref D)) (U : Vx.UpC K D mc) : FnOk P w K mg base CX0 1 f fd ["self", "value"] (spErr K "value") := by
  refine F.ok sc_BadWriter_init (fun vs H Q E h => ?_) (fun cdv A outer s H vs Q E hr h => ?_)
  · obtain ⟨a, C, v, rfl, _⟩ := h
    rfl
  · obtain ⟨a, C, v, rfl, T, no, ha, q⟩ := h
    refine ⟨_, pss_cons (ps_expr (Vx.pe_up (pe_glob (v := .ref D) (by rfl) gD rfl) U (pa_cons (pv 0) (pa_cons pe_str pa_nil)))) (pss_one (ps_ost (pv 0) (pv 1))), ?_⟩
    exact ⟨rfl, _, rfl, a, C, _, rfl, (by decide), T, ha, _, rfl, _, rfl, a, C, rfl, T, no, .inl ⟨ha, fun d nd ne => q d nd ne⟩⟩
end
end Toy
set_option Elab.async false
set_option linter.all false
set_option maxRecDepth 100000
set_option maxHeartbeats 4000000
namespace Vx
open PySem PySem.Spec PyProof.Rows L2
section
variable {X : Cx} {CX : CXT} {k : Nat} {C f : Addr} {sp : Sp} {E : XK} {x : Str} {p pos : Pos}
theorem pe_makeZ (M : Mk X.K C f) (F : FnR X.prog X.w X.K X.mg X.base CX k f sp) (hr : Room (k + 1) X.A) (hg : Gl X x) (hm : X.mg x = some (.ref C)) (hx : Passes CX X E) (hd : (x == ("__debug__" : Str)) = false := by decide) :
    PE X (.Call (.Name x p) [] [] pos) (tMakeZ C sp E) := by
  refine ⟨fun pins s σ H Q I h => ?_⟩
  refine wpAny_Call_Name_kw (ld_glob I hg hm ?_ hd)
  exact PySem.W.callWith_K0 I.kIn M.kp (StX.run_makeR (us := []) M F hr hx I .nil h)
/-- len(o) of an own class -/
def rLenOwn (C : Addr) (sp : Sp) (E : XK) : List V → Hp → VK → Prop := fun xs H Q => (∃ a dx fs, xs = [.ref a] ∧ H a = some (.ins C dx fs)) ∧ sp xs H (fun v H' => ∃ n : Nat, v = .int n ∧ n < 1000000 ∧ Q (.int n) H') E
theorem call_lenOwn (at_ : PySem.W.findIn X.K (.ref C) "__len__" = some (some (.ref f))) (fn : PySem.W.isFn X.K (.ref f) = true) (F : FnR X.prog X.w X.K X.mg X.base CX k f sp) (hr : Room (k + 1) X.A) (hx : Passes CX X E) : CallR X (.builtin "len") (rLenOwn C sp E) := by
  intro pins s σ H xs us Q I r h
  obtain ⟨⟨a, dx, fs, rfl, ha⟩, hsp⟩ := h
  obtain ⟨u, rfl, rx⟩ := vals1 r
  cases rx
  have sb : Sub X k X.A.in1 := (⟨hr, rfl⟩ : Sub X (k + 1) X.A).in1
  obtain ⟨mA, J, _⟩ := ins_get I.hok ha
  obtain ⟨od, J, _⟩ := J.look
  obtain ⟨m, hF⟩ := I.fr
  refine PySem.W.len_K hF I.ok.mod.kin J at_ fn (wpAny_mono (wpAny_call (run_in (us := [.ref a]) (vs := [V.ref a]) sb F hx I (.cons rfl .nil) hsp)) (fun v s' hv => ?_) fun _ _ z => z)
  obtain ⟨v', H', I', rv, n, rfl, hn, q⟩ := hv
  obtain ⟨t, rfl⟩ := rv
  exact ⟨⟨by omega, by omega⟩, .int n, H', I'.tok _, ⟨_, rfl⟩, q⟩
end
end Vx
namespace Toy
open PySem PySem.Spec PyProof.Rows L2
/-! ### lists of numbers as data -/
def dk (k : Nat) : PyData := .int k
theorem dpAll_vi {K : PySem.W.Frag} {H : Hp} : ∀ ws : List Nat, DpAll K H (ws.map vi) (ws.map dk)
  | [] => .nil
  | k :: r => .cons (.int _) (dpAll_vi r)
theorem dp_vi {K : PySem.W.Frag} {H : Hp} {a : Addr} {ws : List Nat} (h : H a = some (.lst (ws.map vi))) : Dp K H (.ref a) (.list (ws.map dk)) := .lst (SqL.of h) (dpAll_vi ws)
theorem can_dk : ∀ ws : List Nat, PyData.canLayAll0 (ws.map dk) = true
  | [] => rfl
  | k :: r => by
    rw [List.map_cons]
    show (PyData.canLay0 (.int k) && PyData.canLayAll0 (r.map dk)) = true
    rw [can_dk r]
    rfl
theorem dep_dk : ∀ ws : List Nat, PyData.depthAll (ws.map dk) ≤ 1
  | [] => by decide
  | k :: r => by
    have ih := dep_dk r
    rw [List.map_cons]
    have e : PyData.depthAll (dk k :: r.map dk) = max (PyData.depth (dk k)) (PyData.depthAll (r.map dk)) := rfl
    have e2 : PyData.depth (dk k) ≤ 1 := by first | exact Nat.zero_le _ | exact Nat.le_refl _ | (show (0 : Nat) ≤ 1; decide) | (show (1 : Nat) ≤ 1; decide)
    rw [e]
    omega
theorem shp_dk (ws : List Nat) : SeqAt.shaped (.list (ws.map dk)) = true := by
  have h1 := can_dk ws
  have h2 := dep_dk ws
  unfold SeqAt.shaped
  rw [Bool.and_eq_true]
  refine ⟨h1, decide_eq_true ?_⟩
  have e : PyData.depth (.list (ws.map dk)) = PyData.depthAll (ws.map dk) + 1 := rfl
  omega
theorem eqv_dk : ∀ ws us : List Nat, PyData.eqvAll (ws.map dk) (us.map dk) = decide (ws = us)
  | [], [] => rfl
  | [], _ :: _ => rfl
  | _ :: _, [] => rfl
  | a :: r, b :: t => by
    show ((((a : Nat) : Int) == ((b : Nat) : Int)) && PyData.eqvAll (r.map dk) (t.map dk)) = _
    rw [eqv_dk r t]
    by_cases h : a = b
    · subst h
      simp
    · have h1 : (((a : Nat) : Int) == ((b : Nat) : Int)) = false := by simp; omega
      rw [h1]
      simp [h]
/-! ### the numbers of lists -/
def num (ws : List Nat) (z : Nat) : Nat := ws.foldl (fun a w => a ||| 2 ^ w) z
theorem num_bit : ∀ (ws : List Nat) (z k : Nat), (num ws z).testBit k = (z.testBit k || decide (k ∈ ws))
  | [], z, k => by simp [num]
  | w :: r, z, k => by
    show (num r (z ||| 2 ^ w)).testBit k = _
    rw [num_bit r, Nat.testBit_or, Nat.testBit_two_pow]
    by_cases h : w = k
    · subst h
      simp
    · have h2 : k ≠ w := fun e => h e.symm
      simp [h, h2]
theorem num_lt : ∀ (ws : List Nat) (z : Nat), (∀ w ∈ ws, w < 31) → z < 2147483648 → num ws z < 2147483648
  | [], _, _, hz => hz
  | w :: r, z, h, hz => num_lt r (z ||| 2 ^ w) (fun v hv => h v (List.mem_cons_of_mem _ hv)) (Nat.or_lt_two_pow (n := 31) hz (two_pow_lt (by have := h w (List.mem_cons_self); omega)))
theorem num_bits {n : Nat} (h : n < 2147483648) : num (bits n) 0 = n := by
  apply Nat.eq_of_testBit_eq
  intro k
  rw [num_bit, Nat.zero_testBit, Bool.false_or]
  by_cases hk : k < 31
  · by_cases hb : n.testBit k = true
    · rw [hb]
      exact decide_eq_true (mem_bits.mpr ⟨hk, hb⟩)
    · have hb' : n.testBit k = false := by simpa using hb
      rw [hb']
      exact decide_eq_false fun z => hb (mem_bits.mp z).2
  · rw [decide_eq_false fun z => hk (mem_bits.mp z).1]
    exact (Nat.testBit_lt_two_pow (Nat.lt_of_lt_of_le h (Nat.pow_le_pow_right (n := 2) (by decide) (show 31 ≤ k by omega)))).symm
theorem bits_num {ws : List Nat} (h : ∀ w ∈ ws, w < 31) : (List.range 31).filter (fun k => decide (k ∈ ws)) = bits (num ws 0) := by
  unfold bits
  apply List.filter_congr
  intro k hk
  rw [num_bit, Nat.zero_testBit, Bool.false_or]
theorem bits_inj {n m : Nat} (hn : n < 2147483648) (hm : m < 2147483648) (h : bits n = bits m) : n = m := by
  rw [← num_bits hn, ← num_bits hm, h]
theorem bits_dec {n m : Nat} (hn : n < 2147483648) (hm : m < 2147483648) : decide (bits n = bits m) = decide (n = m) := by
  by_cases h : n = m
  · subst h
    simp
  · rw [decide_eq_false h, decide_eq_false fun z => h (bits_inj hn hm z)]
theorem inside_dec {n m : Nat} (hn : n < 2147483648) : decide ((bits n).filter (fun k => !decide (k ∈ bits m)) = []) = decide (n &&& m = n) := by
  by_cases h : n &&& m = n
  · rw [decide_eq_true h]
    refine decide_eq_true (List.filter_eq_nil_iff.mpr fun k hk => ?_)
    obtain ⟨h1, h2⟩ := mem_bits.mp hk
    have h3 : m.testBit k = true := by
      have z : (n &&& m).testBit k = true := by rw [h]; exact h2
      rw [Nat.testBit_and, Bool.and_eq_true] at z
      exact z.2
    simp [mem_bits.mpr ⟨h1, h3⟩]
  · rw [decide_eq_false h]
    refine decide_eq_false fun z => h ?_
    apply Nat.eq_of_testBit_eq
    intro k
    rw [Nat.testBit_and]
    by_cases hb : n.testBit k = true
    · have hk : k < 31 := by
        rcases Nat.lt_or_ge k 31 with y | y
        · exact y
        · rw [Nat.testBit_lt_two_pow (Nat.lt_of_lt_of_le hn (Nat.pow_le_pow_right (n := 2) (by decide) y))] at hb
          cases hb
      have y := List.filter_eq_nil_iff.mp z k (mem_bits.mpr ⟨hk, hb⟩)
      have y2 : k ∈ bits m := by simpa using y
      rw [hb, (mem_bits.mp y2).2]
      rfl
    · have hb' : n.testBit k = false := by simpa using hb
      rw [hb']
      rfl
theorem bits_len (n : Nat) : (bits n).length ≤ 31 := Nat.le_trans (List.length_filter_le _ _) (by rw [List.length_range]; exact Nat.le_refl _)
theorem strOk_of (s : String) : PyData.strOk (Str.ofString s) = true := by
  rw [Str.ofString_eq_toList]
  unfold PyData.strOk
  simp only [List.all_toArray, List.all_map, List.all_eq_true, Function.comp, decide_eq_true_eq]
  intro c _
  have := c.valid
  show c.val.toNat < 1114112
  rcases this with h | h
  · exact Nat.lt_trans h (by decide)
  · exact h.2
section
variable {P : Program} {w : World} {K : PySem.W.Frag} {mg : Str → Option Value} {base : Heap} {C : Addr}
def spNumber (C : Addr) : Sp := fun vs H Q _ => ∃ (p : Addr) (n : Nat), vs = [.ref p] ∧ MoAt C H p n ∧ Q (vi n) H
theorem ok_number {f : Addr} {fd : FuncData} (F : Fun K "number" "Moment.number" s_Moment_number f fd) (T : Txt K mg C) : FnOk P w K mg base CX0 1 f fd ["self"] (spNumber C) := by
  refine F.ok sc_Moment_number (fun vs H Q E h => ?_) (fun cdv A outer s H vs Q E hr h => ?_)
  · obtain ⟨p, n, rfl, _⟩ := h
    rfl
  · obtain ⟨p, n, rfl, ⟨hn, dx, hp⟩, q⟩ := h
    exact ⟨_, pss_one (ps_ret (pe_fld (pv 0) rfl)), _, rfl, p, C, dx, _, _, rfl, hp, T.cl, T.nN, rfl, q⟩
def spLen (C : Addr) : Sp := fun vs H Q _ => ∃ (p : Addr) (n : Nat), vs = [.ref p] ∧ MoAt C H p n ∧ ∀ H', Same H H' → Q (vi (bits n).length) H'
theorem ok_len {f fW : Addr} {fd fdW : FuncData} (F : Fun K "__len__" "Moment.__len__" s_Moment_len f fd) (T : Txt K mg C) (mW : Meth K C "writers" fW) (GW : FnOk P w K mg base CX0 1 fW fdW ["self"] (spWri C)) (bW : L2.Binds K fdW ["self"] []) : FnOk P w K mg base CX0 2 f fd ["self"] (spLen C) := by
  refine F.ok sc_Moment_len (fun vs H Q E h => ?_) (fun cdv A outer s H vs Q E hr h => ?_)
  · obtain ⟨p, n, rfl, _⟩ := h
    rfl
  · obtain ⟨p, n, rfl, hp, q⟩ := h
    refine ⟨_, pss_one (ps_ret (pe_callB call_len_seq (by rfl) T.len PySem.boot_len (pa_cons (pe_meth0 (pv 0) T.cl mW GW hr bW .nil pass0) pa_nil))), ?_⟩
    obtain ⟨hn, dx, hp'⟩ := id hp
    refine ⟨_, rfl, p, dx, _, rfl, hp', rfl, p, n, rfl, hp, fun H1 l s1 nl e1 => ?_⟩
    refine ⟨l, _, rfl, .inl (SqL.of e1), ?_⟩
    rw [List.length_map]
    exact q H1 s1
end
end Toy
set_option Elab.async false
set_option linter.all false
set_option maxRecDepth 100000
set_option maxHeartbeats 4000000
namespace Vx
open PySem PySem.Spec PyProof.Rows L2
section
variable {X : Cx} {CX : CXT} {k : Nat} {C f : Addr} {sp : Sp} {E : L2.St → XK} {x : Str} {p pos : Pos} {e : Expr} {es : List Expr} {t : TA}
/-- C(e, ..) whose __init__ takes a star and may raise -/
def tMakeRS (C : Addr) (sp : Sp) (E : L2.St → XK) (t : TA) : TE := fun σ H Q => t σ H fun vs H1 => ∀ y dy, H1 y = none → H1 dy = none → dy ≠ y → sp (.ref y :: vs) (upd (upd H1 dy (.own y)) y (.ins C dy [])) (fun v H2 => v = .non ∧ Q (.ref y) H2) (E σ)
theorem pe_makeRS (M : Mk X.K C f) (F : FnR X.prog X.w X.K X.mg X.base CX k f sp) (hr : Room (k + 1) X.A) (hg : Gl X x) (hm : X.mg x = some (.ref C)) (hx : ∀ σ, PassesAt CX X σ (E σ)) (hA : PA X (e :: es) t)
    (h3 : (x == ("__debug__" : Str)) = false := by decide) (h4 : starEach (e :: es) X.env = (false, eval e X.env) :: starEach es X.env := by rfl) (h5 : (backTo pos (starEach es X.env)).any (·.1) = false := by rfl) :
    PE X (.Call (.Name x p) (e :: es) [] pos) (tMakeRS C sp E t) := by
  refine ⟨fun pn s σ H Q I h => wpAny_Call_Name_kw (ld_glob I hg hm ?_ h3)⟩
  refine PySem.W.callWith_K (h₀ := X.base) I.ok.mod.kin M.kp (thn (hA.run pos pn s σ H _ I h) fun us s1 hh => ?_) h4 h5
  obtain ⟨vs, H1, I1, r1, q⟩ := hh
  exact ⟨I1.kIn, run_makeRS M F hr (hx σ) I1 r1 q⟩
theorem pe_makeRS0 (M : Mk X.K C f) (F : FnR X.prog X.w X.K X.mg X.base CX k f sp) (hr : Room (k + 1) X.A) (hg : Gl X x) (hm : X.mg x = some (.ref C)) (hx : ∀ σ, PassesAt CX X σ (E σ)) (h3 : (x == ("__debug__" : Str)) = false := by decide) :
    PE X (.Call (.Name x p) [] [] pos) (tMakeRS C sp E tNil) :=
  ⟨fun pn s σ H Q I h => wpAny_Call_Name_kw (ld_glob I hg hm (PySem.W.callWith_K0 I.kIn M.kp (run_makeRS (us := []) M F hr (hx σ) I .nil h)) h3)⟩
theorem passO {X : Cx} (σ : L2.St) : PassesAt (L2.CX X.prog X.w) X σ ((fun _ => E0 : L2.St → XK) σ) := fun pins H s e s' I c => passL pins σ H s e s' I c
end
end Vx
namespace Toy
open PySem PySem.Spec PyProof.Rows L2
theorem filter_num (ws : List Nat) : ((List.range 31).filter fun k => decide (k ∈ ws)) = (List.range 31).filter fun k => (num ws 0).testBit k := List.filter_congr fun k _ => by rw [num_bit, Nat.zero_testBit, Bool.false_or]
theorem num0_lt {ws : List Nat} (h : ∀ k ∈ ws, k ≤ 30) : num ws 0 < 2147483648 := num_lt ws 0 (fun k hk => by have := h k hk; omega) (by decide)
theorem nv_vi {K : PySem.W.Frag} {H : Hp} {i : Int} {o : Option Int} (h : NV K H (.int i) o) : o = some i := by
  cases h with
  | int _ => rfl
  | oth _ _ _ n => exact (n i rfl).elim
theorem vi_of {K : PySem.W.Frag} {H : Hp} {x : V} {o : Option Int} (h : NV K H x o) (b : btw o 0 30 = true) : ∃ k : Nat, x = vi k ∧ k ≤ 30 := by
  cases o with
  | none => cases b
  | some i =>
    have e : (0 : Int) ≤ i ∧ i ≤ 30 := of_decide_eq_true b
    obtain ⟨k, rfl⟩ := Int.eq_ofNat_of_zero_le e.1
    exact ⟨k, h.some_eq, by omega⟩
theorem all_vi : ∀ {xs : List V}, (∀ x ∈ xs, ∃ k : Nat, x = vi k ∧ k ≤ 30) → ∃ ws : List Nat, xs = ws.map vi ∧ ∀ k ∈ ws, k ≤ 30
  | [], _ => ⟨[], rfl, fun k h => absurd h List.not_mem_nil⟩
  | x :: r, h => by
    obtain ⟨k, rfl, hk⟩ := h x List.mem_cons_self
    obtain ⟨ws, rfl, hw⟩ := all_vi fun y hy => h y (List.mem_cons_of_mem _ hy)
    exact ⟨k :: ws, rfl, fun j hj => by
      rcases List.mem_cons.mp hj with rfl | z
      · exact hk
      · exact hw j z⟩
/-- what a making of a moment of the values xs asks and gives: M of the number, B of the first value that is none -/
def Made (K : PySem.W.Frag) (H : Hp) (xs : List V) (G : Nat → Prop) (B : V → Prop) : Prop := (∀ x ∈ xs, ∃ o, NV K H x o) ∧ (∀ ws : List Nat, xs = ws.map vi → (∀ k ∈ ws, k ≤ 30) → G (num ws 0)) ∧
  (∀ (i : Nat) (x : V) (o : Option Int), xs[i]? = some x → NV K H x o → btw o 0 30 = false → (∀ (j : Nat) (y : V), j < i → xs[j]? = some y → ∃ k : Nat, y = vi k ∧ k ≤ 30) → B x)
theorem Made.mono {K : PySem.W.Frag} {H H' : Hp} {xs : List V} {G G' : Nat → Prop} {B B' : V → Prop} (m : Made K H xs G B) (s : Same H H') (g : ∀ n, G n → G' n) (b : ∀ x, B x → B' x) : Made K H' xs G' B' := by
  obtain ⟨m1, m2, m3⟩ := m
  refine ⟨fun x hx => ?_, fun ws e h => g _ (m2 ws e h), fun i x o hi hv hb hj => ?_⟩
  · obtain ⟨o, ho⟩ := m1 x hx
    exact ⟨o, ho.same s⟩
  · obtain ⟨o', ho⟩ := m1 x (List.mem_of_getElem? hi)
    by_cases hb' : btw o' 0 30 = true
    · obtain ⟨k, rfl, hk⟩ := vi_of ho hb'
      rw [nv_vi hv] at hb
      rw [show btw (some (k : Int)) 0 30 = true from decide_eq_true ⟨by omega, by omega⟩] at hb
      cases hb
    · exact b x (m3 i x o' hi ho (by simpa using hb') hj)
section
variable {P : Program} {w : World} {K : PySem.W.Frag} {mg : Str → Option Value} {base : Heap} {C W : Addr}
def spInitX (K : PySem.W.Frag) (C W : Addr) : Sp := fun vs H Q E => ∃ (H0 : Hp) (p dx t : Addr) (xs : List V), vs = [.ref p, .ref t] ∧ Same H0 H ∧ H0 p = none ∧ H p = some (.ins C dx []) ∧ H t = some (.tup xs) ∧ xs.length ≤ 40 ∧
  Made K H xs (fun n => ∀ H', Same H0 H' → H' p = some (.ins C dx (mo n)) → n < 2147483648 → Q .non H') (fun x => ∀ H' d, Same H0 H' → H0 d = none → H' d = some (.xd [("value", x)]) → E (.ref W) (some d) H')
theorem body_initX {A : Around} {outer : List Env} {s : Shared} {H : Hp} {vs : List V} {Q : VK} {E : XK} {f fI fE : Addr} {fdI fdE : FuncData} {cdv : Value} (T : Txt K mg C) (GI : FnOk P w K mg base CX0 3 fI fdI ["value"] (spIsWG K)) (kI : PySem.W.keepIn K (.ref fI) = true)
    (bI : L2.Binds K fdI ["value"] []) (gI : mg "is_writer_number" = some (.ref fI)) (er : Err P w K mg base "BadWriter" "value" W fE fdE (spErr K "value")) (hr : Room 3 (A.deeper (envOfC "Moment.__init__" (defScope s_Moment_init) s.heap.objs.size f cdv))) (h : spInitX K C W vs H Q E) :
    ∃ t, PSs (cxOf (L2.CX P w) P w K mg base ["self", "writers", "writer", "k"] "Moment.__init__" (defScope s_Moment_init) f cdv A outer s H E) (defBody s_Moment_init) t ∧ t { nx := fun _ H' => Q .non H', rt := Q } (L2.start ["self", "writers", "writer", "k"] vs) H := by
  obtain ⟨tk, lw⟩ := T.lw
  obtain ⟨H0, p, dx, t, xs, rfl, s0, p0, hp, ht, hz, hm⟩ := h
  have hr2 : Room 2 _ := hr.mono (by decide)
  refine ⟨_, pss_cons (ps_for (passes_of rfl) rfl (pi_tup (pv 1)) (pg_name (i := 2) sc_Moment_init.nd rfl (Or.inl rfl))
      (pss_one (ps_if (pt_not (pt_val (pe_call GI hr (by rfl) gI kI bI .nil pass0 (pa_cons (pv 2) pa_nil))))
        (pss_one (ps_raise rfl (takes_of rfl rfl rfl rfl) (pmk_oex er.T er.iC er.tI er.F hr2 er.b .nil pass0 (by rfl) er.gC (pa_cons (pv 2) pa_nil)))) pss_nil)))
    (pss_one (ps_fld (pv 0) (pe_callB (cr_sum rfl) (by rfl) T.sum (by decide +kernel) (pa_cons
      (pe_lc (own := [("k", 3)]) (g := gName 3) rfl sc_Moment_init.nd (pi_range1 (by rfl) T.range (pa_cons (pe_op op_add (pe_glob (v := .int 30) (by rfl) lw ⟨_, rfl⟩) pe_int) pa_nil))
        (blkOk_by (own := [("k", 3)]) (N := ["self", "writers", "writer", "k"]) (sc := defScope s_Moment_init) (by decide +kernel)) (fun _ _ _ _ _ => pg_name (i := 3) sc_Moment_init.nd rfl (Or.inl rfl))
        (fun _ _ _ _ _ => pts_one (pt_cmpR (Vx.op_inK (K := K) rfl) (pv 3) (pv 1) (by rfl))) (fun _ _ _ _ _ => pe_op op_shl pe_int (pv 3))) pa_nil)) rfl)), ?_⟩
  have hT : SqT K H t xs := SqT.of ht
  obtain ⟨m1, m2, m3⟩ := hm
  refine ⟨.ref t, rfl, t, rfl, ⟨_, hT⟩, for_tup (K := K) (a := t) (xs := xs) (fun i σ H' => H' = H ∧ (∀ j y, j < i → xs[j]? = some y → ∃ k : Nat, y = vi k ∧ k ≤ 30) ∧ ∃ v, σ = [some (.ref p), some (.ref t), v, none]) ⟨rfl, fun j y h => absurd h (Nat.not_lt_zero _), none, rfl⟩ (fun i σ H' _ e => e.1 ▸ hT) ?_ ?_⟩
  · rintro i x σ H' hi ⟨rfl, hj, v, rfl⟩
    obtain ⟨o, hv⟩ := m1 x (List.mem_of_getElem? hi)
    refine ⟨_, rfl, x, o, rfl, hv, btw o 0 30, rfl, ?_⟩
    cases e : btw o 0 30 with
    | false => exact iteT ⟨_, rfl, Nat.le_of_ble_eq_true rfl, fun a na => err_end er.T er.no na fun H2 d sm nd hd => m3 i x o hi hv e hj H2 d (s0.trans sm) (s0.free nd) hd⟩
    | true =>
      refine iteF ⟨rfl, fun j y h hy => ?_, _, rfl⟩
      by_cases hji : j < i
      · exact hj j y hji hy
      · obtain rfl : j = i := by omega
        rw [hi] at hy
        cases hy
        exact vi_of hv e
  · rintro σ H' ⟨rfl, hj, v, rfl⟩
    obtain ⟨ws, rfl, hw⟩ := all_vi (xs := xs) fun x hx => by
      obtain ⟨j, hjx⟩ := List.mem_iff_getElem?.mp hx
      exact hj j x (List.getElem?_eq_some_iff.mp hjx).1 hjx
    have q := m2 ws rfl hw
    refine ⟨30, 1, rfl, rfl, 31, rfl, by decide, by decide, fun D hD => ?_⟩
    refine lc_range (lo := 0) (n := 31) (fun i H2 => Same H' H2 ∧ H2 D = some (.lst (((List.range i).filter fun k => decide (k ∈ ws)).map fun k => V.int ((2 ^ k : Nat) : Int)))) ⟨same_upd hD, upd_same⟩ ?_ ?_
    · rintro i H2 hi ⟨s2, e2⟩
      refine ⟨rfl, .int (0 + (i : Int)), rfl, .ref t, rfl, t, _, rfl, .inr (SqT.of (s2 _ _ ht)), rfl, flat_vi _, _, rfl, ?_⟩
      have ei : V.int (0 + (i : Int)) = vi i := by rw [Int.zero_add]; rfl
      show if (if false = true then !inV (V.int (0 + (i : Int))) (ws.map vi) else inV (V.int (0 + (i : Int))) (ws.map vi)) = true then _ else _
      rw [ei, inV_vi]
      by_cases hm : i ∈ ws
      · refine ite2 (fun _ => ?_) (fun z => absurd (by simpa using hm) z)
        refine ⟨vi i, rfl, 1, (i : Int), rfl, rfl, ⟨by omega, by omega, by decide⟩, _, e2, ?_, fun b o e => ?_, ?_⟩
        · rw [List.length_map]
          exact Nat.lt_of_le_of_lt (Nat.le_trans (List.length_filter_le _ _) (by rw [List.length_range]; exact Nat.le_of_lt hi)) (by decide)
        · rw [upd_ne (ne_of_none e hD)]
          exact s2 _ _ e
        · rw [upd_same, bits_succ, if_pos (decide_eq_true hm), List.map_append]
          have e3 : (1 : Int) * 2 ^ ((i : Int)).toNat = ((2 ^ i : Nat) : Int) := by simp
          show some (HO.lst (_ ++ [V.int (1 * 2 ^ ((i : Int)).toNat)])) = _
          rw [e3]
          rfl
      · refine ite2 (fun z => absurd (by simpa using z) hm) (fun _ => ⟨s2, ?_⟩)
        rw [bits_succ, if_neg (by simpa using hm)]
        exact e2
    · rintro H2 ⟨s2, e2⟩
      refine ⟨D, ((List.range 31).filter fun k => decide (k ∈ ws)).map fun k => ((2 ^ k : Nat) : Int), rfl, SqL.of (by rw [List.map_map]; exact e2), ?_⟩
      rw [filter_num, sum_bits, Nat.mod_eq_of_lt (show num ws 0 < 2 ^ 31 from num0_lt hw)]
      refine ⟨_, rfl, p, C, dx, [], rfl, s2 _ _ hp, T.cl, T.nN, (by decide), ?_⟩
      refine q _ (fun b o e => ?_) upd_same (num0_lt hw)
      have nb : b ≠ p := fun z => by rw [z, p0] at e; cases e
      rw [upd_ne nb]
      exact s2 _ _ (s0 _ _ e)
end
end Toy
set_option Elab.async false
set_option linter.all false
set_option maxRecDepth 100000
set_option maxHeartbeats 4000000
namespace Toy
open PySem PySem.Spec PyProof.Rows L2
theorem lenF {n : Nat} {m : Int} (h : (n : Int) ≠ m) : V.bl (decide (V.int (n : Int) = V.int m)) = V.bl false := congrArg V.bl (decide_eq_false fun z => h (by injection z))
theorem lenT {n : Nat} {m : Int} (h : (n : Int) = m) : V.bl (decide (V.int (n : Int) = V.int m)) = V.bl true := congrArg V.bl (decide_eq_true (by rw [h]))
theorem made_same {H : Hp} {x dx : Addr} {C : Addr} (nx : H x = none) (nd : H dx = none) : Same H (upd (upd H dx (.own x)) x (.ins C dx [])) := fun c o y => by
  rw [upd_ne (ne_of_none y nx), upd_ne (ne_of_none y nd)]
  exact y
section
variable {P : Program} {w : World} {K : PySem.W.Frag} {mg : Str → Option Value} {base : Heap} {C W : Addr}
def spMkX (K : PySem.W.Frag) (C W : Addr) : Sp := fun vs H Q E => ∃ (H0 : Hp) (p dx : Addr) (xs : List V), vs = .ref p :: xs ∧ Same H0 H ∧ H0 p = none ∧ H p = some (.ins C dx []) ∧ xs.length ≤ 40 ∧
  Made K H xs (fun n => ∀ H', Same H0 H' → H' p = some (.ins C dx (mo n)) → n < 2147483648 → Q .non H') (fun x => ∀ H' d, Same H0 H' → H0 d = none → H' d = some (.xd [("value", x)]) → E (.ref W) (some d) H')
theorem ok_mkX {f fI fE : Addr} {fdI fdE : FuncData} {oc kV doc pm cdv ct : Value} {od an : Option Addr} {osl : Array (Option Value)} (lk : K.lookup f = some ⟨oc, od, .func (PySem.W.fnOf "__init__" "Moment.__init__" (defArgs s_Moment_init) (defBody s_Moment_init) (defScope s_Moment_init) .none kV doc pm an cdv ct), osl⟩)
    (hcd : PySem.W.codeIn K cdv "Moment.__init__" = true) (T : Txt K mg C) (GI : FnOk P w K mg base CX0 3 fI fdI ["value"] (spIsWG K)) (kI : PySem.W.keepIn K (.ref fI) = true) (bI : L2.Binds K fdI ["value"] []) (gI : mg "is_writer_number" = some (.ref fI)) (er : Err P w K mg base "BadWriter" "value" W fE fdE (spErr K "value")) :
    FnR P w K mg base (L2.CX P w) 4 f (spMkX K C W) := by
  have z : FnR P w K mg base (L2.CX P w) 4 f _ := StX.fn_star (sp := spInitX K C W) (ps := ["self"]) (pv := "writers") lk hcd sc_Moment_init StX.cxUp (StX.bind_star1 (B := fun us => bindArgs (PySem.W.fnOf "__init__" "Moment.__init__" (defArgs s_Moment_init) (defBody s_Moment_init) (defScope s_Moment_init) .none kV doc pm an cdv ct) ⟨us, []⟩) (p1 := "self") (pv := "writers") (fun a => by rfl) (fun a r rs => by rfl)) (fun A outer s H vs Q E hr h => body_initX T GI kI bI gI er hr h)
  refine z.imp fun vs H Q E h => ?_
  obtain ⟨H0, p, dx, xs, rfl, s0, p0, hp, hz, hm⟩ := h
  refine ⟨[.ref p], xs, rfl, rfl, Nat.le_trans hz (by decide), fun t ht => ?_⟩
  have npt : p ≠ t := ne_of_none hp ht
  exact ⟨H0, p, dx, t, xs, rfl, s0.trans (same_upd ht), p0, by rw [upd_ne npt]; exact hp, upd_same, hz, hm.mono (same_upd ht) (fun _ z => z) (fun _ z => z)⟩
/-! ### _law_made -/
def spMade (K : PySem.W.Frag) (C W : Addr) : Sp := fun vs H Q E => ∃ (l : Addr) (xs : List V), vs = [.ref l] ∧ H l = some (.lst xs) ∧ xs.length ≤ 5 ∧
  Made K H xs (fun n => ∀ H' p, Same H H' → H p = none → MoAt C H' p n → Q (.ref p) H') (fun x => ∀ H' d, Same H H' → H d = none → H' d = some (.xd [("value", x)]) → E (.ref W) (some d) H')
theorem mk_ask {H : Hp} {xs : List V} {Q : VK} {E : XK} {y dy : Addr} (hz : xs.length ≤ 5) (hm : Made K H xs (fun n => ∀ H' p, Same H H' → H p = none → MoAt C H' p n → Q (.ref p) H') (fun x => ∀ H' d, Same H H' → H d = none → H' d = some (.xd [("value", x)]) → E (.ref W) (some d) H'))
    (ny : H y = none) (nd : H dy = none) : spMkX K C W (.ref y :: xs) (upd (upd H dy (.own y)) y (.ins C dy [])) (fun v H2 => v = .non ∧ Q (.ref y) H2) E :=
  ⟨H, y, dy, xs, rfl, made_same ny nd, ny, upd_same, Nat.le_trans hz (by decide), hm.mono (made_same ny nd) (fun n q H' s e b => ⟨rfl, q H' y s ny ⟨b, dy, e⟩⟩) (fun _ q => q)⟩
theorem ok_made {f fM : Addr} {fd : FuncData} (F : Fun K "_law_made" "_law_made" s_law_made f fd) (M : Mk K C fM) (GM : FnR P w K mg base (L2.CX P w) 4 fM (spMkX K C W)) (gC : mg "Moment" = some (.ref C)) (ml : mg "len" = none) : FnOk P w K mg base (L2.CX P w) 6 f fd ["values"] (spMade K C W) := by
  refine F.okX sc_law_made (fun vs H Q E h => ?_) (fun cdv A outer s H vs Q E hr h => ?_)
  · obtain ⟨l, xs, rfl, _⟩ := h
    rfl
  · obtain ⟨l, xs, rfl, hl, hz, hm⟩ := h
    have hr5 : Room 5 _ := hr
    refine ⟨_, pss_cons (ps_if (pt_cmpR op_eq (pe_callB call_len_seq (by rfl) ml PySem.boot_len (pa_cons (pv 0) pa_nil)) pe_int (nomark _)) (pss_one (ps_ret (Vx.pe_makeRS0 M GM hr5 (by rfl) gC (fun σ => passAt (takes_of rfl rfl rfl rfl) σ)))) pss_nil)
      (pss_cons (ps_if (pt_cmpR op_eq (pe_callB call_len_seq (by rfl) ml PySem.boot_len (pa_cons (pv 0) pa_nil)) pe_int (nomark _)) (pss_one (ps_ret (Vx.pe_makeRS M GM hr5 (by rfl) gC (fun σ => passAt (takes_of rfl rfl rfl rfl) σ) (pa_cons (pe_ix ix_list (pv 0) pe_int (fun _ _ => rfl)) pa_nil)))) pss_nil)
      (pss_cons (ps_if (pt_cmpR op_eq (pe_callB call_len_seq (by rfl) ml PySem.boot_len (pa_cons (pv 0) pa_nil)) pe_int (nomark _)) (pss_one (ps_ret (Vx.pe_makeRS M GM hr5 (by rfl) gC (fun σ => passAt (takes_of rfl rfl rfl rfl) σ) (pa_cons (pe_ix ix_list (pv 0) pe_int (fun _ _ => rfl)) (pa_cons (pe_ix ix_list (pv 0) pe_int (fun _ _ => rfl)) pa_nil))))) pss_nil)
      (pss_cons (ps_if (pt_cmpR op_eq (pe_callB call_len_seq (by rfl) ml PySem.boot_len (pa_cons (pv 0) pa_nil)) pe_int (nomark _)) (pss_one (ps_ret (Vx.pe_makeRS M GM hr5 (by rfl) gC (fun σ => passAt (takes_of rfl rfl rfl rfl) σ) (pa_cons (pe_ix ix_list (pv 0) pe_int (fun _ _ => rfl)) (pa_cons (pe_ix ix_list (pv 0) pe_int (fun _ _ => rfl)) (pa_cons (pe_ix ix_list (pv 0) pe_int (fun _ _ => rfl)) pa_nil)))))) pss_nil)
      (pss_cons (ps_if (pt_cmpR op_eq (pe_callB call_len_seq (by rfl) ml PySem.boot_len (pa_cons (pv 0) pa_nil)) pe_int (nomark _)) (pss_one (ps_ret (Vx.pe_makeRS M GM hr5 (by rfl) gC (fun σ => passAt (takes_of rfl rfl rfl rfl) σ) (pa_cons (pe_ix ix_list (pv 0) pe_int (fun _ _ => rfl)) (pa_cons (pe_ix ix_list (pv 0) pe_int (fun _ _ => rfl)) (pa_cons (pe_ix ix_list (pv 0) pe_int (fun _ _ => rfl)) (pa_cons (pe_ix ix_list (pv 0) pe_int (fun _ _ => rfl)) pa_nil))))))) pss_nil)
      (pss_one (ps_ret (Vx.pe_makeRS M GM hr5 (by rfl) gC (fun σ => passAt (takes_of rfl rfl rfl rfl) σ) (pa_cons (pe_ix ix_list (pv 0) pe_int (fun _ _ => rfl)) (pa_cons (pe_ix ix_list (pv 0) pe_int (fun _ _ => rfl)) (pa_cons (pe_ix ix_list (pv 0) pe_int (fun _ _ => rfl)) (pa_cons (pe_ix ix_list (pv 0) pe_int (fun _ _ => rfl)) (pa_cons (pe_ix ix_list (pv 0) pe_int (fun _ _ => rfl)) pa_nil)))))))))))), ?_⟩
    have S := SqL.of (K := K) hl
    match xs, hz, hm, hl, S with
    | [], hz, hm, hl, S => exact ⟨_, rfl, l, _, rfl, .inl S, rfl, true, lenT (by simp), iteT (fun y dy ny nd _ => mk_ask (E := _) hz hm ny nd)⟩
    | [a], hz, hm, hl, S => exact ⟨_, rfl, l, _, rfl, .inl S, rfl, false, lenF (by simp), iteF ⟨_, rfl, l, _, rfl, .inl S, rfl, true, lenT (by simp), iteT ⟨_, rfl, l, _, _, _, rfl, rfl, S, rfl, fun y dy ny nd _ => mk_ask (E := _) hz hm ny nd⟩⟩⟩
    | [a, b], hz, hm, hl, S => exact ⟨_, rfl, l, _, rfl, .inl S, rfl, false, lenF (by simp), iteF ⟨_, rfl, l, _, rfl, .inl S, rfl, false, lenF (by simp), iteF ⟨_, rfl, l, _, rfl, .inl S, rfl, true, lenT (by simp), iteT ⟨_, rfl, l, _, _, _, rfl, rfl, S, rfl, _, rfl, l, _, _, _, rfl, rfl, S, rfl, fun y dy ny nd _ => mk_ask (E := _) hz hm ny nd⟩⟩⟩⟩
    | [a, b, c], hz, hm, hl, S => exact ⟨_, rfl, l, _, rfl, .inl S, rfl, false, lenF (by simp), iteF ⟨_, rfl, l, _, rfl, .inl S, rfl, false, lenF (by simp), iteF ⟨_, rfl, l, _, rfl, .inl S, rfl, false, lenF (by simp), iteF ⟨_, rfl, l, _, rfl, .inl S, rfl, true, lenT (by simp), iteT ⟨_, rfl, l, _, _, _, rfl, rfl, S, rfl, _, rfl, l, _, _, _, rfl, rfl, S, rfl, _, rfl, l, _, _, _, rfl, rfl, S, rfl, fun y dy ny nd _ => mk_ask (E := _) hz hm ny nd⟩⟩⟩⟩⟩
    | [a, b, c, d], hz, hm, hl, S => exact ⟨_, rfl, l, _, rfl, .inl S, rfl, false, lenF (by simp), iteF ⟨_, rfl, l, _, rfl, .inl S, rfl, false, lenF (by simp), iteF ⟨_, rfl, l, _, rfl, .inl S, rfl, false, lenF (by simp), iteF ⟨_, rfl, l, _, rfl, .inl S, rfl, false, lenF (by simp), iteF ⟨_, rfl, l, _, rfl, .inl S, rfl, true, lenT (by simp), iteT ⟨_, rfl, l, _, _, _, rfl, rfl, S, rfl, _, rfl, l, _, _, _, rfl, rfl, S, rfl, _, rfl, l, _, _, _, rfl, rfl, S, rfl, _, rfl, l, _, _, _, rfl, rfl, S, rfl, fun y dy ny nd _ => mk_ask (E := _) hz hm ny nd⟩⟩⟩⟩⟩⟩
    | [a, b, c, d, e], hz, hm, hl, S => exact ⟨_, rfl, l, _, rfl, .inl S, rfl, false, lenF (by simp), iteF ⟨_, rfl, l, _, rfl, .inl S, rfl, false, lenF (by simp), iteF ⟨_, rfl, l, _, rfl, .inl S, rfl, false, lenF (by simp), iteF ⟨_, rfl, l, _, rfl, .inl S, rfl, false, lenF (by simp), iteF ⟨_, rfl, l, _, rfl, .inl S, rfl, false, lenF (by simp), iteF ⟨_, rfl, l, _, _, _, rfl, rfl, S, rfl, _, rfl, l, _, _, _, rfl, rfl, S, rfl, _, rfl, l, _, _, _, rfl, rfl, S, rfl, _, rfl, l, _, _, _, rfl, rfl, S, rfl, _, rfl, l, _, _, _, rfl, rfl, S, rfl, fun y dy ny nd _ => mk_ask (E := _) hz hm ny nd⟩⟩⟩⟩⟩⟩
    | _ :: _ :: _ :: _ :: _ :: _ :: _, hz, _, _, _ => exact absurd hz (by simp)
end
end Toy
set_option Elab.async false
set_option linter.all false
set_option maxRecDepth 100000
set_option maxHeartbeats 4000000
namespace Gd
open PySem PySem.Spec PyProof.Rows L2
theorem call_reprK {X : Cx} {K : PySem.W.Frag} (hK : X.K = K) (g : Calm0 X.A) (hu : X.A.units + 64 < cLine) : CallR X (.builtin "repr") (fun xs H Q => ∃ v d, xs = [v] ∧ Dp K H v d ∧ okShow d = true ∧ Q (.str d.shown) H) := hK ▸ call_reprD g hu
mutual
theorem dp_same {K : PySem.W.Frag} {H H' : Hp} (s : Same H H') : ∀ {v : V} {d : PyData}, Dp K H v d → Dp K H' v d
  | _, _, .non => .non
  | _, _, .bl b => .bl b
  | _, _, .int i => .int i
  | _, _, .str x => .str x
  | _, _, .lst h r => .lst (s.seq h) (dp_sameAll s r)
  | _, _, .tup h r => .tup (SqT.ext h s) (dp_sameAll s r)
theorem dp_sameAll {K : PySem.W.Frag} {H H' : Hp} (s : Same H H') : ∀ {vs : List V} {ds : List PyData}, DpAll K H vs ds → DpAll K H' vs ds
  | _, _, .nil => .nil
  | _, _, .cons h r => .cons (dp_same s h) (dp_sameAll s r)
end
end Gd
namespace Toy
open PySem PySem.Spec PyProof.Rows L2
theorem off {H : Hp} {p c a : Addr} (P : Pot H p c) (n : H a = none) : a ≠ p ∧ a ≠ c := by
  obtain ⟨cs, at_, x, h1, h2, _⟩ := P
  exact ⟨(ne_of_none h1 n).symm, (ne_of_none h2 n).symm⟩
theorem log_ok {i : Int} (h : i.natAbs < 2 ^ 200) : i.natAbs.log2 < 1920 := by
  by_cases z : i.natAbs = 0
  · rw [z]; decide
  · exact (Nat.log2_lt z).mpr (Nat.lt_trans h (Nat.pow_lt_pow_right (by decide) (by decide)))
section
variable {P : Program} {w : World} {K : PySem.W.Frag} {mg : Str → Option Value} {base : Heap} {C W : Addr}
def told3 (x : Str) : List V := [.str x, .bl true, .bl true]
def spRefd (K : PySem.W.Frag) : Sp := fun vs H Q _ => ∃ (l : Addr) (xs : List V), vs = [.ref l] ∧ H l = some (.lst xs) ∧ xs.length ≤ 5 ∧
  Made K H xs (fun _ => ∀ H', Same H H' → Q .non H') (fun x => ∃ d, Dp K H x d ∧ Gd.okShow d = true ∧ ∀ H' l', Same H H' → H' l' = some (.lst (told3 d.shown)) → Q (.ref l') H')
structure KitW (K : PySem.W.Frag) (mg : Str → Option Value) (W D : Addr) : Prop where
  isi : mg "isinstance" = none
  rep : mg "repr" = none
  gW : mg "BadWriter" = some (.ref W)
  gD : mg "PagesError" = some (.ref D)
  ve : mg "ValueError" = none
  kD : PySem.W.kitOne K (.ref W) (.ref D) = some true
  kV : PySem.W.kitOne K (.ref W) (.type "ValueError") = some true
structure Sui (K : PySem.W.Frag) (B : Addr) (f : Str) : Prop where
  X : Vx.ExcX K B
  F : XfC K B
  no : PySem.W.findIn K (.ref B) f = some none
  ex : PySem.W.exmOne K (.ref B) (.ref B) = some true
theorem ok_refd {f fA D : Addr} {fd fdA : FuncData} (F : Fun K "_law_refused" "_law_refused" s_law_refused f fd) (b : L2.Binds K fd ["values"] []) (GA : FnOk P w K mg base (L2.CX P w) 6 fA fdA ["values"] (spMade K C W)) (kA : PySem.W.keepIn K (.ref fA) = true) (bA : L2.Binds K fdA ["values"] []) (gA : mg "_law_made" = some (.ref fA)) (S : Sui K W "value") (T : KitW K mg W D) :
    Gd.FnG P w K mg base CX0 8 f (spRefd K) := by
  refine Gd.fnG_ok F sc_law_refused b (fun vs H Q E h => ?_) (fun cdv A outer s H vs Q E g hr h => ?_)
  · obtain ⟨l, xs, rfl, _⟩ := h
    rfl
  · obtain ⟨l, xs, rfl, hl, hz, hm⟩ := h
    have hr6 : Room 6 _ := hr.mono (by decide)
    refine ⟨_, pss_cons (ps_set (i := 1) sc_law_refused.nd rfl (Or.inl rfl) pe_non)
      (pss_cons (ps_try_as (i := 2) rfl rfl sc_law_refused.nd rfl rfl ⟨rfl, by decide, .inl T.gW⟩ takes0
        (fun W pn xe tk _ => pss_one (ps_expr (pe_callS GA hr6 (by rfl) gA kA bA (fun σ => passAt tk σ) (pa_cons (pv 0) pa_nil))))
        (fun a oe cls d pn hz hf => pss_one (ps_set (i := 1) sc_law_refused.nd rfl (Or.inl rfl) (pe_lst (pa_cons (pe_callB (Gd.call_reprK (K := K) rfl g hr.units) (by rfl) T.rep (by decide +kernel) (pa_cons (pe_xf S.F S.no hz hf (pv 2)) pa_nil))
          (pa_cons (pe_callB (Vx.call_isX S.X hz hf) (by rfl) T.isi (by decide +kernel) (pa_cons (pv 2) (pa_cons (pe_glob (v := .ref D) (by rfl) T.gD rfl) pa_nil)))
          (pa_cons (pe_callB (Vx.call_isX S.X hz hf) (by rfl) T.isi (by decide +kernel) (pa_cons (pv 2) (pa_cons (pe_bltn (v := .ty "ValueError") (by rfl) T.ve (by decide +kernel) rfl) pa_nil))) pa_nil)))))))
      (pss_one (ps_ret (pv 1)))), ?_⟩
    refine ⟨_, rfl, l, xs, rfl, hl, hz, hm.mono (Same.refl H) (fun n q H' p s' np hm => ⟨_, rfl, q H' s'⟩) (fun x q H' dd s' nd hd' => ?_)⟩
    obtain ⟨d, hd, ok, q⟩ := q
    refine ⟨true, S.ex, fun _ a ha => ?_, fun z => nomatch z⟩
    refine ⟨_, rfl, rfl, rfl, dd, _, _, rfl, hd', rfl, x, d, rfl, Gd.dp_same s' hd, ok, ?_⟩
    refine ⟨_, rfl, rfl, dd, _, .ref D, .ref D, true, rfl, hd', rfl, fun u z => z, T.kD, ?_⟩
    refine ⟨_, rfl, rfl, dd, _, .ty "ValueError", .type "ValueError", true, rfl, hd', rfl, fun u z => z, T.kV, ?_⟩
    exact ⟨by show 3 ≤ sizeLine; decide, fun m nm => ⟨_, rfl, q _ m (s'.trans (same_upd nm)) upd_same⟩⟩
/-! ### _law_power -/
def spPow : Sp := fun vs H Q _ => ∃ k : Nat, vs = [vi k] ∧ k ≤ 30 ∧ Q (vi (2 ^ k)) H
theorem ok_pow {f : Addr} {fd : FuncData} (F : Fun K "_law_power" "_law_power" s_law_power f fd) (mr : mg "range" = none) : FnOk P w K mg base CX0 1 f fd ["writer"] spPow := by
  refine F.ok sc_law_power (fun vs H Q E h => ?_) (fun cdv A outer s H vs Q E hr h => ?_)
  · obtain ⟨k, rfl, _⟩ := h
    rfl
  · obtain ⟨k, rfl, hk, q⟩ := h
    refine ⟨_, pss_cons (ps_set (i := 1) sc_law_power.nd rfl (Or.inl rfl) pe_int)
      (pss_cons (ps_for PassesOwn.never rfl (pi_range1 (by rfl) mr (pa_cons (pv 0) pa_nil)) (pg_name (i := 2) sc_law_power.nd rfl (Or.inl rfl)) (pss_one (ps_set (i := 1) sc_law_power.nd rfl (Or.inl rfl) (pe_op op_mul (pv 1) pe_int))))
      (pss_one (ps_ret (pv 1)))), ?_⟩
    refine ⟨_, rfl, (k : Int), rfl, by omega, by omega, ?_⟩
    have tn : ((k : Int)).toNat = k := Int.toNat_natCast k
    refine for_range (n := ((k : Int)).toNat) (fun i σ H' => H' = H ∧ ∃ v, σ = [some (vi k), some (vi (2 ^ i)), v]) ⟨rfl, none, rfl⟩ ?_ ?_
    · rintro i σ H' hi ⟨rfl, v, rfl⟩
      refine ⟨_, rfl, _, _, rfl, rfl, .inr ⟨by decide, by decide⟩, rfl, some (.int (0 + (i : Int))), ?_⟩
      have e : (((2 ^ i : Nat) : Int) * 2) = ((2 ^ (i + 1) : Nat) : Int) := by rw [Nat.pow_succ, Int.natCast_mul]; rfl
      show ([some (vi k), some (V.int (((2 ^ i : Nat) : Int) * 2)), some (V.int (0 + (i : Int)))] : L2.St) = _
      rw [e]
      rfl
    · rintro σ H' ⟨rfl, v, rfl⟩
      rw [tn]
      exact ⟨_, rfl, q⟩
/-! ### _law_odd -/
def Oddly (K : PySem.W.Frag) (H : Hp) (x : V) : Prop := ∃ o d, btw o 0 30 = false ∧ NV K H x o ∧ Dp K H x d ∧ Gd.okShow d = true ∧ PyData.strOk d.shown = true ∧ PyData.canLay0 d = true ∧ PyData.depth d ≤ 5
def OddNew (K : PySem.W.Frag) (H H' : Hp) (x : V) : Prop := ∀ H2 : Hp, (∀ b o, H b = none → H' b = some o → H2 b = some o) → Oddly K H2 x
structure Drw (P : Program) (w : World) (K : PySem.W.Frag) (mg : Str → Option Value) (base : Heap) (fD : Addr) (fdD : FuncData) : Prop where
  G : FnOk P w K mg base CX0 1 fD fdD ["pot", "many"] spDraw
  k : PySem.W.keepIn K (.ref fD) = true
  b : L2.Binds K fdD ["pot", "many"] []
  g : mg "_law_draw" = some (.ref fD)
def spOdd (K : PySem.W.Frag) : Sp := fun vs H Q _ => ∃ (p c : Addr), vs = [.ref p] ∧ Pot H p c ∧ ∀ H' v, Pot H' p c → Kept p c H H' → OddNew K H H' v → Q v H'
theorem ok_odd {f fD : Addr} {fd fdD : FuncData} (F : Fun K "_law_odd" "_law_odd" s_law_odd f fd) (D : Drw P w K mg base fD fdD) : FnOk P w K mg base CX0 2 f fd ["pot"] (spOdd K) := by
  refine F.ok sc_law_odd (fun vs H Q E h => ?_) (fun cdv A outer s H vs Q E hr h => ?_)
  · obtain ⟨p, c, rfl, _⟩ := h
    rfl
  · obtain ⟨p, c, rfl, hP, q⟩ := h
    refine ⟨_, pss_cons (ps_set (i := 1) sc_law_odd.nd rfl (Or.inl rfl) (pe_lst (pa_cons pe_non (pa_cons pe_bl (pa_cons pe_bl (pa_cons pe_str (pa_cons pe_str (pa_cons (pe_tup (pa_cons pe_int pa_nil)) (pa_cons (pe_lst (pa_cons pe_int pa_nil)) (pa_cons (pe_un un_neg pe_int) (pa_cons pe_int (pa_cons (pe_op op_pow pe_int pe_int) pa_nil))))))))))))
      (pss_one (ps_ret (pe_ix ix_list (pv 1) (pe_call D.G hr (by rfl) D.g D.k D.b .nil pass0 (pa_cons (pv 0) (pa_cons pe_int pa_nil))) (fun _ _ => rfl)))), ?_⟩
    refine ⟨by decide, fun t nt => ⟨by decide, fun l nl => ⟨1, rfl, 10, 24, rfl, rfl, ⟨by decide, by decide, by decide⟩, (by show 10 ≤ sizeLine; decide), fun a na => ?_⟩⟩⟩
    have s1 := same_upd (o := .tup [V.int 1]) nt
    have s2 := same_upd (o := .lst [V.int 1]) nl
    have nl0 : H l = none := s1.free nl
    generalize eXS : [V.non, V.bl true, V.bl false, V.str (Str.ofString "1"), V.str (Str.ofString ""), V.ref t, V.ref l, (fun (i : Int) => V.int (-i)) 1, V.int 31, (fun (i j : Int) => V.int (i ^ j.toNat)) 10 24] = XS
    have s3 := s1.trans (s2.trans (same_upd (o := .lst XS) na))
    refine ⟨_, rfl, _, rfl, p, c, 10, rfl, hP.same s3, by decide, by decide, fun H1 d P1 K1 d0 d1 => ?_⟩
    have oa := off (hP.same (s1.trans s2)) na
    have ol := off (hP.same s1) nl
    have ot := off hP nt
    have e1 := K1 a _ oa.1 oa.2 upd_same
    have et := K1 t _ ot.1 ot.2 ((same_upd na) _ _ (s2 _ _ upd_same))
    have el := K1 l _ ol.1 ol.2 ((same_upd na) _ _ upd_same)
    obtain ⟨k, rfl⟩ := Int.eq_ofNat_of_zero_le d0
    have lXS : XS.length = 10 := by rw [← eXS]; rfl
    have hv : XS[k]? = some (XS[k]'(by omega)) := List.getElem?_eq_getElem (by omega)
    have hX : ∀ x ∈ XS, OddNew K H H1 x := by
      intro x hx H2 hk
      rw [← eXS] at hx
      simp only [List.mem_cons, List.not_mem_nil, or_false] at hx
      have et2 := hk t _ nt et
      have el2 := hk l _ nl0 el
      rcases hx with rfl | rfl | rfl | rfl | rfl | rfl | rfl | rfl | rfl | rfl
      · exact ⟨_, _, rfl, .non, .non, by decide +kernel, by decide +kernel, by decide +kernel, by decide +kernel⟩
      · exact ⟨_, _, rfl, .bl _, .bl _, by decide +kernel, by decide +kernel, by decide +kernel, by decide +kernel⟩
      · exact ⟨_, _, rfl, .bl _, .bl _, by decide +kernel, by decide +kernel, by decide +kernel, by decide +kernel⟩
      · exact ⟨_, _, rfl, .str _, .str _, by decide +kernel, by decide +kernel, by decide +kernel, by decide +kernel⟩
      · exact ⟨_, _, rfl, .str _, .str _, by decide +kernel, by decide +kernel, by decide +kernel, by decide +kernel⟩
      · exact ⟨_, _, rfl, .tup et2, .tup (SqT.of et2) (.cons (.int _) .nil), by decide +kernel, by decide +kernel, by decide +kernel, by decide +kernel⟩
      · exact ⟨_, _, rfl, .lst el2, .lst (SqL.of el2) (.cons (.int _) .nil), by decide +kernel, by decide +kernel, by decide +kernel, by decide +kernel⟩
      · exact ⟨_, _, (by decide +kernel), .int _, .int _, (by decide +kernel), strOk_of _, rfl, Nat.zero_le _⟩
      · exact ⟨_, _, (by decide +kernel), .int _, .int _, (by decide +kernel), strOk_of _, rfl, Nat.zero_le _⟩
      · exact ⟨_, _, (by decide +kernel), .int _, .int _, (by decide +kernel), strOk_of _, rfl, Nat.zero_le _⟩
    refine ⟨a, _, _, _, rfl, rfl, SqL.of e1, atI_nat hv, q H1 _ P1 ((Kept.of_same s3).trans K1) (hX _ (List.getElem_mem _))⟩
/-! ### moment == anything -/
def spEqA (K : PySem.W.Frag) (C : Addr) : Sp := fun vs H Q _ => ∃ (p : Addr) (y : V) (n : Nat), vs = [.ref p, y] ∧ MoAt C H p n ∧ ((∃ (r : Addr) (m : Nat), y = .ref r ∧ MoAt C H r m ∧ Q (.bl (gEq n m)) H) ∨ ∃ t, TyX K H y t ∧ PySem.W.kitOne K t (.ref C) = some false ∧ Q (.bl false) H)
theorem ok_eqA {f : Addr} {fd : FuncData} (F : Fun K "__eq__" "Moment.__eq__" s_Moment_eq f fd) (T : Txt K mg C) : FnOk P w K mg base CX0 1 f fd ["self", "other"] (spEqA K C) := by
  refine F.ok sc_Moment_eq (fun vs H Q E h => ?_) (fun cdv A outer s H vs Q E hr h => ?_)
  · obtain ⟨p, y, n, rfl, _⟩ := h
    rfl
  · obtain ⟨p, y, n, rfl, hp, h⟩ := h
    refine ⟨_, pss_one (ps_ret (pe_and (pe_callB call_isi (by rfl) T.isi (by decide +kernel) (pa_cons (pv 1) (pa_cons (pe_glob (v := .ref C) (by rfl) T.mgC rfl) pa_nil))) (pe_one (pe_cmpR op_eq (pe_fld (pv 0) rfl) (pe_fld (pv 1) rfl) (nomark _))))), ?_⟩
    rcases h with ⟨r, m, rfl, hm, q⟩ | ⟨t, ty, k, q⟩
    · refine ⟨_, rfl, .ref r, .ref C, .ref C, .ref C, true, rfl, .own C, isi_mo T hm, T.kCC, true, rfl, iteT ?_⟩
      obtain ⟨_, dx, hp'⟩ := hp
      obtain ⟨_, dy, hm'⟩ := hm
      refine ⟨_, rfl, p, C, dx, _, _, rfl, hp', T.cl, T.nN, rfl, _, rfl, r, C, dy, _, _, rfl, hm', T.cl, T.nN, rfl, rfl, ?_⟩
      show Q (V.bl (decide (V.int (n : Int) = V.int (m : Int)))) H
      rw [dec_int]
      exact q
    · exact ⟨_, rfl, y, .ref C, t, .ref C, false, rfl, .own C, ty, k, false, rfl, iteF q⟩
end
end Toy
set_option Elab.async false
set_option linter.all false
set_option maxRecDepth 100000
set_option maxHeartbeats 4000000
namespace Toy
open PySem PySem.Spec PyProof.Rows L2
def KeepL (S : List Addr) (H H' : Hp) : Prop := ∀ b o, b ∉ S → H b = some o → H' b = some o
theorem KeepL.rfl' {S : List Addr} {H : Hp} : KeepL S H H := fun _ _ _ e => e
theorem KeepL.trans {S : List Addr} {H H1 H2 : Hp} (a : KeepL S H H1) (b : KeepL S H1 H2) : KeepL S H H2 := fun x o n e => b x o n (a x o n e)
theorem KeepL.same {S : List Addr} {H H' : Hp} (s : Same H H') : KeepL S H H' := fun b o _ e => s b o e
theorem KeepL.pot {S : List Addr} {p c : Addr} {H H' : Hp} (hp : p ∈ S) (hc : c ∈ S) (k : Kept p c H H') : KeepL S H H' := fun b o n e => k b o (fun z => n (by rw [z]; exact hp)) (fun z => n (by rw [z]; exact hc)) e
theorem KeepL.put {S : List Addr} {a : Addr} {o : HO} {H : Hp} (ha : a ∈ S) : KeepL S H (upd H a o) := fun b u n e => by
  rw [upd_ne fun z => n (by rw [z]; exact ha)]
  exact e
theorem Pot.put {H : Hp} {p c a : Addr} {o : HO} (P : Pot H p c) (h1 : a ≠ p) (h2 : a ≠ c) : Pot (upd H a o) p c := by
  obtain ⟨cs, at_, x, g1, g2, g3⟩ := P
  exact ⟨cs, at_, x, by rw [upd_ne h1.symm]; exact g1, by rw [upd_ne h2.symm]; exact g2, g3⟩
theorem MoAt.keepL {S : List Addr} {C a : Addr} {n : Nat} {H H1 : Hp} (h : MoAt C H a n) (ha : a ∉ S) (k : KeepL S H H1) : MoAt C H1 a n := by
  obtain ⟨h1, dx, h2⟩ := h
  exact ⟨h1, dx, k _ _ ha h2⟩
theorem num_rev (ws : List Nat) : num ws.reverse 0 = num ws 0 := by
  apply Nat.eq_of_testBit_eq
  intro k
  rw [num_bit, num_bit]
  simp
theorem bits_one {s : Nat} (h : s ≤ 30) : bits (num [s] 0) = [s] := by
  rw [← bits_num (ws := [s]) (by intro w hw; rw [List.mem_singleton.mp hw]; omega)]
  have : ∀ s : Fin 31, (List.range 31).filter (fun k => decide (k ∈ [s.val])) = [s.val] := by decide
  exact this ⟨s, by omega⟩
theorem bits_sorted (n : Nat) : (bits n).Pairwise (· < ·) := (List.pairwise_lt_range (n := 31)).filter _
theorem head_lt {n a : Nat} {r : List Nat} (e : bits n = a :: r) (h : bits n ≠ [30]) : a + 1 ≤ 30 := by
  have ha := (mem_bits.mp (show a ∈ bits n by rw [e]; exact List.mem_cons_self)).1
  by_cases z : a = 30
  · exfalso
    subst z
    cases r with
    | nil => exact h e
    | cons b r =>
      have s := bits_sorted n
      rw [e] at s
      have h1 := (List.pairwise_cons.mp s).1 b List.mem_cons_self
      have h2 := (mem_bits.mp (show b ∈ bits n by rw [e]; simp)).1
      omega
  · omega
/-- what is no writer -/
def bad : V → Bool
  | .int i => !decide (0 ≤ i ∧ i ≤ 30)
  | _ => true
theorem bad_vi {k : Nat} (h : k ≤ 30) : bad (vi k) = false := by
  show (!decide ((0 : Int) ≤ (k : Int) ∧ (k : Int) ≤ 30)) = false
  rw [decide_eq_true (by omega)]
  rfl
theorem bad_nv {K : PySem.W.Frag} {H : Hp} {x : V} {o : Option Int} (h : NV K H x o) : bad x = !btw o 0 30 := by
  cases h with
  | int i => rfl
  | bl b => rfl
  | oth _ _ _ n =>
    cases x with
    | int i => exact (n i rfl).elim
    | _ => rfl
/-- writers, and odd things that stay where nothing of S is changed -/
def ElS (K : PySem.W.Frag) (S : List Addr) (H : Hp) (x : V) : Prop := (∃ k : Nat, x = vi k ∧ k ≤ 30) ∨ ∀ H2, KeepL S H H2 → Oddly K H2 x
theorem ElS.keep {K : PySem.W.Frag} {S : List Addr} {H H' : Hp} {x : V} (h : ElS K S H x) (k : KeepL S H H') : ElS K S H' x := h.imp id fun q H2 k2 => q H2 (k.trans k2)
theorem ElS.now {K : PySem.W.Frag} {S : List Addr} {H : Hp} {x : V} (h : ElS K S H x) : (∃ k : Nat, x = vi k ∧ k ≤ 30) ∨ Oddly K H x := h.imp id fun q => q H KeepL.rfl'
theorem ElS.nv {K : PySem.W.Frag} {S : List Addr} {H : Hp} {x : V} (h : ElS K S H x) : ∃ o, NV K H x o := by
  rcases h.now with ⟨k, rfl, _⟩ | ⟨o, _, _, h, _⟩
  · exact ⟨_, .int _⟩
  · exact ⟨o, h⟩
theorem ElS.odd {K : PySem.W.Frag} {S : List Addr} {H : Hp} {x : V} (h : ElS K S H x) (b : bad x = true) : Oddly K H x := by
  rcases h.now with ⟨k, rfl, hk⟩ | z
  · rw [bad_vi hk] at b; cases b
  · exact z
theorem ElS.good {K : PySem.W.Frag} {S : List Addr} {H : Hp} {x : V} (h : ElS K S H x) (b : bad x = false) : ∃ k : Nat, x = vi k ∧ k ≤ 30 := by
  rcases h.now with z | ⟨o, _, hb, h, _⟩
  · exact z
  · rw [bad_nv h, hb] at b; cases b
/-- the data of odd things -/
theorem odd_data {K : PySem.W.Frag} {H : Hp} : ∀ {fs : List V}, (∀ x ∈ fs, Oddly K H x) → ∃ ds, DpAll K H fs ds ∧ PyData.canLayAll0 ds = true ∧ PyData.depthAll ds ≤ 5 ∧ (ds = [] ↔ fs = [])
  | [], _ => ⟨[], .nil, rfl, by decide, by simp⟩
  | x :: r, h => by
    obtain ⟨o, d, _, _, hd, _, _, h1, h2⟩ := h x List.mem_cons_self
    obtain ⟨ds, hds, h3, h4, _⟩ := odd_data fun y hy => h y (List.mem_cons_of_mem _ hy)
    refine ⟨d :: ds, .cons hd hds, ?_, ?_, by simp⟩
    · show (PyData.canLay0 d && PyData.canLayAll0 ds) = true
      rw [h1, h3]; rfl
    · have e : PyData.depthAll (d :: ds) = max (PyData.depth d) (PyData.depthAll ds) := rfl
      rw [e]
      omega
theorem first_bad {xs : List V} {i : Nat} {x x0 : V} {r : List V} (e : xs.filter bad = x0 :: r) (hi : xs[i]? = some x) (hb : bad x = true) (hj : ∀ (j : Nat) (y : V), j < i → xs[j]? = some y → bad y = false) : x = x0 := by
  induction xs generalizing i with
  | nil => cases hi
  | cons y ys ih =>
    cases i with
    | zero =>
      cases hi
      rw [List.filter_cons, if_pos hb] at e
      cases e
      rfl
    | succ i =>
      have hy := hj 0 y (Nat.succ_pos _) rfl
      rw [List.filter_cons, if_neg (by rw [hy]; exact Bool.false_ne_true)] at e
      exact ih e hi fun j z h hz => hj (j + 1) z (Nat.succ_lt_succ h) hz
theorem told_dp {K : PySem.W.Frag} {H : Hp} {l : Addr} {x : Str} (h : H l = some (.lst (told3 x))) : Dp K H (.ref l) (.list [.str x, .bool true, .bool true]) := .lst (SqL.of h) (.cons (.str _) (.cons (.bl _) (.cons (.bl _) .nil)))
theorem told_can {x : Str} (h : PyData.strOk x = true) : PyData.canLay0 (.list [.str x, .bool true, .bool true]) = true := by
  show (PyData.strOk x && (true && (true && true))) = true
  rw [h]
  rfl
theorem told_shp {x : Str} (h : PyData.strOk x = true) : SeqAt.shaped (.list [.str x, .bool true, .bool true]) = true := by
  unfold SeqAt.shaped
  rw [Bool.and_eq_true]
  exact ⟨told_can h, decide_eq_true (by simp [PyData.depth, PyData.depthAll])⟩
theorem can_dkl (ws : List Nat) : PyData.canLay0 (.list (ws.map dk)) = true := can_dk ws
theorem reverse_vi (ws : List Nat) : (ws.map vi).reverse = ws.reverse.map vi := List.map_reverse.symm
theorem made_good {K : PySem.W.Frag} {H : Hp} {ws : List Nat} {G : Nat → Prop} {B : V → Prop} (h : ∀ k ∈ ws, k ≤ 30) (g : G (num ws 0)) : Made K H (ws.map vi) G B := by
  have inj : ∀ {us : List Nat}, ws.map vi = us.map vi → ws = us := fun {us} e => by
    have : (ws.map vi).map (fun v => match v with | V.int i => i.toNat | _ => 0) = (us.map vi).map (fun v => match v with | V.int i => i.toNat | _ => 0) := congrArg _ e
    rw [List.map_map, List.map_map] at this
    have f : ∀ zs : List Nat, zs.map ((fun v => match v with | V.int i => i.toNat | _ => 0) ∘ vi) = zs := fun zs => by
      conv => rhs; rw [← List.map_id zs]
      exact List.map_congr_left fun k _ => Int.toNat_natCast k
    rwa [f, f] at this
  refine ⟨fun x hx => ?_, fun us e _ => by rw [← inj e]; exact g, fun i x o hi hv hb _ => ?_⟩
  · obtain ⟨k, _, rfl⟩ := List.mem_map.mp hx
    exact ⟨_, .int _⟩
  · obtain ⟨k, hk, rfl⟩ := List.mem_map.mp (List.mem_of_getElem? hi)
    have := bad_nv hv
    rw [bad_vi (h k hk), hb] at this
    cases this
end Toy
set_option Elab.async false
set_option linter.all false
set_option maxRecDepth 100000
set_option maxHeartbeats 4000000
namespace Toy
open PySem PySem.Spec PyProof.Rows L2
theorem strange_ok {K : PySem.W.Frag} {σ : L2.St} {H : Hp} {R : VK} {ld : Addr} {n : Nat} (hs : σ[4]? = some (some (V.ref ld))) (hl : H ld = some (.lst ((bits n).map vi))) (q : ∀ (s : Nat) (HE : Hp), s ≤ 30 → Same H HE → R (vi s) HE) :
    tIf (tTest (tOp (rNeD K) (tVar 4) (tLst (tCons (tC (V.int 30)) tNil)))) (tIf (tTest (tOp (rNeD K) (tVar 4) (tLst tNil))) (tOp (rI0 fun i j => V.int (i + j)) (tOp (rIxL K) (tVar 4) (tC (V.int 0))) (tC (V.int 1))) (tC (V.int 5))) (tC (V.int 7)) σ H R := by
  refine ⟨_, hs, (by show 1 ≤ sizeLine; decide), fun a na => ?_⟩
  have sa := same_upd (o := .lst [V.int 30]) na
  refine ⟨_, _, dp_vi (sa _ _ hl), dp_vi (ws := [30]) upd_same, shp_dk _, shp_dk _, !decide (bits n = [30]), ?_, ?_⟩
  · show V.bl (!PyData.eqvAll ((bits n).map dk) ([30].map dk)) = _
    rw [eqv_dk]
  · by_cases h : bits n = [30]
    · rw [decide_eq_true h]
      exact iteF (q 7 _ (by decide) sa)
    · rw [decide_eq_false h]
      refine iteT ⟨_, hs, (by show 0 ≤ sizeLine; decide), fun b nb => ?_⟩
      have sb := sa.trans (same_upd (o := .lst []) nb)
      refine ⟨_, _, dp_vi (sb _ _ hl), dp_vi (ws := []) upd_same, shp_dk _, shp_dk _, !decide (bits n = []), ?_, ?_⟩
      · show V.bl (!PyData.eqvAll ((bits n).map dk) (([] : List Nat).map dk)) = _
        rw [eqv_dk]
      · cases e : bits n with
        | nil => exact iteF (q 5 _ (by decide) sb)
        | cons k r =>
          rw [decide_eq_false (by intro z; cases z)]
          have hk := head_lt e h
          rw [e] at hl
          refine iteT ⟨_, hs, ld, _, _, _, rfl, rfl, SqL.of (sb _ _ hl), atI_nat (j := 0) rfl, _, _, rfl, rfl, ?_⟩
          have := q (k + 1) _ hk sb
          have z : V.int ((k : Int) + 1) = vi (k + 1) := rfl
          exact this
theorem test_ok {K : PySem.W.Frag} {σ : L2.St} {H : Hp} {R : Bool → Hp → Prop} {x : V} {o : Option Int} (hs : σ[13]? = some (some x)) (hv : NV K H x o) (q : R (bad x) H) :
    tOr (tB (tCB (rIsi K) (tCons (tVar 13) (tCons (tC (V.ty "bool")) tNil)))) (tOr (tNot (tB (tCB (rIsi K) (tCons (tVar 13) (tCons (tC (V.ty "int")) tNil))))) (tNot (tTest (tChain (rI0 fun i j => V.bl (decide (i ≤ j))) (rI0 fun i j => V.bl (decide (i < j))) (tC (V.int 0)) (tVar 13) (tC (V.int 31)))))) σ H R := by
  cases hv with
  | int i =>
    refine ⟨_, hs, .int i, .ty "bool", _, _, false, rfl, .ty _, .base (.int i), kit_ty (by decide +kernel), false, rfl, iteF ⟨_, hs, .int i, .ty "int", _, _, true, rfl, .ty _, .base (.int i), kit_ty (by decide +kernel), true, rfl, iteF ?_⟩⟩
    refine ⟨_, hs, _, _, rfl, rfl, decide (0 ≤ i), rfl, ?_⟩
    by_cases h1 : 0 ≤ i
    · rw [decide_eq_true h1]
      refine iteT ⟨_, _, rfl, rfl, decide (i < 31), rfl, ?_⟩
      have e : bad (.int i) = !decide (i < 31) := by
        show (!decide (0 ≤ i ∧ i ≤ 30)) = _
        by_cases h2 : i < 31
        · rw [decide_eq_true h2, decide_eq_true (by omega)]
        · rw [decide_eq_false h2, decide_eq_false (by omega)]
      rw [e] at q
      exact q
    · rw [decide_eq_false h1]
      have e : bad (.int i) = true := by
        show (!decide (0 ≤ i ∧ i ≤ 30)) = true
        rw [decide_eq_false (by omega)]
        rfl
      rw [e] at q
      exact iteF ⟨false, rfl, q⟩
  | bl b => exact ⟨_, hs, .bl b, .ty "bool", _, _, true, rfl, .ty _, .base (.bl b), kit_ty (by decide +kernel), true, rfl, iteT q⟩
  | oth ht k kb n =>
    have e : bad x = true := by
      cases x with
      | int i => exact (n i rfl).elim
      | _ => rfl
    rw [e] at q
    exact ⟨_, hs, x, .ty "bool", _, _, false, rfl, .ty _, ht, kb, false, rfl, iteF ⟨_, hs, x, .ty "int", _, _, false, rfl, .ty _, ht, k, false, rfl, iteT q⟩⟩
theorem neF {x y : V} (h : x = y) : V.bl (!decide (x = y)) = V.bl false := by rw [decide_eq_true h]; rfl
section
variable {P : Program} {w : World} {K : PySem.W.Frag} {mg : Str → Option Value} {base : Heap} {C W : Addr}
def spLaw (K : PySem.W.Frag) : Sp := fun vs H Q _ => ∃ (a : Addr) (ns : List Int), vs = [.ref a] ∧ SqL K H a (ns.map V.int) ∧ ns.length ≤ 63 ∧ ∀ H', Q (.bl true) H'
structure Cal (P : Program) (w : World) (K : PySem.W.Frag) (mg : Str → Option Value) (base : Heap) (CX : CXT) (k : Nat) (f : Addr) (fd : FuncData) (x : Str) (ps : List Str) (sp : Sp) : Prop where
  G : FnOk P w K mg base CX k f fd ps sp
  k : PySem.W.keepIn K (.ref f) = true
  b : L2.Binds K fd ps []
  g : mg x = some (.ref f)
structure Calls (P : Program) (w : World) (K : PySem.W.Frag) (mg : Str → Option Value) (base : Heap) (C W fP fD fA fB fX fR fM fO fW fN fL fE pO : Addr) (fdP fdD fdA fdB fdX fdW fdN : FuncData) (mc : Value) : Prop where
  pot : Cal P w K mg base CX0 1 fP fdP "_law_pot" ["script"] (spPot K)
  draw : Cal P w K mg base CX0 1 fD fdD "_law_draw" ["pot", "many"] spDraw
  made : Cal P w K mg base (L2.CX P w) 6 fA fdA "_law_made" ["values"] (spMade K C W)
  pow : Cal P w K mg base CX0 1 fB fdB "_law_power" ["writer"] spPow
  odd : Cal P w K mg base CX0 2 fX fdX "_law_odd" ["pot"] (spOdd K)
  R : Gd.FnG P w K mg base CX0 8 fR (spRefd K)
  kR : PySem.W.keepIn K (.ref fR) = true
  gR : mg "_law_refused" = some (.ref fR)
  gC : mg "Moment" = some (.ref C)
  mkC : Mk K C fM
  GM : FnR P w K mg base (L2.CX P w) 4 fM (spMkX K C W)
  rd : ClX.CRead K C mc
  sm : Vx.SMet K C mc "of" pO fO
  GO : FnR P w K mg base CX0 6 fO (spOf C)
  cl : Cls K C
  mW : Meth K C "writers" fW
  GW : FnOk P w K mg base CX0 1 fW fdW ["self"] (spWri C)
  bW : L2.Binds K fdW ["self"] []
  mN : Meth K C "number" fN
  GN : FnOk P w K mg base CX0 1 fN fdN ["self"] (spNumber C)
  bN : L2.Binds K fdN ["self"] []
  lA : PySem.W.findIn K (.ref C) "__len__" = some (some (.ref fL))
  lF : PySem.W.isFn K (.ref fL) = true
  GL : FnR P w K mg base CX0 2 fL (spLen C)
  T : Txt K mg C
  ne : PySem.W.findIn K (.ref C) "__ne__" = some (some (.builtin "object.__ne__"))
  eq : PySem.W.findIn K (.ref C) "__eq__" = some (some (.ref fE))
  eF : PySem.W.isFn K (.ref fE) = true
  GE : FnR P w K mg base CX0 1 fE (spCmp C gEq)
  GA : FnR P w K mg base CX0 1 fE (spEqA K C)
  nfC : PySem.W.notFirst K C (.ref C) = true
  nfL : PySem.W.notFirst K C (.type "list") = true
  nfT : PySem.W.notFirst K C (.type "tuple") = true
  nfI : PySem.W.notFirst K C (.type "int") = true
  kL : PySem.W.kitOne K (.type "list") (.ref C) = some false
  kT : PySem.W.kitOne K (.type "tuple") (.ref C) = some false
  kI : PySem.W.kitOne K (.type "int") (.ref C) = some false
  rep : mg "repr" = none
  tup : mg "tuple" = none
abbrev nL : List Str := ["script", "pot", "k", "values", "due", "moment", "number", "turned", "strange", "bent", "firsts", "at", "writer", "value"]
theorem ok_law {f fP fD fA fB fX fR fM fO fW fN fL fE pO : Addr} {fd fdP fdD fdA fdB fdX fdW fdN : FuncData} {mc : Value} (F : Fun K "law" "law" s_law f fd) (b : L2.Binds K fd ["script"] []) (Z : Calls P w K mg base C W fP fD fA fB fX fR fM fO fW fN fL fE pO fdP fdD fdA fdB fdX fdW fdN mc) : Gd.FnG P w K mg base CX0 10 f (spLaw K) := by
  refine Gd.fnG_ok F sc_law b (fun vs H Q E h => ?_) (fun cdv A outer s H vs Q E g hr h => ?_)
  · obtain ⟨a, ns, rfl, _⟩ := h
    rfl
  · obtain ⟨a, ns, rfl, hS, hlen, q⟩ := h
    have hr1 : Room 1 _ := hr.mono (by decide)
    have hr2 : Room 2 _ := hr.mono (by decide)
    have hr3 : Room 3 _ := hr.mono (by decide)
    have hr5 : Room 5 _ := hr.mono (by decide)
    have hr6 : Room 6 _ := hr.mono (by decide)
    have hr8 : Room 8 _ := hr.mono (by decide)
    have nd := sc_law.nd
    refine ⟨_, pss_cons (ps_set (i := 1) nd rfl (Or.inr rfl) (pe_call Z.pot.G hr1 (by rfl) Z.pot.g Z.pot.k Z.pot.b .nil pass0 (pa_cons (pv 0) pa_nil)))
      (pss_cons (ps_set (i := 3) nd rfl (Or.inr rfl) (pe_lc (own := [("k", 2)]) (g := gName 2) (tt := tYes) rfl nd (pi_range1 (by rfl) Z.T.range (pa_cons (pe_call Z.draw.G hr1 (by rfl) Z.draw.g Z.draw.k Z.draw.b .nil pass0 (pa_cons (pv 1) (pa_cons pe_int pa_nil))) pa_nil))
        (blkOk_by (own := [("k", 2)]) (N := nL) (sc := defScope s_law) (by decide +kernel)) (fun _ _ _ _ _ => pg_name (i := 2) nd rfl (Or.inl rfl)) (fun _ _ _ _ _ => pts_nil)
        (fun _ _ _ _ _ => pe_call Z.draw.G hr1 (by rfl) Z.draw.g Z.draw.k Z.draw.b .nil pass0 (pa_cons (pv 1) (pa_cons pe_int pa_nil)))))
      (C8.pss_cut (ps_if (PW.pt (pw_and (pt_cmpR (op_neD hr.units) (pv 3) (pe_lst pa_nil) (nomark _)) (pw_and1 (pt_cmpR op_eq (pe_call Z.draw.G hr1 (by rfl) Z.draw.g Z.draw.k Z.draw.b .nil pass0 (pa_cons (pv 1) (pa_cons pe_int pa_nil))) pe_int (nomark _)))))
        (pss_one (ps_expr (pe_bm PySem.F.plainAttrs_list PySem.F.slot_list_append PySem.F.type_list_append mt_append (pv 3) (pa_cons (pe_ix ix_list (pv 3) (pe_call Z.draw.G hr1 (by rfl) Z.draw.g Z.draw.k Z.draw.b .nil pass0 (pa_cons (pv 1) (pa_cons (pe_callB call_len_seq (by rfl) Z.T.len PySem.boot_len (pa_cons (pv 3) pa_nil)) pa_nil))) (fun _ _ => rfl)) pa_nil)))) pss_nil)
      (pss_cons (ps_setLc (i := 4) (own := [("k", 2)]) (g := gName 2) rfl nd rfl rfl (sw_true rfl rfl rfl (by decide +kernel)) (pi_range1 (by rfl) Z.T.range (pa_cons pe_int pa_nil))
        (blkOk_by (own := [("k", 2)]) (N := nL) (sc := defScope s_law) (by decide +kernel)) (fun _ _ _ _ _ => pg_name (i := 2) nd rfl (Or.inl rfl))
        (fun _ _ _ _ _ => pts_one (pt_cmpR (Vx.op_inK (K := K) rfl) (pv 2) (pv 3) (by rfl))) (fun _ _ _ _ _ => pv 2))
      (pss_cons (ps_set (i := 5) nd rfl (Or.inl rfl) (pe_call Z.made.G hr6 (by rfl) Z.made.g Z.made.k Z.made.b .nil passL (pa_cons (pv 3) pa_nil)))
      (pss_cons (ps_set (i := 6) nd rfl (Or.inl rfl) (pe_callB (cr_sum rfl) (by rfl) Z.T.sum (by decide +kernel) (pa_cons (pe_lc (own := [("writer", 12)]) (g := gName 12) (tt := tYes) rfl nd (pi_list (pv 4))
        (blkOk_by (own := [("writer", 12)]) (N := nL) (sc := defScope s_law) (by decide +kernel)) (fun _ _ _ _ _ => pg_name (i := 12) nd rfl (Or.inl rfl)) (fun _ _ _ _ _ => pts_nil)
        (fun _ _ _ _ _ => pe_call Z.pow.G hr1 (by rfl) Z.pow.g Z.pow.k Z.pow.b .nil pass0 (pa_cons (pv 12) pa_nil))) pa_nil)))
      (pss_cons (ps_if (PW.pt (pw_or (pt_cmpR (op_neD hr.units) (pe_meth0 (pv 5) Z.cl Z.mW Z.GW hr1 Z.bW .nil pass0) (pv 4) (nomark _))
        (pw_or (pt_cmpR op_ne (pe_callB (Vx.call_lenOwn Z.lA Z.lF Z.GL hr3 pass0) (by rfl) Z.T.len PySem.boot_len (pa_cons (pv 5) pa_nil)) (pe_callB call_len_seq (by rfl) Z.T.len PySem.boot_len (pa_cons (pv 4) pa_nil)) (nomark _))
        (pw_or1 (pt_cmpR op_ne (pe_meth0 (pv 5) Z.cl Z.mN Z.GN hr1 Z.bN .nil pass0) (pv 6) (nomark _)))))) (pss_one ps_never) pss_nil)
      (pss_cons (ps_set (i := 7) nd rfl (Or.inl rfl) (pe_call Z.made.G hr6 (by rfl) Z.made.g Z.made.k Z.made.b .nil passL (pa_cons (pe_revL (pv 3)) pa_nil)))
      (pss_cons (ps_if (PW.pt (pw_or (pt_not (pt_cmpR (Vx.op_cmpAny (op := .Eq) (fun _ _ => rfl) Z.eq Z.eF Z.GA hr1 pass0) (pv 5) (pv 7) (nomark _)))
        (pw_or (pt_cmpR (Vx.op_neOwn Z.nfC Z.ne Z.eq Z.eF Z.T.cM Z.GE hr2 pass0) (pv 5) (Vx.pe_smeth (pe_glob (v := .ref C) (by rfl) Z.gC rfl) Z.rd Z.sm Z.GO hr6 pass0 (pa_cons (pv 6) pa_nil)) (nomark _))
        (pw_or1 (pt_cmpR (op_neD hr.units) (pe_meth0 (pv 7) Z.cl Z.mW Z.GW hr1 Z.bW .nil pass0) (pv 4) (nomark _)))))) (pss_one ps_never) pss_nil)
      (pss_cons (ps_if (PW.pt (pw_or (pt_cmpR (Vx.op_cmpAny (op := .Eq) (fun _ _ => rfl) Z.eq Z.eF Z.GA hr1 pass0) (pv 5) (pv 4) (nomark _))
        (pw_or (pt_cmpR (Vx.op_cmpAny (op := .Eq) (fun _ _ => rfl) Z.eq Z.eF Z.GA hr1 pass0) (pv 5) (pv 6) (nomark _))
        (pw_or (pt_cmpR (Vx.op_cmpAny (op := .Eq) (fun _ _ => rfl) Z.eq Z.eF Z.GA hr1 pass0) (pv 5) (pe_callTy call_tuple_of (by rfl) Z.tup (by decide +kernel) (pa_cons (pv 4) pa_nil)) (nomark _))
        (pw_or1 (pt_cmpR op_isN (pv 5) pe_non (nomark _))))))) (pss_one ps_never) pss_nil)
      (pss_cons (ps_set (i := 8) nd rfl (Or.inl rfl) (pe_ifExp (pt_cmpR (op_neD hr.units) (pv 4) (pe_lst (pa_cons pe_int pa_nil)) (nomark _)) (pe_ifExp (pt_cmpR (op_neD hr.units) (pv 4) (pe_lst pa_nil) (nomark _)) (pe_op op_add (pe_ix ix_list (pv 4) pe_int (fun _ _ => rfl)) pe_int) pe_int) pe_int))
      (pss_cons (ps_if (pt_cmpR op_ne (pe_cmpR (Vx.op_cmpAny (op := .Eq) (fun _ _ => rfl) Z.eq Z.eF Z.GA hr1 pass0) (pv 5) (Vx.pe_makeRS (E := fun _ => E0) Z.mkC Z.GM hr5 (by rfl) Z.gC Vx.passO (pa_cons (pv 8) pa_nil)) (nomark _)) (pe_cmpR (op_eqD hr.units) (pv 4) (pe_lst (pa_cons (pv 8) pa_nil)) (nomark _)) (nomark _)) (pss_one ps_never) pss_nil)
      (pss_cons (ps_set (i := 9) nd rfl (Or.inl rfl) (pe_callTy call_list_of (by rfl) Z.T.list (by decide +kernel) (pa_cons (pv 3) pa_nil)))
      (pss_cons (ps_set (i := 10) nd rfl (Or.inl rfl) (pe_lst pa_nil))
      (pss_cons (ps_for PassesOwn.never rfl (pi_range1 (by rfl) Z.T.range (pa_cons (pe_call Z.draw.G hr1 (by rfl) Z.draw.g Z.draw.k Z.draw.b .nil pass0 (pa_cons (pv 1) (pa_cons pe_int pa_nil))) pa_nil)) (pg_name (i := 2) nd rfl (Or.inl rfl))
        (pss_cons (ps_set (i := 11) nd rfl (Or.inl rfl) (pe_call Z.draw.G hr1 (by rfl) Z.draw.g Z.draw.k Z.draw.b .nil pass0 (pa_cons (pv 1) (pa_cons (pe_op op_add (pe_callB call_len_seq (by rfl) Z.T.len PySem.boot_len (pa_cons (pv 9) pa_nil)) pe_int) pa_nil))))
        (pss_one (ps_if (pt_cmpR op_lt (pe_callB call_len_seq (by rfl) Z.T.len PySem.boot_len (pa_cons (pv 9) pa_nil)) pe_int (nomark _))
          (pss_one (ps_expr (pe_bm PySem.F.plainAttrs_list PySem.F.slot_list_insert PySem.F.type_list_insert mt_insert (pv 9) (pa_cons (pv 11) (pa_cons (pe_call Z.odd.G hr2 (by rfl) Z.odd.g Z.odd.k Z.odd.b .nil pass0 (pa_cons (pv 1) pa_nil)) pa_nil))))) pss_nil))))
      (pss_cons (ps_setLc (i := 10) (own := [("value", 13)]) (g := gName 13) rfl nd rfl rfl (sw_true rfl rfl rfl (by decide +kernel)) (pi_list (pv 9))
        (blkOk_by (own := [("value", 13)]) (N := nL) (sc := defScope s_law) (by decide +kernel)) (fun _ _ _ _ _ => pg_name (i := 13) nd rfl (Or.inl rfl))
        (fun _ _ _ _ _ => pts_one (PW.pt (pw_or (pt_val (pe_callB (show CallR _ _ (rIsi K) from call_isi) (by rfl) Z.T.isi (by decide +kernel) (pa_cons (pv 13) (pa_cons (pe_bltn (v := .ty "bool") (by rfl) Z.T.bool (by decide +kernel) rfl) pa_nil))))
          (pw_or (pt_not (pt_val (pe_callB (show CallR _ _ (rIsi K) from call_isi) (by rfl) Z.T.isi (by decide +kernel) (pa_cons (pv 13) (pa_cons (pe_bltn (v := .ty "int") (by rfl) Z.T.int (by decide +kernel) rfl) pa_nil)))))
          (pw_or1 (pt_not (pt_chain op_le op_lt pe_int (pv 13) pe_int))))))) (fun _ _ _ _ _ => pv 13))
      (pss_cons (ps_if (pt_cmpR (op_eqD hr.units) (pv 10) (pe_lst pa_nil) (nomark _)) (pss_one (ps_ret (pe_cmpR op_isN (Gd.pe_callG Z.R g hr8 (by rfl) Z.gR Z.kR pass0 (pa_cons (pv 9) pa_nil)) pe_non (nomark _)))) pss_nil)
      (pss_one (ps_ret (pe_and (pe_cmpR (op_eqD hr.units) (Gd.pe_callG Z.R g hr8 (by rfl) Z.gR Z.kR pass0 (pa_cons (pv 9) pa_nil)) (pe_lst (pa_cons (pe_callB (Gd.call_reprK (K := K) rfl g hr.units) (by rfl) Z.rep (by decide +kernel) (pa_cons (pe_ix ix_list (pv 10) pe_int (fun _ _ => rfl)) pa_nil)) (pa_cons pe_bl (pa_cons pe_bl pa_nil)))) (nomark _))
        (pe_one (pe_cmpR (op_eqD hr.units) (pe_meth0 (pv 5) Z.cl Z.mW Z.GW hr1 Z.bW .nil pass0) (pv 4) (nomark _)))))))))))))))))))))), ?_⟩
    refine ⟨_, rfl, a, ns, rfl, hS, hlen, fun H1 p c s1 p0 c0 P1 => ?_⟩
    refine ⟨_, rfl, p, c, _, rfl, P1, by decide, by decide, fun H2 d P2 K2 d0 d1 => ?_⟩
    refine ⟨d, rfl, by omega, by omega, fun lv nlv => ?_⟩
    have olv := off P2 nlv
    refine lc_range (lo := 0) (n := d.toNat) (fun i H' => ∃ ws : List Nat, ws.length = i ∧ (∀ k ∈ ws, k ≤ 30) ∧ Pot H' p c ∧ H' lv = some (.lst (ws.map vi))) ⟨[], rfl, fun k h => absurd h List.not_mem_nil, P2.same (same_upd nlv), upd_same⟩ ?_ ?_
    · rintro i H' hi ⟨ws, hl, hw, P', e'⟩
      refine ⟨rfl, _, rfl, p, c, _, rfl, P', by decide, by decide, fun H3 r P3 K3 r0 r1 => ?_⟩
      obtain ⟨k, rfl⟩ := Int.eq_ofNat_of_zero_le r0
      refine ⟨_, K3 _ _ olv.1 olv.2 e', ?_, ws ++ [k], ?_, fun j hj => ?_, P3.put olv.1 olv.2, ?_⟩
      · rw [List.length_map, hl]
        exact Nat.lt_of_lt_of_le hi (Nat.le_trans (show d.toNat ≤ 5 by omega) (by decide))
      · rw [List.length_append, hl]; rfl
      · rcases List.mem_append.mp hj with z | z
        · exact hw j z
        · rw [List.mem_singleton.mp z]; omega
      · rw [upd_same, List.map_append]; rfl
    rintro H3 ⟨ws, hl, hw, P3, e3⟩
    have hz : ws.length ≤ 4 := by omega
    clear hl
    -- one of them twice
    refine ⟨fun σ' H' => ∃ ws : List Nat, ws.length ≤ 5 ∧ (∀ k ∈ ws, k ≤ 30) ∧ Pot H' p c ∧ H' lv = some (.lst (ws.map vi)) ∧ σ' = [some (.ref a), some (.ref p), none, some (.ref lv), none, none, none, none, none, none, none, none, none, none], ?_, ?_⟩
    · refine ⟨_, rfl, Nat.zero_le _, fun l0 n0 => ?_⟩
      have s0 := same_upd (o := .lst []) n0
      refine ⟨_, _, dp_vi (s0 _ _ e3), .lst (SqL.of upd_same) .nil, shp_dk _, rfl, !decide (ws = []), ?_, ?_⟩
      · show V.bl (!PyData.eqvAll (ws.map dk) (([] : List Nat).map dk)) = _
        rw [eqv_dk]
      · by_cases hws : ws = []
        · rw [decide_eq_true hws]
          exact iteF ⟨ws, by omega, hw, P3.same s0, s0 _ _ e3, rfl⟩
        · rw [decide_eq_false hws]
          refine iteT ⟨_, rfl, p, c, _, rfl, P3.same s0, by decide, by decide, fun H4 r4 P4 K4 _ _ => ⟨rfl, _, rfl, ?_⟩⟩
          have e4 := K4 _ _ olv.1 olv.2 (s0 _ _ e3)
          refine ite2 (fun _ => ?_) (fun _ => ⟨ws, by omega, hw, P4, e4, rfl⟩)
          have hpos : 0 < ws.length := List.length_pos_iff.mpr hws
          refine ⟨_, rfl, .inl ⟨rfl, _, SqL.of e4⟩, _, rfl, _, rfl, _, rfl, lv, _, rfl, .inl (SqL.of e4), ?_⟩
          rw [List.length_map]
          refine ⟨p, c, _, rfl, P4, by omega, by omega, fun H5 r5 P5 K5 r50 r51 => ?_⟩
          obtain ⟨k, rfl⟩ := Int.eq_ofNat_of_zero_le r50
          have hk : k < ws.length := by omega
          have e5 := K5 _ _ olv.1 olv.2 e4
          have gk : (ws.map vi)[k]? = some (vi ws[k]) := by rw [List.getElem?_map, List.getElem?_eq_getElem hk]; rfl
          refine ⟨lv, _, _, _, rfl, rfl, SqL.of e5, atI_nat gk, lv, _, _, rfl, rfl, e5, ?_, ws ++ [ws[k]], ?_, fun j hj => ?_, P5.put olv.1 olv.2, ?_, rfl⟩
          · rw [List.length_map]
            exact Nat.lt_of_le_of_lt hz (by decide)
          · rw [List.length_append]
            show ws.length + 1 ≤ 5
            omega
          · rcases List.mem_append.mp hj with z | z
            · exact hw j z
            · rw [List.mem_singleton.mp z]
              exact hw _ (List.getElem_mem hk)
          · rw [upd_same, List.map_append]; rfl
    clear hz hw P3 e3 ws
    rintro σ' H4 ⟨ws, hz, hw, P4, e4, rfl⟩
    -- due
    refine ⟨31, rfl, by decide, by decide, fun ld nld => ?_⟩
    refine lc_range (lo := 0) (n := 31) (fun i H' => Same H4 H' ∧ H' ld = some (.lst (((List.range i).filter fun k => decide (k ∈ ws)).map vi))) ⟨same_upd nld, upd_same⟩ ?_ ?_
    · rintro i H' hi ⟨s5, e5⟩
      refine ⟨rfl, _, rfl, _, rfl, lv, _, rfl, .inl (SqL.of (s5 _ _ e4)), rfl, flat_vi _, _, rfl, ?_⟩
      have ei : V.int (0 + (i : Int)) = vi i := by rw [Int.zero_add]; rfl
      show if (if false = true then !inV (V.int (0 + (i : Int))) (ws.map vi) else inV (V.int (0 + (i : Int))) (ws.map vi)) = true then _ else _
      rw [ei, inV_vi]
      by_cases hm : i ∈ ws
      · rw [decide_eq_true hm]
        refine iteT ⟨_, rfl, _, e5, acc_len _ hi, fun b o eb => ?_, ?_⟩
        · rw [upd_ne (ne_of_none eb nld)]
          exact s5 _ _ eb
        · rw [upd_same, bits_succ, if_pos (decide_eq_true hm), List.map_append]
          rfl
      · rw [decide_eq_false hm]
        refine iteF ⟨s5, ?_⟩
        rw [bits_succ, if_neg (by simpa using hm)]
        exact e5
    rintro H5 ⟨s5, e5⟩
    have hnl : num ws 0 < 2147483648 := num0_lt hw
    rw [bits_num (fun w h => by have := hw w h; omega)] at e5
    obtain ⟨n, hN⟩ : ∃ n, num ws 0 = n := ⟨_, rfl⟩
    rw [hN] at hnl e5
    have e4' := s5 _ _ e4
    have P5 := P4.same s5
    refine ⟨_, rfl, lv, ws.map vi, rfl, e4', by rw [List.length_map]; exact hz, made_good hw ?_⟩
    rw [hN]
    intro H6 mo s6 nmo hmo
    have bl30 : ∀ k ∈ bits n, k ≤ 30 := fun k hk => by have := (mem_bits.mp hk).1; omega
    refine ⟨_, rfl, ld, rfl, ⟨_, SqL.of (s6 _ _ e5)⟩, fun lp nlp => ?_⟩
    refine lc_list (K := K) (a := ld) (xs := (bits n).map vi) (fun i H' => Same H6 H' ∧ H' lp = some (.lst (((bits n).take i).map fun k => V.int ((2 ^ k : Nat) : Int)))) ⟨same_upd nlp, upd_same⟩ (fun i H' _ z => SqL.of (z.1 _ _ (s6 _ _ e5))) ?_ ?_
    · rintro i x H' hx ⟨s7, e7⟩
      rw [List.getElem?_map] at hx
      cases hb : (bits n)[i]? with
      | none => rw [hb] at hx; cases hx
      | some k =>
        rw [hb] at hx
        cases hx
        refine ⟨rfl, _, rfl, k, rfl, bl30 k (List.mem_of_getElem? hb), _, e7, ?_, fun b o eb => ?_, ?_⟩
        · rw [List.length_map, List.length_take]
          exact Nat.lt_of_le_of_lt (Nat.le_trans (Nat.min_le_right _ _) (bits_len n)) (by decide)
        · rw [upd_ne (ne_of_none eb nlp)]
          exact s7 _ _ eb
        · rw [upd_same, List.take_add_one, hb, List.map_append]
          rfl
    rintro H7 ⟨s7, e7⟩
    rw [List.length_map, List.take_length] at e7
    refine ⟨lp, (bits n).map fun k => ((2 ^ k : Nat) : Int), rfl, SqL.of (by rw [List.map_map]; exact e7), ?_⟩
    have eN : ((bits n).map fun k => ((2 ^ k : Nat) : Int)).sum = (n : Int) := by
      unfold bits
      rw [sum_bits, Nat.mod_eq_of_lt (show n < 2 ^ 31 from hnl)]
    rw [eN]
    have t7 := s6.trans s7
    have hmo7 := hmo.same s7
    obtain ⟨_, dm, em⟩ := id hmo7
    have ed7 := t7 _ _ e5
    -- the moment's lists
    refine ⟨_, rfl, mo, dm, _, rfl, em, rfl, mo, n, rfl, hmo7, fun H8 l8 s8 n8 e8 => ⟨_, rfl, _, _, dp_vi e8, dp_vi (s8 _ _ ed7), shp_dk _, shp_dk _, false, by rw [SeqAt.eqv_refl _ (can_dkl _)]; rfl, iteF ?_⟩⟩
    refine ⟨_, rfl, ⟨mo, dm, _, rfl, s8 _ _ em⟩, mo, n, rfl, hmo7.same s8, fun H9 s9 => ⟨_, rfl, Nat.lt_of_le_of_lt (bits_len n) (by decide), _, rfl, ld, _, rfl, .inl (SqL.of (s9 _ _ (s8 _ _ ed7))), rfl, false, by simp, iteF ?_⟩⟩
    have t9 := s8.trans s9
    refine ⟨_, rfl, mo, dm, _, rfl, t9 _ _ em, rfl, mo, n, rfl, hmo7.same t9, _, rfl, rfl, false, neF rfl, iteF ?_⟩
    have hmo9 := hmo7.same t9
    have ed9 := t9 _ _ ed7
    have e49 := t9 _ _ (t7 _ _ e4')
    have P9 := (P5.same t7).same t9
    -- turned
    refine ⟨_, rfl, lv, _, rfl, SqL.of e49, fun lr nlr => ?_⟩
    have sr := same_upd (o := .lst (ws.map vi).reverse) nlr
    refine ⟨lr, (ws.reverse).map vi, rfl, by rw [upd_same, reverse_vi], by rw [List.length_map, List.length_reverse]; exact hz, made_good (fun k hk => hw k (List.mem_reverse.mp hk)) ?_⟩
    rw [num_rev, hN]
    intro HA mt sA nmt hmt
    have tA := sr.trans sA
    have hmoA := hmo9.same tA
    have edA := tA _ _ ed9
    obtain ⟨_, dmA, emA⟩ := id hmoA
    obtain ⟨_, dtA, etA⟩ := id hmt
    refine ⟨_, rfl, _, rfl, ⟨mo, dmA, _, rfl, emA⟩, ⟨_, isi_mo Z.T hmt, Z.nfC⟩, mo, _, n, rfl, hmoA, .inl ⟨mt, n, rfl, hmt, true, by rw [gEq, decide_eq_true rfl], iteF ?_⟩⟩
    refine ⟨_, rfl, rfl, _, rfl, n, rfl, hnl, fun HB m2 sB nm2 hm2 => ?_⟩
    obtain ⟨_, dm2, em2⟩ := id hm2
    refine ⟨⟨mo, dmA, _, rfl, sB _ _ emA⟩, ⟨m2, dm2, _, rfl, em2⟩, mo, m2, n, n, rfl, hmoA.same sB, hm2, true, by rw [gEq, decide_eq_true rfl], false, rfl, iteF ?_⟩
    refine ⟨_, rfl, mt, dtA, _, rfl, sB _ _ etA, rfl, mt, n, rfl, hmt.same sB, fun HC lC sC nC eC => ⟨_, rfl, _, _, dp_vi eC, dp_vi (sC _ _ (sB _ _ edA)), shp_dk _, shp_dk _, false, by rw [SeqAt.eqv_refl _ (can_dkl _)]; rfl, iteF ?_⟩⟩
    have tC := sB.trans sC
    have hmoC := hmoA.same tC
    have edC := tC _ _ edA
    have e4C := tC _ _ (tA _ _ e49)
    have PC := ((P9.same sr).same sA).same tC
    obtain ⟨_, dmC, emC⟩ := id hmoC
    -- equal to nothing else
    refine ⟨_, rfl, _, rfl, ⟨mo, dmC, _, rfl, emC⟩, ⟨_, .base (.lst edC), Z.nfL⟩, mo, _, n, rfl, hmoC, .inr ⟨_, .base (.lst edC), Z.kL, false, rfl, iteF ?_⟩⟩
    refine ⟨_, rfl, _, rfl, ⟨mo, dmC, _, rfl, emC⟩, ⟨_, .base (.int _), Z.nfI⟩, mo, _, n, rfl, hmoC, .inr ⟨_, .base (.int _), Z.kI, false, rfl, iteF ?_⟩⟩
    refine ⟨_, rfl, _, rfl, ld, _, rfl, .inl ⟨SqL.of edC, fun tt ntt => ?_⟩⟩
    have sD := same_upd (o := .tup ((bits n).map vi)) ntt
    have hmoD := hmoC.same sD
    refine ⟨⟨mo, dmC, _, rfl, sD _ _ emC⟩, ⟨_, .base (.tup upd_same), Z.nfT⟩, mo, _, n, rfl, hmoD, .inr ⟨_, .base (.tup upd_same), Z.kT, false, rfl, iteF ?_⟩⟩
    refine ⟨_, rfl, rfl, false, rfl, iteF ?_⟩
    have edD := sD _ _ edC
    have e4D := sD _ _ e4C
    have PD := PC.same sD
    have emD := sD _ _ emC
    clear hmt etA hm2 em2
    refine strange_ok (K := K) rfl edD fun sg HE hsg sE => ?_
    have emE := sE _ _ emD
    have hmoE := hmoD.same sE
    have edE := sE _ _ edD
    have hsg1 : ∀ k ∈ [sg], k ≤ 30 := fun k hk => by rw [List.mem_singleton.mp hk]; exact hsg
    refine ⟨_, rfl, _, rfl, fun y dy ny ndy _ => ⟨HE, y, dy, [vi sg], rfl, made_same ny ndy, ny, upd_same, by show 1 ≤ 40; decide, made_good (ws := [sg]) hsg1 (fun HF sF eF bF => ⟨rfl, ?_⟩)⟩⟩
    have hmF : MoAt C HF y (num [sg] 0) := ⟨bF, dy, eF⟩
    refine ⟨⟨mo, dmC, _, rfl, sF _ _ emE⟩, ⟨_, isi_mo Z.T hmF, Z.nfC⟩, mo, _, n, rfl, hmoE.same sF, .inl ⟨y, _, rfl, hmF, ?_⟩⟩
    refine ⟨_, rfl, _, rfl, by show 1 ≤ sizeLine; decide, fun ls nls => ?_⟩
    have sG := same_upd (o := .lst [vi sg]) nls
    refine ⟨_, _, dp_vi (sG _ _ (sF _ _ edE)), dp_vi (ws := [sg]) upd_same, shp_dk _, shp_dk _, rfl, false, ?_, iteF ?_⟩
    · have e1 : gEq n (num [sg] 0) = PyData.eqv (.list ((bits n).map dk)) (.list ([sg].map dk)) := by
        show gEq n (num [sg] 0) = PyData.eqvAll ((bits n).map dk) ([sg].map dk)
        rw [eqv_dk, gEq, ← bits_dec hnl bF, bits_one hsg]
      rw [e1]
      exact neF rfl
    have tG := (sE.trans sF).trans sG
    have hmoG := hmoD.same tG
    have edG := tG _ _ edD
    have e4G := tG _ _ e4D
    have PG := PD.same tG
    clear hmoE hmF hmoD hmoC hmoA hmo9 hmo7 hmo
    refine ⟨_, rfl, lv, _, rfl, .inl (SqL.of e4G), fun bl nbl => ⟨by show 0 ≤ sizeLine; decide, fun lf nlf => ?_⟩⟩
    have old := off P4 nld
    have omo := off P5 nmo
    have obl := off PG nbl
    have sb := same_upd (o := .lst (ws.map vi)) nbl
    have sf := same_upd (o := .lst []) nlf
    have ebl := sf _ _ (show (upd _ bl (HO.lst (ws.map vi))) bl = some (HO.lst (ws.map vi)) from upd_same)
    have PH := (PG.same sb).same sf
    have edH := sf _ _ (sb _ _ edG)
    have hmoH := (hmoG.same sb).same sf
    have nld' : ld ∉ [p, c, bl] := by
      have z := ne_of_none edG nbl
      simp [old.1, old.2, z]
    have nmo' : mo ∉ [p, c, bl] := by
      obtain ⟨_, dz, ez⟩ := id hmoG
      have z := ne_of_none ez nbl
      simp [omo.1, omo.2, z]
    refine ⟨_, rfl, p, c, _, rfl, PH, by decide, by decide, fun HI d3 PI KI d30 d31 => ⟨d3, rfl, by omega, by omega, ?_⟩⟩
    have kHI : KeepL [p, c, bl] _ HI := KeepL.pot (by simp) (by simp) KI
    have eblI := KI _ _ obl.1 obl.2 ebl
    have edI := kHI _ _ nld' edH
    have hmoI := hmoH.keepL nmo' kHI
    clear KI PH edH hmoH hmoG edG PG ebl
    refine for_range (n := d3.toNat) (fun i σ H' => ∃ (v2 v11 : Option V) (xs : List V), σ = [some (.ref a), some (.ref p), v2, some (.ref lv), some (.ref ld), some (.ref mo), some (.int (n : Nat)), some (.ref mt), some (vi sg), some (.ref bl), some (.ref lf), v11, none, none] ∧ Pot H' p c ∧ xs.length ≤ 5 ∧ H' bl = some (.lst xs) ∧ (∀ x ∈ xs, ElS K [p, c, bl] H' x) ∧ KeepL [p, c, bl] HI H') ⟨_, _, ws.map vi, rfl, PI, by rw [List.length_map]; exact hz, eblI, fun x hx => ?_, KeepL.rfl'⟩ ?_ ?_
    · obtain ⟨k, hk, rfl⟩ := List.mem_map.mp hx
      exact .inl ⟨k, rfl, hw k hk⟩
    · rintro i σ H' hi ⟨v2, v11, xs, rfl, P', hx5, eb', hel, kp⟩
      refine ⟨_, rfl, _, rfl, bl, _, rfl, .inl (SqL.of eb'), _, _, rfl, rfl, p, c, _, rfl, P', by omega, by omega, fun HJ r PJ KJ r0 r1 => ?_⟩
      have kJ : KeepL [p, c, bl] H' HJ := KeepL.pot (by simp) (by simp) KJ
      have ebJ := KJ _ _ obl.1 obl.2 eb'
      refine ⟨_, rfl, bl, _, rfl, .inl (SqL.of ebJ), _, _, rfl, rfl, _, rfl, ?_⟩
      refine ite2 (fun hlt => ?_) (fun _ => ⟨_, _, xs, rfl, PJ, hx5, ebJ, fun x hx => (hel x hx).keep kJ, kp.trans kJ⟩)
      have hlt : xs.length < 5 := by have := of_decide_eq_true hlt; omega
      refine ⟨_, rfl, .inl ⟨rfl, _, SqL.of ebJ⟩, _, rfl, _, rfl, p, c, rfl, PJ, fun HK v PK KK ov => ?_⟩
      have kK : KeepL [p, c, bl] HJ HK := KeepL.pot (by simp) (by simp) KK
      have ebK := KK _ _ obl.1 obl.2 ebJ
      have kU : KeepL [p, c, bl] HK (upd HK bl (.lst (xs.take r.toNat ++ [v] ++ xs.drop r.toNat))) := KeepL.put (by simp)
      refine ⟨bl, xs, r, v, rfl, rfl, ebK, Nat.lt_of_lt_of_le hlt (by decide), r0, by omega, _, _, xs.take r.toNat ++ [v] ++ xs.drop r.toNat, rfl, PK.put obl.1 obl.2, ?_, upd_same, fun x hx => ?_, kp.trans (kJ.trans (kK.trans kU))⟩
      · have z : (xs.take r.toNat ++ [v] ++ xs.drop r.toNat).length = xs.length + 1 := by
          have y := congrArg List.length (List.take_append_drop r.toNat xs)
          simp only [List.length_append, List.length_cons, List.length_nil] at y ⊢
          omega
        rw [z]
        exact hlt
      · simp only [List.mem_append, List.mem_singleton] at hx
        rcases hx with (hx | rfl) | hx
        · exact (hel x (List.mem_of_mem_take hx)).keep (kJ.trans (kK.trans kU))
        · refine .inr fun H3 k3 => ov H3 fun b o nb eb => ?_
          have hb : b ∉ [p, c, bl] := by
            have z := off PJ nb
            have z2 := ne_of_none ebJ nb
            simp [z.1, z.2, z2.symm]
          exact k3 _ _ hb (kU _ _ hb eb)
        · exact (hel x (List.mem_of_mem_drop hx)).keep (kJ.trans (kK.trans kU))
    rintro σ HL ⟨v2, v11, xs, rfl, PL, hx5, ebL, hel, kp⟩
    have edL := kp _ _ nld' edI
    have hmoL := hmoI.keepL nmo' kp
    refine ⟨_, rfl, bl, rfl, ⟨_, SqL.of ebL⟩, fun lg nlg => ?_⟩
    have nvL : ∀ {H' : Hp}, Same HL H' → ∀ x ∈ xs, ∃ o, NV K H' x o := fun s x hx => ((hel x hx).keep (KeepL.same s)).nv
    refine lc_list (K := K) (a := bl) (xs := xs) (fun i H' => Same HL H' ∧ H' lg = some (.lst ((xs.take i).filter bad))) ⟨same_upd nlg, upd_same⟩ (fun i H' _ z => SqL.of (z.1 _ _ ebL)) ?_ ?_
    · rintro i x H' hx ⟨s1, e1⟩
      obtain ⟨o, hv⟩ := nvL s1 x (List.mem_of_getElem? hx)
      have tk : (xs.take (i + 1)).filter bad = (xs.take i).filter bad ++ (if bad x = true then [x] else []) := by
        rw [List.take_add_one, hx, List.filter_append]
        congr 1
        by_cases z : bad x = true
        · rw [if_pos z]; simp [z]
        · rw [if_neg z]; simp [z]
      refine ⟨rfl, test_ok rfl hv ?_⟩
      by_cases hb : bad x = true
      · rw [hb]
        refine iteT ⟨_, rfl, _, e1, ?_, fun b o eb => ?_, ?_⟩
        · exact Nat.lt_of_le_of_lt (Nat.le_trans (List.length_filter_le _ _) (Nat.le_trans (List.length_take_le' _ _) hx5)) (by decide)
        · rw [upd_ne (ne_of_none eb nlg)]
          exact s1 _ _ eb
        · rw [upd_same, tk, if_pos hb]
      · have hb' := Bool.not_eq_true _ ▸ hb
        rw [hb']
        refine iteF ⟨s1, ?_⟩
        rw [tk, if_neg hb, List.append_nil]
        exact e1
    rintro HM ⟨s1, e1⟩
    rw [List.take_length] at e1
    have ebM := s1 _ _ ebL
    have edM := s1 _ _ edL
    have hmoM := hmoL.same s1
    have odM : ∀ x ∈ xs.filter bad, Oddly K HM x := fun x hx => ((hel x (List.mem_filter.mp hx).1).keep (KeepL.same s1)).odd (List.mem_filter.mp hx).2
    obtain ⟨ds, hds, c1, c2, c3⟩ := odd_data odM
    have shp : SeqAt.shaped (.list ds) = true := by
      unfold SeqAt.shaped
      rw [Bool.and_eq_true]
      refine ⟨c1, decide_eq_true ?_⟩
      have e : PyData.depth (.list ds) = PyData.depthAll ds + 1 := rfl
      omega
    refine ⟨_, rfl, by show 0 ≤ sizeLine; decide, fun l0 n0 => ?_⟩
    have s2 := same_upd (o := .lst []) n0
    refine ⟨_, _, Gd.dp_same s2 (.lst (SqL.of e1) hds), .lst (SqL.of upd_same) .nil, shp, rfl, ?_⟩
    have t2 := s1.trans s2
    have eb2 := s2 _ _ ebM
    have el2 := s2 _ _ e1
    have ed2 := s2 _ _ edM
    have hmo2 := hmoM.same s2
    cases hfs : xs.filter bad with
    | nil =>
      have hd0 : ds = [] := c3.mpr hfs
      subst hd0
      refine ⟨true, rfl, iteT ⟨_, rfl, bl, xs, rfl, eb2, hx5, ⟨nvL t2, fun _ _ _ H' s3 => ⟨rfl, ?_⟩, fun i x o hi hv hb _ => ?_⟩⟩⟩
      · show Q (V.bl (decide (V.non = V.non))) H'
        rw [decide_eq_true rfl]
        exact q H'
      · have h1 : bad x = true := by rw [bad_nv hv, hb]; rfl
        have h2 : x ∈ xs.filter bad := List.mem_filter.mpr ⟨List.mem_of_getElem? hi, h1⟩
        rw [hfs] at h2
        cases h2
    | cons x0 r =>
      rw [hfs] at el2 odM
      have hdn : ds ≠ [] := fun z => by rw [c3.mp z] at hfs; cases hfs
      obtain ⟨o0, d0, b0, nv0, dp0, ok0, st0, _⟩ := odM x0 List.mem_cons_self
      refine ⟨false, ?_, iteF ⟨_, rfl, bl, xs, rfl, eb2, hx5, ⟨nvL t2, fun us e h => ?_, fun i x o hi hv hb hj => ?_⟩⟩⟩
      · cases ds with
        | nil => exact (hdn rfl).elim
        | cons _ _ => rfl
      · have hm : x0 ∈ xs.filter bad := by rw [hfs]; exact List.mem_cons_self
        have hm2 := (List.mem_filter.mp hm)
        rw [e] at hm2
        obtain ⟨k, hk, rfl⟩ := List.mem_map.mp hm2.1
        rw [bad_vi (h k hk)] at hm2
        cases hm2.2
      · have h1 : bad x = true := by rw [bad_nv hv, hb]; rfl
        obtain rfl := first_bad hfs hi h1 fun j y hlt hy => by
          obtain ⟨k, rfl, hk⟩ := hj j y hlt hy
          exact bad_vi hk
        refine ⟨d0, Gd.dp_same s2 dp0, ok0, fun H' l' s3 e3 => ?_⟩
        have t3 := s2.trans s3
        refine ⟨_, rfl, lg, _, _, _, rfl, rfl, SqL.of (s3 _ _ el2), atI_nat (j := 0) rfl, x, d0, rfl, Gd.dp_same t3 dp0, ok0, by show 3 ≤ sizeLine; decide, fun lt nlt => ?_⟩
        have s4 := same_upd (o := .lst [V.str d0.shown, V.bl true, V.bl true]) nlt
        refine ⟨_, _, told_dp (s4 _ _ e3), told_dp upd_same, told_shp st0, told_shp st0, true, by rw [SeqAt.eqv_refl _ (told_can st0)], iteT ?_⟩
        have t4 := s3.trans s4
        have hmo4 := hmo2.same t4
        obtain ⟨_, dm4, em4⟩ := id hmo4
        refine ⟨_, rfl, mo, dm4, _, rfl, em4, rfl, mo, n, rfl, hmo4, fun HZ lI sI nI eI => ⟨_, rfl, _, _, dp_vi eI, dp_vi (sI _ _ (t4 _ _ ed2)), shp_dk _, shp_dk _, ?_⟩⟩
        rw [SeqAt.eqv_refl _ (can_dkl _)]
        exact q _
end
end Toy
set_option Elab.async false
set_option linter.all false
set_option maxRecDepth 100000
set_option maxHeartbeats 4000000
namespace Toy
open PySem PySem.Spec PyProof.Rows L2
theorem all_mk {l : PySem.W.OpenLaw} {w : World} {K : PySem.W.Frag} {h : Heap} {mg : Str → Option Value} {fa f_is_whole f_is_between f_is_writer_number f_law_pot f_law_draw f_law_odd f_law_made f_law_refused f_law_power f_law C f_mi p_of f_of f_mw f_mn f_ml f_me D W f_iW : Addr}  (X : K.In h) (G : h.Ns mainGlobals mg) (hfa : mg "law" = some (.ref fa))
    {od_is_whole an_is_whole : Option Addr} {sl_is_whole : Array (Option Value)} {oc_is_whole kV_is_whole dc_is_whole pm_is_whole cd_is_whole ct_is_whole : Value} {od_is_between an_is_between : Option Addr} {sl_is_between : Array (Option Value)} {oc_is_between kV_is_between dc_is_between pm_is_between cd_is_between ct_is_between : Value} {od_is_writer_number an_is_writer_number : Option Addr} {sl_is_writer_number : Array (Option Value)} {oc_is_writer_number kV_is_writer_number dc_is_writer_number pm_is_writer_number cd_is_writer_number ct_is_writer_number : Value} {od_law_pot an_law_pot : Option Addr} {sl_law_pot : Array (Option Value)} {oc_law_pot kV_law_pot dc_law_pot pm_law_pot cd_law_pot ct_law_pot : Value} {od_law_draw an_law_draw : Option Addr} {sl_law_draw : Array (Option Value)} {oc_law_draw kV_law_draw dc_law_draw pm_law_draw cd_law_draw ct_law_draw : Value} {od_law_odd an_law_odd : Option Addr} {sl_law_odd : Array (Option Value)} {oc_law_odd kV_law_odd dc_law_odd pm_law_odd cd_law_odd ct_law_odd : Value} {od_law_made an_law_made : Option Addr} {sl_law_made : Array (Option Value)} {oc_law_made kV_law_made dc_law_made pm_law_made cd_law_made ct_law_made : Value} {od_law_refused an_law_refused : Option Addr} {sl_law_refused : Array (Option Value)} {oc_law_refused kV_law_refused dc_law_refused pm_law_refused cd_law_refused ct_law_refused : Value} {od_law_power an_law_power : Option Addr} {sl_law_power : Array (Option Value)} {oc_law_power kV_law_power dc_law_power pm_law_power cd_law_power ct_law_power : Value} {od_law an_law : Option Addr} {sl_law : Array (Option Value)} {oc_law kV_law dc_law pm_law cd_law ct_law : Value} {od_mi an_mi : Option Addr} {sl_mi : Array (Option Value)} {oc_mi kV_mi dc_mi pm_mi cd_mi ct_mi : Value} {rest_of : List Value} {od_of an_of : Option Addr} {sl_of : Array (Option Value)} {oc_of kV_of dc_of pm_of cd_of ct_of : Value} {tw tl : Tok} {od_mw an_mw : Option Addr} {sl_mw : Array (Option Value)} {oc_mw kV_mw dc_mw pm_mw cd_mw ct_mw : Value} {od_mn an_mn : Option Addr} {sl_mn : Array (Option Value)} {oc_mn kV_mn dc_mn pm_mn cd_mn ct_mn : Value} {od_ml an_ml : Option Addr} {sl_ml : Array (Option Value)} {oc_ml kV_ml dc_ml pm_ml cd_ml ct_ml : Value} {od_me an_me : Option Addr} {sl_me : Array (Option Value)} {oc_me kV_me dc_me pm_me cd_me ct_me : Value} {nm_W qn_W : Str} {ns_W : Addr} {bs_W bm_W : List Value} {sn_W : List Str} {sb_W : List Value} {ab_W : Bool} {co_W : Option Bool} {dd_W : Option Addr} {m0_W m1_W m2_W m3_W m5_W : Option Value} {od_iW an_iW : Option Addr} {sl_iW : Array (Option Value)} {oc_iW kV_iW dc_iW pm_iW cd_iW ct_iW : Value}
    (a_is_whole : PySem.W.nsIn K mainGlobals "is_whole" = some (some (.ref f_is_whole)))
    (l_is_whole : K.lookup f_is_whole = some ⟨oc_is_whole, od_is_whole, .func (PySem.W.fnOf "is_whole" "is_whole" (defArgs s_is_whole) (defBody s_is_whole) (defScope s_is_whole) .none kV_is_whole dc_is_whole pm_is_whole an_is_whole cd_is_whole ct_is_whole), sl_is_whole⟩)
    (c_is_whole : PySem.W.codeIn K cd_is_whole "is_whole" = true)
    (k_is_whole : PySem.W.keepIn K (.ref f_is_whole) = true)
    (a_is_between : PySem.W.nsIn K mainGlobals "is_between" = some (some (.ref f_is_between)))
    (l_is_between : K.lookup f_is_between = some ⟨oc_is_between, od_is_between, .func (PySem.W.fnOf "is_between" "is_between" (defArgs s_is_between) (defBody s_is_between) (defScope s_is_between) .none kV_is_between dc_is_between pm_is_between an_is_between cd_is_between ct_is_between), sl_is_between⟩)
    (c_is_between : PySem.W.codeIn K cd_is_between "is_between" = true)
    (k_is_between : PySem.W.keepIn K (.ref f_is_between) = true)
    (a_is_writer_number : PySem.W.nsIn K mainGlobals "is_writer_number" = some (some (.ref f_is_writer_number)))
    (l_is_writer_number : K.lookup f_is_writer_number = some ⟨oc_is_writer_number, od_is_writer_number, .func (PySem.W.fnOf "is_writer_number" "is_writer_number" (defArgs s_is_writer_number) (defBody s_is_writer_number) (defScope s_is_writer_number) .none kV_is_writer_number dc_is_writer_number pm_is_writer_number an_is_writer_number cd_is_writer_number ct_is_writer_number), sl_is_writer_number⟩)
    (c_is_writer_number : PySem.W.codeIn K cd_is_writer_number "is_writer_number" = true)
    (k_is_writer_number : PySem.W.keepIn K (.ref f_is_writer_number) = true)
    (a_law_pot : PySem.W.nsIn K mainGlobals "_law_pot" = some (some (.ref f_law_pot)))
    (l_law_pot : K.lookup f_law_pot = some ⟨oc_law_pot, od_law_pot, .func (PySem.W.fnOf "_law_pot" "_law_pot" (defArgs s_law_pot) (defBody s_law_pot) (defScope s_law_pot) .none kV_law_pot dc_law_pot pm_law_pot an_law_pot cd_law_pot ct_law_pot), sl_law_pot⟩)
    (c_law_pot : PySem.W.codeIn K cd_law_pot "_law_pot" = true)
    (k_law_pot : PySem.W.keepIn K (.ref f_law_pot) = true)
    (a_law_draw : PySem.W.nsIn K mainGlobals "_law_draw" = some (some (.ref f_law_draw)))
    (l_law_draw : K.lookup f_law_draw = some ⟨oc_law_draw, od_law_draw, .func (PySem.W.fnOf "_law_draw" "_law_draw" (defArgs s_law_draw) (defBody s_law_draw) (defScope s_law_draw) .none kV_law_draw dc_law_draw pm_law_draw an_law_draw cd_law_draw ct_law_draw), sl_law_draw⟩)
    (c_law_draw : PySem.W.codeIn K cd_law_draw "_law_draw" = true)
    (k_law_draw : PySem.W.keepIn K (.ref f_law_draw) = true)
    (a_law_odd : PySem.W.nsIn K mainGlobals "_law_odd" = some (some (.ref f_law_odd)))
    (l_law_odd : K.lookup f_law_odd = some ⟨oc_law_odd, od_law_odd, .func (PySem.W.fnOf "_law_odd" "_law_odd" (defArgs s_law_odd) (defBody s_law_odd) (defScope s_law_odd) .none kV_law_odd dc_law_odd pm_law_odd an_law_odd cd_law_odd ct_law_odd), sl_law_odd⟩)
    (c_law_odd : PySem.W.codeIn K cd_law_odd "_law_odd" = true)
    (k_law_odd : PySem.W.keepIn K (.ref f_law_odd) = true)
    (a_law_made : PySem.W.nsIn K mainGlobals "_law_made" = some (some (.ref f_law_made)))
    (l_law_made : K.lookup f_law_made = some ⟨oc_law_made, od_law_made, .func (PySem.W.fnOf "_law_made" "_law_made" (defArgs s_law_made) (defBody s_law_made) (defScope s_law_made) .none kV_law_made dc_law_made pm_law_made an_law_made cd_law_made ct_law_made), sl_law_made⟩)
    (c_law_made : PySem.W.codeIn K cd_law_made "_law_made" = true)
    (k_law_made : PySem.W.keepIn K (.ref f_law_made) = true)
    (a_law_refused : PySem.W.nsIn K mainGlobals "_law_refused" = some (some (.ref f_law_refused)))
    (l_law_refused : K.lookup f_law_refused = some ⟨oc_law_refused, od_law_refused, .func (PySem.W.fnOf "_law_refused" "_law_refused" (defArgs s_law_refused) (defBody s_law_refused) (defScope s_law_refused) .none kV_law_refused dc_law_refused pm_law_refused an_law_refused cd_law_refused ct_law_refused), sl_law_refused⟩)
    (c_law_refused : PySem.W.codeIn K cd_law_refused "_law_refused" = true)
    (k_law_refused : PySem.W.keepIn K (.ref f_law_refused) = true)
    (a_law_power : PySem.W.nsIn K mainGlobals "_law_power" = some (some (.ref f_law_power)))
    (l_law_power : K.lookup f_law_power = some ⟨oc_law_power, od_law_power, .func (PySem.W.fnOf "_law_power" "_law_power" (defArgs s_law_power) (defBody s_law_power) (defScope s_law_power) .none kV_law_power dc_law_power pm_law_power an_law_power cd_law_power ct_law_power), sl_law_power⟩)
    (c_law_power : PySem.W.codeIn K cd_law_power "_law_power" = true)
    (k_law_power : PySem.W.keepIn K (.ref f_law_power) = true)
    (a_law : PySem.W.nsIn K mainGlobals "law" = some (some (.ref f_law)))
    (l_law : K.lookup f_law = some ⟨oc_law, od_law, .func (PySem.W.fnOf "law" "law" (defArgs s_law) (defBody s_law) (defScope s_law) .none kV_law dc_law pm_law an_law cd_law ct_law), sl_law⟩)
    (c_law : PySem.W.codeIn K cd_law "law" = true)
    (k_law : PySem.W.keepIn K (.ref f_law) = true)
    (a_C : PySem.W.nsIn K mainGlobals "Moment" = some (some (.ref C)))
    (pg_C : PySem.W.plainGet K C Str.empty = true)
    (hd_C : PySem.W.hasDictIn K C = true)
    (po_C : PySem.W.plainOver K C = true)
    (sa_C : PySem.W.findIn K (.ref C) "__setattr__" = some (some (.builtin "object.__setattr__")))
    (mk_C : PySem.W.makesIn K C = true)
    (kc_C : PySem.W.keepIn K (.ref C) = true)
    (cC_C : PySem.W.findIn K (.ref C) "__class__" = some (some (.builtin "object.__class__")))
    (cM_C : PySem.W.mroIn K C (.type "object") = some true)
    (kk_C : PySem.W.kitOne K (.ref C) (.ref C) = some true)
    (n_C__number : PySem.W.findIn K (.ref C) "_number" = some none)
    (cG : PySem.W.specialIn K (.builtin "object.__class__") "__get__" = some (some (.builtin "getset_descriptor.__get__")))
    (cT : PySem.W.takesIn K (.builtin "object.__class__") = some true)
    (rd_C : PySem.W.readsIn K C (.type "type") = true)
    (ga_C : PySem.W.specialIn K (.ref C) "__getattribute__" = some (some (.builtin "type.__getattribute__")))
    (a_mi : PySem.W.findIn K (.ref C) "__init__" = some (some (.ref f_mi)))
    (i_mi : PySem.W.isFn K (.ref f_mi) = true)
    (l_mi : K.lookup f_mi = some ⟨oc_mi, od_mi, .func (PySem.W.fnOf "__init__" "Moment.__init__" (defArgs s_Moment_init) (defBody s_Moment_init) (defScope s_Moment_init) .none kV_mi dc_mi pm_mi an_mi cd_mi ct_mi), sl_mi⟩)
    (c_mi : PySem.W.codeIn K cd_mi "Moment.__init__" = true)
    (k_mi : PySem.W.keepIn K (.ref f_mi) = true)
    (a_of : PySem.W.findCls K (.ref C) (.type "type") "of" = some (.get (.builtin "staticmethod.__get__") (.ref p_of) .none (.ref C)))
    (r_of : PySem.W.recIn K p_of "staticmethod" = some (.ref f_of :: rest_of))
    (l_of : K.lookup f_of = some ⟨oc_of, od_of, .func (PySem.W.fnOf "of" "Moment.of" (defArgs s_Moment_of) (defBody s_Moment_of) (defScope s_Moment_of) .none kV_of dc_of pm_of an_of cd_of ct_of), sl_of⟩)
    (c_of : PySem.W.codeIn K cd_of "Moment.of" = true)
    (k_of : PySem.W.keepIn K (.ref f_of) = true)
    (kIC : PySem.W.kitOne K (.type "int") (.ref C) = some false)
    (lw : PySem.W.nsIn K mainGlobals "LAST_WRITER" = some (some (.int 30 tw)))
    (ln : PySem.W.nsIn K mainGlobals "LAST_NUMBER" = some (some (.int 2147483647 tl)))
    (z_len : PySem.W.nsIn K mainGlobals "len" = some none)
    (z_int : PySem.W.nsIn K mainGlobals "int" = some none)
    (z_bool : PySem.W.nsIn K mainGlobals "bool" = some none)
    (z_isinstance : PySem.W.nsIn K mainGlobals "isinstance" = some none)
    (z_range : PySem.W.nsIn K mainGlobals "range" = some none)
    (z_sum : PySem.W.nsIn K mainGlobals "sum" = some none)
    (z_list : PySem.W.nsIn K mainGlobals "list" = some none)
    (z_ValueError : PySem.W.nsIn K mainGlobals "ValueError" = some none)
    (a_mw : PySem.W.findIn K (.ref C) "writers" = some (some (.ref f_mw)))
    (i_mw : PySem.W.isFn K (.ref f_mw) = true)
    (l_mw : K.lookup f_mw = some ⟨oc_mw, od_mw, .func (PySem.W.fnOf "writers" "Moment.writers" (defArgs s_Moment_writers) (defBody s_Moment_writers) (defScope s_Moment_writers) .none kV_mw dc_mw pm_mw an_mw cd_mw ct_mw), sl_mw⟩)
    (c_mw : PySem.W.codeIn K cd_mw "Moment.writers" = true)
    (k_mw : PySem.W.keepIn K (.ref f_mw) = true)
    (a_mn : PySem.W.findIn K (.ref C) "number" = some (some (.ref f_mn)))
    (i_mn : PySem.W.isFn K (.ref f_mn) = true)
    (l_mn : K.lookup f_mn = some ⟨oc_mn, od_mn, .func (PySem.W.fnOf "number" "Moment.number" (defArgs s_Moment_number) (defBody s_Moment_number) (defScope s_Moment_number) .none kV_mn dc_mn pm_mn an_mn cd_mn ct_mn), sl_mn⟩)
    (c_mn : PySem.W.codeIn K cd_mn "Moment.number" = true)
    (k_mn : PySem.W.keepIn K (.ref f_mn) = true)
    (a_ml : PySem.W.findIn K (.ref C) "__len__" = some (some (.ref f_ml)))
    (i_ml : PySem.W.isFn K (.ref f_ml) = true)
    (l_ml : K.lookup f_ml = some ⟨oc_ml, od_ml, .func (PySem.W.fnOf "__len__" "Moment.__len__" (defArgs s_Moment_len) (defBody s_Moment_len) (defScope s_Moment_len) .none kV_ml dc_ml pm_ml an_ml cd_ml ct_ml), sl_ml⟩)
    (c_ml : PySem.W.codeIn K cd_ml "Moment.__len__" = true)
    (k_ml : PySem.W.keepIn K (.ref f_ml) = true)
    (a_me : PySem.W.findIn K (.ref C) "__eq__" = some (some (.ref f_me)))
    (i_me : PySem.W.isFn K (.ref f_me) = true)
    (l_me : K.lookup f_me = some ⟨oc_me, od_me, .func (PySem.W.fnOf "__eq__" "Moment.__eq__" (defArgs s_Moment_eq) (defBody s_Moment_eq) (defScope s_Moment_eq) .none kV_me dc_me pm_me an_me cd_me ct_me), sl_me⟩)
    (c_me : PySem.W.codeIn K cd_me "Moment.__eq__" = true)
    (k_me : PySem.W.keepIn K (.ref f_me) = true)
    (nfC : PySem.W.notFirst K C (.ref C) = true)
    (neC : PySem.W.findIn K (.ref C) "__ne__" = some (some (.builtin "object.__ne__")))
    (nfL : PySem.W.notFirst K C (.type "list") = true)
    (nfT : PySem.W.notFirst K C (.type "tuple") = true)
    (nfI : PySem.W.notFirst K C (.type "int") = true)
    (kLC : PySem.W.kitOne K (.type "list") (.ref C) = some false)
    (kTC : PySem.W.kitOne K (.type "tuple") (.ref C) = some false)
    (a_D : PySem.W.nsIn K mainGlobals "PagesError" = some (some (.ref D)))
    (a_W : PySem.W.nsIn K mainGlobals "BadWriter" = some (some (.ref W)))
    (x_W : K.lookup W = some (excClassObj nm_W qn_W W ns_W bs_W bm_W true sn_W sb_W ab_W co_W dd_W m0_W m1_W m2_W m3_W m5_W "ValueError.__new__"))
    (rv_W : PySem.HandSPX.refsVE bm_W = true)
    (sa_W : PySem.W.findIn K (.ref W) "__setattr__" = some (some (.builtin "object.__setattr__")))
    (gt_W : PySem.W.findIn K (.ref W) "__getattribute__" = some (some (.builtin "BaseException.__getattribute__")))
    (gg_W : PySem.W.findIn K (.ref W) "__getattr__" = some none)
    (cC_W : PySem.W.findIn K (.ref W) "__class__" = some (some (.builtin "object.__class__")))
    (no_W : PySem.W.findIn K (.ref W) "value" = some none)
    (ex_W : PySem.W.subIn K (.ref W) (.type "BaseException") = some true)
    (ty_W : PySem.W.typeIn K (.ref W) = some (.type "type"))
    (kc_W : PySem.W.keepIn K (.ref W) = true)
    (hd_W : PySem.W.hasDictIn K W = true)
    (ic_W : (PySem.W.clsIn K W).isSome = true)
    (cM_W : PySem.W.mroIn K W (.type "object") = some true)
    (ss_W : PySem.W.subIn K (.ref W) (.ref W) = some true)
    (in_W : PySem.W.findIn K (.ref W) "__init__" = some (some (.ref f_iW)))
    (it_W : PySem.W.typeIn K (.ref f_iW) = some (.type "function"))
    (l_iW : K.lookup f_iW = some ⟨oc_iW, od_iW, .func (PySem.W.fnOf "__init__" "BadWriter.__init__" (defArgs s_BadWriter_init) (defBody s_BadWriter_init) (defScope s_BadWriter_init) .none kV_iW dc_iW pm_iW an_iW cd_iW ct_iW), sl_iW⟩)
    (c_iW : PySem.W.codeIn K cd_iW "BadWriter.__init__" = true)
    (k_iW : PySem.W.keepIn K (.ref f_iW) = true)
    (rd_D : PySem.W.readsIn K D (.type "type") = true)
    (ga_D : PySem.W.specialIn K (.ref D) "__getattribute__" = some (some (.builtin "type.__getattribute__")))
    (up_D : PySem.W.findCls K (.ref D) (.type "type") "__init__" = some (.val (.builtin "ValueError.__init__")))
    (kWD : PySem.W.kitOne K (.ref W) (.ref D) = some true)
    (kWV : PySem.W.kitOne K (.ref W) (.type "ValueError") = some true)
    (z_repr : PySem.W.nsIn K mainGlobals "repr" = some none)
    (z_tuple : PySem.W.nsIn K mainGlobals "tuple" = some none) :
    ∀ base : Heap, K.In base → base.Ns mainGlobals mg → Gd.FnG l.prog w K mg base CX0 10 fa (spLaw K) := by
  have e := hfa.symm.trans (PySem.W.mg_of X G a_law)
  cases e
  have F_is_whole := fun_mk (st := s_is_whole) l_is_whole c_is_whole k_is_whole
  have b_is_whole := F_is_whole.binds (ps := ["value"]) fun _ _ _ _ _ _ us hl => match us, hl with | [_], _ => rfl
  have F_is_between := fun_mk (st := s_is_between) l_is_between c_is_between k_is_between
  have b_is_between := F_is_between.binds (ps := ["value", "low", "high"]) fun _ _ _ _ _ _ us hl => match us, hl with | [_, _, _], _ => rfl
  have F_is_writer_number := fun_mk (st := s_is_writer_number) l_is_writer_number c_is_writer_number k_is_writer_number
  have b_is_writer_number := F_is_writer_number.binds (ps := ["value"]) fun _ _ _ _ _ _ us hl => match us, hl with | [_], _ => rfl
  have F_law_pot := fun_mk (st := s_law_pot) l_law_pot c_law_pot k_law_pot
  have b_law_pot := F_law_pot.binds (ps := ["script"]) fun _ _ _ _ _ _ us hl => match us, hl with | [_], _ => rfl
  have F_law_draw := fun_mk (st := s_law_draw) l_law_draw c_law_draw k_law_draw
  have b_law_draw := F_law_draw.binds (ps := ["pot", "many"]) fun _ _ _ _ _ _ us hl => match us, hl with | [_, _], _ => rfl
  have F_law_odd := fun_mk (st := s_law_odd) l_law_odd c_law_odd k_law_odd
  have b_law_odd := F_law_odd.binds (ps := ["pot"]) fun _ _ _ _ _ _ us hl => match us, hl with | [_], _ => rfl
  have F_law_made := fun_mk (st := s_law_made) l_law_made c_law_made k_law_made
  have b_law_made := F_law_made.binds (ps := ["values"]) fun _ _ _ _ _ _ us hl => match us, hl with | [_], _ => rfl
  have F_law_refused := fun_mk (st := s_law_refused) l_law_refused c_law_refused k_law_refused
  have b_law_refused := F_law_refused.binds (ps := ["values"]) fun _ _ _ _ _ _ us hl => match us, hl with | [_], _ => rfl
  have F_law_power := fun_mk (st := s_law_power) l_law_power c_law_power k_law_power
  have b_law_power := F_law_power.binds (ps := ["writer"]) fun _ _ _ _ _ _ us hl => match us, hl with | [_], _ => rfl
  have F_law := fun_mk (st := s_law) l_law c_law k_law
  have F_law := fun_mk (st := s_law) l_law c_law k_law
  have b_law := F_law.binds (ps := ["script"]) fun _ _ _ _ _ _ us hl => match us, hl with | [_], _ => rfl
  have F_of := fun_mk (st := s_Moment_of) l_of c_of k_of
  have b_of := F_of.binds (ps := ["number"]) fun _ _ _ _ _ _ us hl => match us, hl with | [_], _ => rfl
  have F_mw := fun_mk (st := s_Moment_writers) l_mw c_mw k_mw
  have b_mw := F_mw.binds (ps := ["self"]) fun _ _ _ _ _ _ us hl => match us, hl with | [_], _ => rfl
  have F_mn := fun_mk (st := s_Moment_number) l_mn c_mn k_mn
  have b_mn := F_mn.binds (ps := ["self"]) fun _ _ _ _ _ _ us hl => match us, hl with | [_], _ => rfl
  have F_ml := fun_mk (st := s_Moment_len) l_ml c_ml k_ml
  have b_ml := F_ml.binds (ps := ["self"]) fun _ _ _ _ _ _ us hl => match us, hl with | [_], _ => rfl
  have F_me := fun_mk (st := s_Moment_eq) l_me c_me k_me
  have b_me := F_me.binds (ps := ["self", "other"]) fun _ _ _ _ _ _ us hl => match us, hl with | [_, _], _ => rfl
  have F_iW := fun_mk (st := s_BadWriter_init) l_iW c_iW k_iW
  have b_iW := F_iW.binds (ps := ["self", "value"]) fun _ _ _ _ _ _ us hl => match us, hl with | [_, _], _ => rfl
  have ox_W : OexC K W := ⟨⟨_, _, _, _, _, _, _, _, _, _, _, _, _, _, _, x_W, rv_W⟩, sa_W, ex_W, ty_W, kc_W⟩
  intro base _ _
  have mz : ∀ {n : Str}, PySem.W.nsIn K mainGlobals n = some none → mg n = none := fun z => PySem.W.mg_none_of X G z
  have T : Txt K mg C := ⟨⟨pg_C, hd_C, po_C, sa_C⟩, n_C__number, PySem.W.mg_of X G a_C, mz z_len, mz z_int, mz z_bool, mz z_isinstance, mz z_range, mz z_sum, mz z_list, cC_C, cG, cT, cM_C, kk_C, kIC, ⟨tw, PySem.W.mg_of X G lw⟩, ⟨tl, PySem.W.mg_of X G ln⟩⟩
  have TI : NmI mg := ⟨mz z_isinstance, mz z_int, mz z_bool⟩
  have GW := ok_wholeG (P := l.prog) (w := w) (base := base) F_is_whole TI
  have GB := ok_betwG F_is_between GW k_is_whole b_is_whole (PySem.W.mg_of X G a_is_whole)
  have GI := ok_isWG F_is_writer_number GB k_is_between b_is_between (PySem.W.mg_of X G a_is_between) ⟨tw, PySem.W.mg_of X G lw⟩
  have gI := PySem.W.mg_of X G a_is_writer_number
  have M : Mk K C f_mi := ⟨mk_C, a_mi, i_mi, kc_C⟩
  have GM : FnR l.prog w K mg base CX0 4 f_mi (spMk C) := ok_init l_mi c_mi T (isW_int GI) k_is_writer_number b_is_writer_number gI
  have GO := ok_of F_of T (betw_int GB) k_is_between b_is_between (PySem.W.mg_of X G a_is_between) M GM
  have GWr := ok_writers (P := l.prog) (w := w) (base := base) F_mw T
  have er : Err l.prog w K mg base "BadWriter" "value" W f_iW _ (spErr K "value") := ⟨ox_W, no_W, PySem.W.mg_of X G a_W, in_W, it_W, ok_BadWriter_init F_iW (PySem.W.mg_of X G a_D) ⟨⟨rd_D, ga_D⟩, up_D⟩, b_iW⟩
  have SU : Sui K W "value" := ⟨⟨ic_W, gt_W, gg_W, ex_W, cC_W, cG, cT, cM_W⟩, ⟨gt_W, gg_W, ex_W, hd_W⟩, no_W, PySem.W.exm_ref ex_W hd_W ty_W ss_W⟩
  have KW : KitW K mg W D := ⟨mz z_isinstance, mz z_repr, PySem.W.mg_of X G a_W, PySem.W.mg_of X G a_D, mz z_ValueError, kWD, kWV⟩
  have GMX := ok_mkX (C := C) l_mi c_mi T GI k_is_writer_number b_is_writer_number gI er
  have smO : Vx.SMet K C (.type "type") "of" p_of f_of := ⟨a_of, ⟨_, r_of⟩, k_of⟩
  have GMd := ok_made F_law_made M GMX (PySem.W.mg_of X G a_C) (mz z_len)
  have GRf := ok_refd F_law_refused b_law_refused GMd k_law_made b_law_made (PySem.W.mg_of X G a_law_made) SU KW
  have mW : Meth K C "writers" f_mw := ⟨a_mw, i_mw, k_mw⟩
  have GD : FnOk l.prog w K mg base CX0 1 f_law_draw _ ["pot", "many"] spDraw := ok_draw F_law_draw T.int T.len
  have DW : Drw l.prog w K mg base f_law_draw _ := ⟨GD, k_law_draw, b_law_draw, PySem.W.mg_of X G a_law_draw⟩
  exact ok_law F_law b_law { pot := ⟨ok_pot F_law_pot T.int, k_law_pot, b_law_pot, PySem.W.mg_of X G a_law_pot⟩, draw := ⟨GD, k_law_draw, b_law_draw, PySem.W.mg_of X G a_law_draw⟩, made := ⟨GMd, k_law_made, b_law_made, PySem.W.mg_of X G a_law_made⟩, pow := ⟨ok_pow F_law_power (mz z_range), k_law_power, b_law_power, PySem.W.mg_of X G a_law_power⟩, odd := ⟨ok_odd F_law_odd DW, k_law_odd, b_law_odd, PySem.W.mg_of X G a_law_odd⟩, R := GRf, kR := k_law_refused, gR := PySem.W.mg_of X G a_law_refused, gC := PySem.W.mg_of X G a_C, mkC := M, GM := GMX, rd := ⟨rd_C, ga_C⟩, sm := smO, GO := Vx.fnR GO b_of, cl := T.cl, mW := mW, GW := GWr, bW := b_mw, mN := ⟨a_mn, i_mn, k_mn⟩, GN := ok_number F_mn T, bN := b_mn, lA := a_ml, lF := i_ml, GL := Vx.fnR (ok_len F_ml T mW GWr b_mw) b_ml, T := T, ne := neC, eq := a_me, eF := i_me, GE := Vx.fnR (ok_eq F_me T) b_me, GA := Vx.fnR (ok_eqA F_me T) b_me, nfC := nfC, nfL := nfL, nfT := nfT, nfI := nfI, kL := kLC, kT := kTC, kI := kIC, rep := mz z_repr, tup := mz z_tuple }
end Toy
open PySem PySem.W PyProof.Rows in
set_option maxRecDepth 100000 in
set_option maxHeartbeats 0 in
theorem PySem.Challenge.cw_trustedpages_k02_moment_of_writers_holds : PySem.Challenge.rw_trustedpages_k02_moment_of_writers.Holds := by
  w_on; o_law; k_head; (case hw => w_witness2)
  k_fill
  refine Gd.walkG (l := PySem.Challenge.rw_trustedpages_k02_moment_of_writers) (n := 63) (k := 10) (sp := Toy.spLaw) rfl (by decide) rfl ⟨rfl, by decide, by decide⟩ (fun w h Y => PySem.W.kIn_of Y) ?F (fun _ _ a ns hl S => ⟨a, ns, rfl, S, hl, fun _ => rfl⟩)
  case F =>
    intro w mg fa h KX G hmg
    refine' Toy.all_mk KX G hmg ?a_is_whole ?l_is_whole ?c_is_whole ?k_is_whole ?a_is_between ?l_is_between ?c_is_between ?k_is_between ?a_is_writer_number ?l_is_writer_number ?c_is_writer_number ?k_is_writer_number ?a_law_pot ?l_law_pot ?c_law_pot ?k_law_pot ?a_law_draw ?l_law_draw ?c_law_draw ?k_law_draw ?a_law_odd ?l_law_odd ?c_law_odd ?k_law_odd ?a_law_made ?l_law_made ?c_law_made ?k_law_made ?a_law_refused ?l_law_refused ?c_law_refused ?k_law_refused ?a_law_power ?l_law_power ?c_law_power ?k_law_power ?a_law ?l_law ?c_law ?k_law ?a_C ?pg_C ?hd_C ?po_C ?sa_C ?mk_C ?kc_C ?cC_C ?cM_C ?kk_C ?n_C__number ?cG ?cT ?rd_C ?ga_C ?a_mi ?i_mi ?l_mi ?c_mi ?k_mi ?a_of ?r_of ?l_of ?c_of ?k_of ?kIC ?lw ?ln ?z_len ?z_int ?z_bool ?z_isinstance ?z_range ?z_sum ?z_list ?z_ValueError ?a_mw ?i_mw ?l_mw ?c_mw ?k_mw ?a_mn ?i_mn ?l_mn ?c_mn ?k_mn ?a_ml ?i_ml ?l_ml ?c_ml ?k_ml ?a_me ?i_me ?l_me ?c_me ?k_me ?nfC ?neC ?nfL ?nfT ?nfI ?kLC ?kTC ?a_D ?a_W ?x_W ?rv_W ?sa_W ?gt_W ?gg_W ?cC_W ?no_W ?ex_W ?ty_W ?kc_W ?hd_W ?ic_W ?cM_W ?ss_W ?in_W ?it_W ?l_iW ?c_iW ?k_iW ?rd_D ?ga_D ?up_D ?kWD ?kWV ?z_repr ?z_tuple
    (case a_is_whole => k_is)
    (case l_is_whole => k_is)
    (case c_is_whole => k_is)
    (case k_is_whole => k_is)
    (case a_is_between => k_is)
    (case l_is_between => k_is)
    (case c_is_between => k_is)
    (case k_is_between => k_is)
    (case a_is_writer_number => k_is)
    (case l_is_writer_number => k_is)
    (case c_is_writer_number => k_is)
    (case k_is_writer_number => k_is)
    (case a_law_pot => k_is)
    (case l_law_pot => k_is)
    (case c_law_pot => k_is)
    (case k_law_pot => k_is)
    (case a_law_draw => k_is)
    (case l_law_draw => k_is)
    (case c_law_draw => k_is)
    (case k_law_draw => k_is)
    (case a_law_odd => k_is)
    (case l_law_odd => k_is)
    (case c_law_odd => k_is)
    (case k_law_odd => k_is)
    (case a_law_made => k_is)
    (case l_law_made => k_is)
    (case c_law_made => k_is)
    (case k_law_made => k_is)
    (case a_law_refused => k_is)
    (case l_law_refused => k_is)
    (case c_law_refused => k_is)
    (case k_law_refused => k_is)
    (case a_law_power => k_is)
    (case l_law_power => k_is)
    (case c_law_power => k_is)
    (case k_law_power => k_is)
    (case a_law => k_is)
    (case l_law => k_is)
    (case c_law => k_is)
    (case k_law => k_is)
    (case a_C => k_is)
    (case pg_C => k_is)
    (case hd_C => k_is)
    (case po_C => k_is)
    (case sa_C => k_is)
    (case mk_C => k_is)
    (case kc_C => k_is)
    (case cC_C => k_is)
    (case cM_C => k_is)
    (case kk_C => exact if_pos (beq_self_eq_true _))
    (case n_C__number => k_is)
    (case cG => k_is)
    (case cT => k_is)
    (case rd_C => k_is)
    (case ga_C => k_is)
    (case a_mi => k_is)
    (case i_mi => k_is)
    (case l_mi => k_is)
    (case c_mi => k_is)
    (case k_mi => k_is)
    (case a_of => k_is)
    (case r_of => k_is)
    (case l_of => k_is)
    (case c_of => k_is)
    (case k_of => k_is)
    (case kIC => kit_is)
    (case lw => k_is)
    (case ln => k_is)
    (case z_len => k_is)
    (case z_int => k_is)
    (case z_bool => k_is)
    (case z_isinstance => k_is)
    (case z_range => k_is)
    (case z_sum => k_is)
    (case z_list => k_is)
    (case z_ValueError => k_is)
    (case a_mw => k_is)
    (case i_mw => k_is)
    (case l_mw => k_is)
    (case c_mw => k_is)
    (case k_mw => k_is)
    (case a_mn => k_is)
    (case i_mn => k_is)
    (case l_mn => k_is)
    (case c_mn => k_is)
    (case k_mn => k_is)
    (case a_ml => k_is)
    (case i_ml => k_is)
    (case l_ml => k_is)
    (case c_ml => k_is)
    (case k_ml => k_is)
    (case a_me => k_is)
    (case i_me => k_is)
    (case l_me => k_is)
    (case c_me => k_is)
    (case k_me => k_is)
    (case nfC => k_is)
    (case neC => k_is)
    (case nfL => k_is)
    (case nfT => k_is)
    (case nfI => k_is)
    (case kLC => kit_is)
    (case kTC => kit_is)
    (case a_D => k_is)
    (case a_W => k_is)
    (case x_W => k_is)
    (case rv_W => decide +kernel)
    (case sa_W => k_is)
    (case gt_W => k_is)
    (case gg_W => k_is)
    (case cC_W => k_is)
    (case no_W => k_is)
    (case ex_W => k_is)
    (case ty_W => k_is)
    (case kc_W => k_is)
    (case hd_W => k_is)
    (case ic_W => first | rfl | k_is)
    (case cM_W => k_is)
    (case ss_W => first | rfl | k_is)
    (case in_W => k_is)
    (case it_W => k_is)
    (case l_iW => k_is)
    (case c_iW => k_is)
    (case k_iW => k_is)
    (case rd_D => k_is)
    (case ga_D => k_is)
    (case up_D => k_is)
    (case kWD => kit_is)
    (case kWV => kit_is)
    (case z_repr => k_is)
    (case z_tuple => k_is)
