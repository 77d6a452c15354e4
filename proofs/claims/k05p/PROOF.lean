import PyProof.Rows.All
import Wide.All
import OpenK.AllK
import Wide.FinOn
import PyProof.EqAt
import PyProof.EqKinds
import PyProof.TupleCall
import KE.KOpsOwn
import HandS.ForMost
import HandS.OwnEq
import HandS.Star
import HandS.ClsMeth
import HandS.IsInst
import HandS.Codes
import HandS.Flow
import HandS.Wide
import PySem.Challenge.RW_trustedpages_k05_rows_and_who_sees_them
import KE.KExcIs
import HandS.ExcInit
import HandS.ExcField
import HandS.ExcIs
import HandS.ExcOwn
import HandS.MakeKw
import HandS.MakeKwOnly
import HandS.Defaults
import HandS.Property
import HandS.WordsExc
import Open.Row
import KE.RegKIsAll
set_option Elab.async false
set_option linter.all false
set_option maxRecDepth 100000
set_option maxHeartbeats 2000000
/-! own operators, static methods, an own class called with a star -/
namespace Vx
open PySem PySem.Spec PyProof.Rows L2
section
variable {P : Program} {w : World} {K : PySem.W.Frag} {mg : Str → Option Value} {base : Heap} {CX : CXT} {k : Nat} {f : Addr} {fd : FuncData} {ps : List Str} {sp : Sp}
theorem fnR (F : FnOk P w K mg base CX k f fd ps sp) (hb : L2.Binds K fd ps []) : FnR P w K mg base CX k f sp := by
  intro A outer s H us vs Q E hr e0 r hsp
  have hl := F.len _ _ _ _ hsp
  have KX : K.In s.heap := e0.mod.kin.keeps fun b o e => (e0.bs b o e).1
  refine F.run A outer s H ⟨us, []⟩ us vs Q E hr e0 ?_ r hsp
  have := hb s us KX (by rw [List.append_nil, ← r.length]; exact hl)
  simpa using this
end
section
variable {X : Cx} {CX : CXT} {k : Nat} {C f : Addr} {sp : Sp} {E : XK} {pins : List (Addr × Obj)} {σ : L2.St} {H : Hp} {s : Shared} {Q : VK}
theorem cmpBack_of {v : Value} {s' : Shared} (h : EP X pins σ Q v s') : PySem.W.CmpBack (EP X pins σ Q) v s' := by
  cases v with
  | notImplemented =>
    obtain ⟨v', H', I', r, q⟩ := h
    cases v' with
    | int i => obtain ⟨t, e⟩ := r; cases e
    | str i => obtain ⟨t, e⟩ := r; cases e
    | byt i => obtain ⟨t, e⟩ := r; cases e
    | flt i => obtain ⟨t, e⟩ := r; cases e
    | non => cases r
    | bl b => cases r
    | ref a => cases r
    | ty n => cases r
  | _ => exact h
theorem call_cmp {us : List Value} {vs : List V} (F : FnR X.prog X.w X.K X.mg X.base CX k f sp) (hr : Room k X.A) (hx : Passes CX X E) (I : L2.Inv X pins σ H s) (r : Vals vs us) (h : sp vs H Q E) :
    wpAny (model X.prog X.w) X.A (call (.ref f) us) (PySem.W.CmpBack (EP X pins σ Q)) X.xe s :=
  wpAny_mono (wpAny_call (run_fnR F hr hx I r h)) (fun _ _ z => cmpBack_of z) fun _ _ z => z
/-- o op y by the own method of o's class; y of the same class, or an int -/
def rOwn (C : Addr) (sp : Sp) (E : XK) : R2 := fun x y H Q => (∃ a dx fs, x = .ref a ∧ H a = some (.ins C dx fs)) ∧ ((∃ b dy gs, y = .ref b ∧ H b = some (.ins C dy gs)) ∨ ∃ i, y = .int i) ∧ sp [x, y] H Q E
/-- what the text says of an operator of the class at C -/
structure OpF (K : PySem.W.Frag) (C f : Addr) (op : Operator) : Prop where
  sf : PySem.W.selfFirst K C = true
  at_ : PySem.W.findIn K (.ref C) (PySem.dunder op.info.2) = some (some (.ref f))
  fn : PySem.W.isFn K (.ref f) = true
  rf : ∃ rc, PySem.W.findIn K (.ref C) (PySem.dunderR op.info.2) = some rc ∧ (rc = none ∨ ∃ g : Addr, rc = some (.ref g))
  i1 : ∃ fo, PySem.W.findIn K (.type "int") (PySem.dunder op.info.2) = some fo
  i2 : ∃ ro, PySem.W.findIn K (.type "int") (PySem.dunderR op.info.2) = some ro
  sub : PySem.W.subIn K (.type "int") (.ref C) = some false
theorem op_own {op : Operator} (O : OpF X.K C f op) (F : FnR X.prog X.w X.K X.mg X.base CX k f sp) (hr : Room k X.A) (hx : Passes CX X E) : OpR X (binaryOp op) (rOwn C sp E) := by
  intro pins s σ H x y v u Q I rx ry hq
  obtain ⟨⟨a, dx, fs, rfl, ha⟩, hy, hsp⟩ := hq
  have ev : v = Value.ref a := rx
  have cl := call_cmp F hr hx I (us := [v, u]) (vs := [V.ref a, y]) (.cons rx (.cons ry .nil)) hsp
  subst ev
  obtain ⟨mA, J, _⟩ := ins_get I.hok ha
  obtain ⟨od, J, _⟩ := J.look
  obtain ⟨m, hF⟩ := I.fr
  rcases hy with ⟨b, dy, gs, rfl, hb⟩ | ⟨i, rfl⟩
  · have eu : u = Value.ref b := ry
    subst eu
    obtain ⟨mB, J', _⟩ := ins_get I.hok hb
    obtain ⟨od', J', _⟩ := J'.look
    exact PySem.W.binop_K hF I.ok.mod.kin J J'.type O.sf O.at_ O.fn cl
  · obtain ⟨t, rfl⟩ := ry
    obtain ⟨rc, r1, r2⟩ := O.rf
    obtain ⟨fo, i1⟩ := O.i1
    obtain ⟨ro, i2⟩ := O.i2
    exact PySem.W.ksp_binT (T := "int") hF I.ok.mod.kin J rfl O.sf O.at_ O.fn r1 r2 i1 i2 O.sub cl
/-- o cmp y by the own method, y of the same class -/
def rCmp (C : Addr) (sp : Sp) (E : XK) : R2 := fun x y H Q => (∃ a dx fs, x = .ref a ∧ H a = some (.ins C dx fs)) ∧ (∃ b dy gs, y = .ref b ∧ H b = some (.ins C dy gs)) ∧ sp [x, y] H Q E
theorem op_cmpOwn {op : CmpOp} (hc : ∀ v u, compareOp op v u = richCompare op v u) (nf : PySem.W.notFirst X.K C (.ref C) = true) (at_ : PySem.W.findIn X.K (.ref C) (cmpInfo op).2.1 = some (some (.ref f))) (fn : PySem.W.isFn X.K (.ref f) = true)
    (F : FnR X.prog X.w X.K X.mg X.base CX k f sp) (hr : Room k X.A) (hx : Passes CX X E) : OpR X (compareOp op) (rCmp C sp E) := by
  intro pins s σ H x y v u Q I rx ry hq
  obtain ⟨⟨a, dx, fs, rfl, ha⟩, ⟨b, dy, gs, rfl, hb⟩, hsp⟩ := hq
  have ev : v = Value.ref a := rx
  have eu : u = Value.ref b := ry
  have cl := call_cmp F hr hx I (us := [v, u]) (vs := [V.ref a, V.ref b]) (.cons rx (.cons ry .nil)) hsp
  subst ev eu
  obtain ⟨mA, J, _⟩ := ins_get I.hok ha
  obtain ⟨od, J, _⟩ := J.look
  obtain ⟨mB, J', _⟩ := ins_get I.hok hb
  obtain ⟨od', J', _⟩ := J'.look
  obtain ⟨m, hF⟩ := I.fr
  rw [hc]
  exact PySem.W.cmp_K hr.units0 hF I.ok.mod.kin J J'.type nf at_ fn cl
/-- x in o by the own method -/
def rInOwn (C : Addr) (sp : Sp) (E : XK) (neg : Bool) : R2 := fun x y H Q => (∃ a dx fs, y = .ref a ∧ H a = some (.ins C dx fs)) ∧ sp [y, x] H (fun v H' => ∃ b, v = .bl b ∧ Q (.bl (if neg then !b else b)) H') E
theorem op_inOwn (at_ : PySem.W.findIn X.K (.ref C) "__contains__" = some (some (.ref f))) (fn : PySem.W.isFn X.K (.ref f) = true)
    (F : FnR X.prog X.w X.K X.mg X.base CX k f sp) (hr : Room k X.A) (hx : Passes CX X E) : OpR X (compareOp .In) (rInOwn C sp E false) := by
  intro pins s σ H x y v u Q I rx ry hq
  obtain ⟨⟨a, dx, fs, rfl, ha⟩, hsp⟩ := hq
  have eu : u = Value.ref a := ry
  have cl := wpAny_call (run_fnR (us := [u, v]) (vs := [V.ref a, x]) F hr hx I (.cons ry (.cons rx .nil)) hsp)
  subst eu
  obtain ⟨mA, J, _⟩ := ins_get I.hok ha
  obtain ⟨od, J, _⟩ := J.look
  obtain ⟨m, hF⟩ := I.fr
  refine PySem.W.in_K hF I.ok.mod.kin J at_ fn (wpAny_mono cl (fun r s' z => ?_) fun _ _ z => z)
  obtain ⟨v', H', I', rv, b, rfl, q⟩ := z
  have er : r = Value.bool b := rv
  subst er
  exact wpAny_truthy_bool ⟨.bl b, H', I', rfl, q⟩
end
/-! static methods -/
structure SMet (K : PySem.W.Frag) (C : Addr) (mc : Value) (m : Str) (p g : Addr) : Prop where
  at_ : PySem.W.findCls K (.ref C) mc m = some (.get (.builtin "staticmethod.__get__") (.ref p) .none (.ref C))
  rc : ∃ rest, PySem.W.recIn K p "staticmethod" = some (.ref g :: rest)
  kp : PySem.W.keepIn K (.ref g) = true
def tSMeth (C : Addr) (sp : Sp) (E : XK) (ta : TE) (t : TA) : TE := fun σ H Q => ta σ H fun x H1 => x = .ref C ∧ t σ H1 fun vs H2 => sp vs H2 Q E
section
variable {X : Cx} {CX : CXT} {k : Nat} {C p g : Addr} {mc : Value} {sp : Sp} {E : XK} {o e : Expr} {es : List Expr} {m : Str} {pos apos : Pos} {ta : TE} {t : TA} {pl : Sem Bool}
theorem pe_smeth (he : PE X o ta) (r : ClX.CRead X.K C mc) (c : SMet X.K C mc m p g) (F : FnR X.prog X.w X.K X.mg X.base CX k g sp) (hr : Room k X.A) (hx : Passes CX X E) (ha : PA X (e :: es) t)
    (hst : starEach (e :: es) X.env = (false, eval e X.env) :: starEach es X.env := by rfl) (hpl : (backTo pos (starEach es X.env)).any (·.1) = false := by rfl)
    (ht : eval (.Call (.Attribute o m apos) (e :: es) [] pos) X.env = (do
      let ov ← eval o X.env
      standAt apos.atName
      let (f, first) ← holding [ov] (getMethod ov m pl)
      callWith pos f first (backTo pos (starEach (e :: es) X.env)) (backToKw pos (keywordEach [] X.env))) := by rfl) :
    PE X (.Call (.Attribute o m apos) (e :: es) [] pos) (tSMeth C sp E ta t) := by
  refine ⟨fun pins s σ H Q I h => ?_⟩
  refine PySem.W.methodCall_KW (pl := pl) (thn (he.run pins s σ H _ I h) fun u s1 ⟨x, H1, I1, rx, ex, q⟩ => ?_) ht
  subst ex
  obtain rfl : u = Value.ref C := rx
  obtain ⟨rest, hp⟩ := c.rc
  refine PySem.W.method_cls I1.kIn r.ga (PySem.W.cls_bind I1.kIn r.rd c.at_ (wpAny_call (PySem.W.sm_get (s := { s1 with toks := s1.toks + 1 }) I1.kIn hp (PySem.W.handed_on rfl ?_))))
  have I2 : L2.Inv X pins σ H1 { s1 with toks := s1.toks + 1 } := I1.tok _
  refine PySem.W.callWith_K (h₀ := X.base) I2.ok.mod.kin c.kp (thn (ha.run pos pins _ σ H1 _ I2 q) fun us s3 ⟨vs, H2, I3, rv, q2⟩ => ⟨I3.kIn, ?_⟩) hst hpl
  exact wpAny_call (run_fnR F hr hx I3 rv q2)
end
/-! C(*xs) -/
section
variable {X : Cx} {CX : CXT} {k : Nat} {f C : Addr} {sp : Sp} {E : XK} {x : Str} {e : Expr} {te : TE} {p pos sp_ : Pos}
def tMakeS (K : PySem.W.Frag) (C : Addr) (sp : Sp) (E : XK) (te : TE) : TE := fun σ H Q => te σ H fun y H1 => ∃ a xs, y = V.ref a ∧ (SqT K H1 a xs ∨ SqL K H1 a xs) ∧ ∀ x dx, H1 x = Option.none → H1 dx = Option.none → dx ≠ x →
  sp (V.ref x :: xs) (upd (upd H1 dx (.own x)) x (.ins C dx [])) (fun v H2 => v = .non ∧ Q (.ref x) H2) E
theorem pe_makeS (M : Mk X.K C f) (F : FnR X.prog X.w X.K X.mg X.base CX k f sp) (hr : Room (k + 1) X.A) (hg : Gl X x) (hm : X.mg x = some (.ref C)) (hx : Passes CX X E) (he : PE X e te) (hd : (x == ("__debug__" : Str)) = false := by decide)
    (hst : starEach [.Starred e sp_] X.env = [(true, eval e X.env)] := by rfl) :
    PE X (.Call (.Name x p) [.Starred e sp_] [] pos) (tMakeS X.K C sp E te) := by
  refine ⟨fun pins s σ H Q I h => ?_⟩
  refine wpAny_Call_Name_kw (ld_glob I hg hm ?_ hd)
  refine PySem.W.callWith_S (h₀ := X.base) I.ok.mod.kin M.kp (thn (he.run pins s σ H _ I h) fun v s1 ⟨y, H1, I1, ry, a, xs, ey, hxs, q⟩ => ?_) hst
  subst ey
  obtain rfl : v = Value.ref a := ry
  exact StX.star_any I1 hxs fun us s2 I2 rv => ⟨I2.kIn, StX.run_makeR M F hr hx I2 rv q⟩
def tMakeZ (C : Addr) (sp : Sp) (E : XK) : TE := fun _ H Q => ∀ x dx, H x = Option.none → H dx = Option.none → dx ≠ x →
  sp [V.ref x] (upd (upd H dx (.own x)) x (.ins C dx [])) (fun v H2 => v = .non ∧ Q (.ref x) H2) E
end
end Vx
set_option Elab.async false
set_option linter.all false
set_option maxRecDepth 100000
namespace Toy
open PySem PySem.Spec PyProof.Rows L2
def topS (i : Nat) : Stmt := PySem.Challenge.pw_trustedpages_k05_rows_and_who_sees_them.main.body.getD i (.Pass ⟨0, 0, 0, 0⟩)
abbrev s_BadWriter_init : Stmt := inClass (topS 2) 0
theorem sc_BadWriter_init : FnScope ["self", "value"] ["self", "value"] (defScope s_BadWriter_init) := ⟨rfl, rfl, rfl, by decide +kernel, rfl, by decide +kernel, by decide +kernel⟩
-- BadWriter_init cells []
abbrev s_BadRow_init : Stmt := inClass (topS 3) 0
theorem sc_BadRow_init : FnScope ["self", "field"] ["self", "field"] (defScope s_BadRow_init) := ⟨rfl, rfl, rfl, by decide +kernel, rfl, by decide +kernel, by decide +kernel⟩
-- BadRow_init cells []
abbrev s_is_whole : Stmt := topS 5
theorem sc_is_whole : FnScope ["value"] ["value"] (defScope s_is_whole) := ⟨rfl, rfl, rfl, by decide +kernel, rfl, by decide +kernel, by decide +kernel⟩
-- is_whole cells []
abbrev s_is_between : Stmt := topS 6
theorem sc_is_between : FnScope ["value", "low", "high"] ["value", "low", "high"] (defScope s_is_between) := ⟨rfl, rfl, rfl, by decide +kernel, rfl, by decide +kernel, by decide +kernel⟩
-- is_between cells []
abbrev s_is_writer_number : Stmt := topS 10
theorem sc_is_writer_number : FnScope ["value"] ["value"] (defScope s_is_writer_number) := ⟨rfl, rfl, rfl, by decide +kernel, rfl, by decide +kernel, by decide +kernel⟩
-- is_writer_number cells []
abbrev s_number_of : Stmt := topS 11
theorem sc_number_of : FnScope ["value"] ["value"] (defScope s_number_of) := ⟨rfl, rfl, rfl, by decide +kernel, rfl, by decide +kernel, by decide +kernel⟩
-- number_of cells []
abbrev s_Moment_init : Stmt := inClass (topS 12) 0
theorem sc_Moment_init : FnScope ["self", "writers", "writer", "k"] ["self", "writers"] (defScope s_Moment_init) := ⟨rfl, rfl, rfl, by decide +kernel, rfl, by decide +kernel, by decide +kernel⟩
-- Moment_init cells ['writers']
abbrev s_Moment_of : Stmt := inClass (topS 12) 1
theorem sc_Moment_of : FnScope ["number", "writers", "k"] ["number"] (defScope s_Moment_of) := ⟨rfl, rfl, rfl, by decide +kernel, rfl, by decide +kernel, by decide +kernel⟩
-- Moment_of cells ['number']
abbrev s_Moment_number : Stmt := inClass (topS 12) 2
theorem sc_Moment_number : FnScope ["self"] ["self"] (defScope s_Moment_number) := ⟨rfl, rfl, rfl, by decide +kernel, rfl, by decide +kernel, by decide +kernel⟩
-- Moment_number cells []
abbrev s_Moment_writers : Stmt := inClass (topS 12) 3
theorem sc_Moment_writers : FnScope ["self", "k"] ["self"] (defScope s_Moment_writers) := ⟨rfl, rfl, rfl, by decide +kernel, rfl, by decide +kernel, by decide +kernel⟩
-- Moment_writers cells ['self']
abbrev s_Moment_len : Stmt := inClass (topS 12) 4
theorem sc_Moment_len : FnScope ["self"] ["self"] (defScope s_Moment_len) := ⟨rfl, rfl, rfl, by decide +kernel, rfl, by decide +kernel, by decide +kernel⟩
-- Moment_len cells []
abbrev s_Moment_contains : Stmt := inClass (topS 12) 5
theorem sc_Moment_contains : FnScope ["self", "value"] ["self", "value"] (defScope s_Moment_contains) := ⟨rfl, rfl, rfl, by decide +kernel, rfl, by decide +kernel, by decide +kernel⟩
-- Moment_contains cells []
abbrev s_Moment_or : Stmt := inClass (topS 12) 6
theorem sc_Moment_or : FnScope ["self", "other", "number"] ["self", "other"] (defScope s_Moment_or) := ⟨rfl, rfl, rfl, by decide +kernel, rfl, by decide +kernel, by decide +kernel⟩
-- Moment_or cells []
abbrev s_Moment_ror : Stmt := inClass (topS 12) 7
theorem sc_Moment_ror : FnScope ["self", "other"] ["self", "other"] (defScope s_Moment_ror) := ⟨rfl, rfl, rfl, by decide +kernel, rfl, by decide +kernel, by decide +kernel⟩
-- Moment_ror cells []
abbrev s_Moment_and : Stmt := inClass (topS 12) 8
theorem sc_Moment_and : FnScope ["self", "other", "number"] ["self", "other"] (defScope s_Moment_and) := ⟨rfl, rfl, rfl, by decide +kernel, rfl, by decide +kernel, by decide +kernel⟩
-- Moment_and cells []
abbrev s_Moment_rand : Stmt := inClass (topS 12) 9
theorem sc_Moment_rand : FnScope ["self", "other"] ["self", "other"] (defScope s_Moment_rand) := ⟨rfl, rfl, rfl, by decide +kernel, rfl, by decide +kernel, by decide +kernel⟩
-- Moment_rand cells []
abbrev s_Moment_sub : Stmt := inClass (topS 12) 10
theorem sc_Moment_sub : FnScope ["self", "other", "number"] ["self", "other"] (defScope s_Moment_sub) := ⟨rfl, rfl, rfl, by decide +kernel, rfl, by decide +kernel, by decide +kernel⟩
-- Moment_sub cells []
abbrev s_Moment_rsub : Stmt := inClass (topS 12) 11
theorem sc_Moment_rsub : FnScope ["self", "other", "number"] ["self", "other"] (defScope s_Moment_rsub) := ⟨rfl, rfl, rfl, by decide +kernel, rfl, by decide +kernel, by decide +kernel⟩
-- Moment_rsub cells []
abbrev s_Moment_eq : Stmt := inClass (topS 12) 12
theorem sc_Moment_eq : FnScope ["self", "other"] ["self", "other"] (defScope s_Moment_eq) := ⟨rfl, rfl, rfl, by decide +kernel, rfl, by decide +kernel, by decide +kernel⟩
-- Moment_eq cells []
abbrev s_Moment_le : Stmt := inClass (topS 12) 13
theorem sc_Moment_le : FnScope ["self", "other"] ["self", "other"] (defScope s_Moment_le) := ⟨rfl, rfl, rfl, by decide +kernel, rfl, by decide +kernel, by decide +kernel⟩
-- Moment_le cells []
abbrev s_Moment_lt : Stmt := inClass (topS 12) 14
theorem sc_Moment_lt : FnScope ["self", "other"] ["self", "other"] (defScope s_Moment_lt) := ⟨rfl, rfl, rfl, by decide +kernel, rfl, by decide +kernel, by decide +kernel⟩
-- Moment_lt cells []
abbrev s_Moment_ge : Stmt := inClass (topS 12) 15
theorem sc_Moment_ge : FnScope ["self", "other"] ["self", "other"] (defScope s_Moment_ge) := ⟨rfl, rfl, rfl, by decide +kernel, rfl, by decide +kernel, by decide +kernel⟩
-- Moment_ge cells []
abbrev s_Moment_gt : Stmt := inClass (topS 12) 16
theorem sc_Moment_gt : FnScope ["self", "other"] ["self", "other"] (defScope s_Moment_gt) := ⟨rfl, rfl, rfl, by decide +kernel, rfl, by decide +kernel, by decide +kernel⟩
-- Moment_gt cells []
abbrev s_is_field : Stmt := topS 14
theorem sc_is_field : FnScope ["value"] ["value"] (defScope s_is_field) := ⟨rfl, rfl, rfl, by decide +kernel, rfl, by decide +kernel, by decide +kernel⟩
-- is_field cells []
abbrev s_Row_init : Stmt := inClass (topS 15) 0
theorem sc_Row_init : FnScope ["self", "beginner", "ender"] ["self", "beginner", "ender"] (defScope s_Row_init) := ⟨rfl, rfl, rfl, by decide +kernel, rfl, by decide +kernel, by decide +kernel⟩
-- Row_init cells []
abbrev s_Row_ancient : Stmt := inClass (topS 15) 1
theorem sc_Row_ancient : FnScope [] [] (defScope s_Row_ancient) := ⟨rfl, rfl, rfl, by decide +kernel, rfl, by decide +kernel, by decide +kernel⟩
-- Row_ancient cells []
abbrev s_Row_beginner : Stmt := inClass (topS 15) 2
theorem sc_Row_beginner : FnScope ["self"] ["self"] (defScope s_Row_beginner) := ⟨rfl, rfl, rfl, by decide +kernel, rfl, by decide +kernel, by decide +kernel⟩
-- Row_beginner cells []
abbrev s_Row_ender : Stmt := inClass (topS 15) 3
theorem sc_Row_ender : FnScope ["self"] ["self"] (defScope s_Row_ender) := ⟨rfl, rfl, rfl, by decide +kernel, rfl, by decide +kernel, by decide +kernel⟩
-- Row_ender cells []
abbrev s_Row_seen : Stmt := inClass (topS 15) 4
theorem sc_Row_seen : FnScope ["self", "moment", "begun", "over"] ["self", "moment"] (defScope s_Row_seen) := ⟨rfl, rfl, rfl, by decide +kernel, rfl, by decide +kernel, by decide +kernel⟩
-- Row_seen cells []
abbrev s_Row_ended : Stmt := inClass (topS 15) 5
theorem sc_Row_ended : FnScope ["self", "writer"] ["self", "writer"] (defScope s_Row_ended) := ⟨rfl, rfl, rfl, by decide +kernel, rfl, by decide +kernel, by decide +kernel⟩
-- Row_ended cells []
abbrev s_Row_eq : Stmt := inClass (topS 15) 6
theorem sc_Row_eq : FnScope ["self", "other"] ["self", "other"] (defScope s_Row_eq) := ⟨rfl, rfl, rfl, by decide +kernel, rfl, by decide +kernel, by decide +kernel⟩
-- Row_eq cells []
abbrev s_law_pot : Stmt := topS 17
theorem sc_law_pot : FnScope ["script", "cell"] ["script"] (defScope s_law_pot) := ⟨rfl, rfl, rfl, by decide +kernel, rfl, by decide +kernel, by decide +kernel⟩
-- law_pot cells []
abbrev s_law_draw : Stmt := topS 18
theorem sc_law_draw : FnScope ["pot", "many", "cells", "at", "cell"] ["pot", "many"] (defScope s_law_draw) := ⟨rfl, rfl, rfl, by decide +kernel, rfl, by decide +kernel, by decide +kernel⟩
-- law_draw cells []
abbrev s_law_odd : Stmt := topS 19
theorem sc_law_odd : FnScope ["pot", "odd"] ["pot"] (defScope s_law_odd) := ⟨rfl, rfl, rfl, by decide +kernel, rfl, by decide +kernel, by decide +kernel⟩
-- law_odd cells []
abbrev s_law_bits : Stmt := topS 20
theorem sc_law_bits : FnScope ["number", "bits", "k"] ["number"] (defScope s_law_bits) := ⟨rfl, rfl, rfl, by decide +kernel, rfl, by decide +kernel, by decide +kernel⟩
-- law_bits cells []
abbrev s_law_writer : Stmt := topS 21
theorem sc_law_writer : FnScope ["pot", "drawn"] ["pot"] (defScope s_law_writer) := ⟨rfl, rfl, rfl, by decide +kernel, rfl, by decide +kernel, by decide +kernel⟩
-- law_writer cells []
abbrev s_law_refused : Stmt := topS 22
theorem sc_law_refused : FnScope ["first", "last", "told", "e"] ["first", "last"] (defScope s_law_refused) := ⟨rfl, rfl, rfl, by decide +kernel, rfl, by decide +kernel, by decide +kernel⟩
-- law_refused cells []
abbrev s_law_not_ended : Stmt := topS 23
theorem sc_law_not_ended : FnScope ["row", "writer", "told", "e"] ["row", "writer"] (defScope s_law_not_ended) := ⟨rfl, rfl, rfl, by decide +kernel, rfl, by decide +kernel, by decide +kernel⟩
-- law_not_ended cells []
abbrev s_law_is_wrong : Stmt := topS 24
theorem sc_law_is_wrong : FnScope ["value"] ["value"] (defScope s_law_is_wrong) := ⟨rfl, rfl, rfl, by decide +kernel, rfl, by decide +kernel, by decide +kernel⟩
-- law_is_wrong cells []
abbrev s_law_all_refused : Stmt := topS 25
theorem sc_law_all_refused : FnScope ["pairs", "one", "other", "due"] ["pairs"] (defScope s_law_all_refused) := ⟨rfl, rfl, rfl, by decide +kernel, rfl, by decide +kernel, by decide +kernel⟩
-- law_all_refused cells []
abbrev s_law : Stmt := topS 26
theorem sc_law : FnScope ["script", "pot", "first", "last", "number", "bits", "moment", "row", "seen", "writer", "later", "bad", "worse"] ["script"] (defScope s_law) := ⟨rfl, rfl, rfl, by decide +kernel, rfl, by decide +kernel, by decide +kernel⟩
-- law cells []
end Toy
set_option Elab.async false
set_option linter.all false
set_option maxRecDepth 100000
set_option maxHeartbeats 2000000
namespace Toy
open PySem PySem.Spec PyProof.Rows L2
/-! ### heaps -/
theorem same_upd {H : Hp} {p : Addr} {o : HO} (h : H p = none) : Same H (upd H p o) := fun b x e => by
  rw [upd_ne (ne_of_none e h)]
  exact e
/-! ### moments as numbers -/
def mo (n : Nat) : List (Str × V) := [("_number", .int n)]
def MoAt (C : Addr) (H : Hp) (p : Addr) (n : Nat) : Prop := n < 2147483648 ∧ ∃ dx, H p = some (.ins C dx (mo n))
theorem MoAt.same {C : Addr} {H H' : Hp} {p : Addr} {n : Nat} (h : MoAt C H p n) (s : Same H H') : MoAt C H' p n := ⟨h.1, h.2.imp fun _ e => s _ _ e⟩
def vi (k : Nat) : V := .int k
def bits (n : Nat) : List Nat := (List.range 31).filter fun k => n.testBit k
/-- what the text says of the class and the names -/
structure Txt (K : PySem.W.Frag) (mg : Str → Option Value) (C : Addr) : Prop where
  cl : Cls K C
  nN : NoAttr K C "_number"
  mgC : mg "Moment" = some (.ref C)
  len : mg "len" = none
  int : mg "int" = none
  bool : mg "bool" = none
  isi : mg "isinstance" = none
  range : mg "range" = none
  sum : mg "sum" = none
  list : mg "list" = none
  cC : PySem.W.findIn K (.ref C) "__class__" = some (some (.builtin "object.__class__"))
  cG : PySem.W.specialIn K (.builtin "object.__class__") "__get__" = some (some (.builtin "getset_descriptor.__get__"))
  cT : PySem.W.takesIn K (.builtin "object.__class__") = some true
  cM : PySem.W.mroIn K C (.type "object") = some true
  kCC : PySem.W.kitOne K (.ref C) (.ref C) = some true
  kIC : PySem.W.kitOne K (.type "int") (.ref C) = some false
  lw : ∃ t, mg "LAST_WRITER" = some (.int 30 t)
  ln : ∃ t, mg "LAST_NUMBER" = some (.int 2147483647 t)
section
variable {P : Program} {w : World} {K : PySem.W.Frag} {mg : Str → Option Value} {base : Heap} {C : Addr}
/-! ### is_whole -/
def spWhole : Sp := fun vs H Q _ => ∃ i : Int, vs = [.int i] ∧ Q (.bl true) H
theorem ok_is_whole {f : Addr} {fd : FuncData} (F : Fun K "is_whole" "is_whole" s_is_whole f fd) (T : Txt K mg C) : FnOk P w K mg base CX0 1 f fd ["value"] spWhole := by
  refine F.ok sc_is_whole (fun vs H Q E h => ?_) (fun cdv A outer s H vs Q E hr h => ?_)
  · obtain ⟨i, rfl, _⟩ := h
    rfl
  · obtain ⟨i, rfl, q⟩ := h
    refine ⟨_, pss_one (ps_ret (pe_and (pe_callB call_isi (by rfl) T.isi (by decide +kernel) (pa_cons (pv 0) (pa_cons (pe_bltn (v := .ty "int") (by rfl) T.int (by decide +kernel) rfl) pa_nil)))
      (pe_one (pe_not (pe_callB call_isi (by rfl) T.isi (by decide +kernel) (pa_cons (pv 0) (pa_cons (pe_bltn (v := .ty "bool") (by rfl) T.bool (by decide +kernel) rfl) pa_nil))))))), ?_⟩
    refine ⟨_, rfl, .int i, .ty "int", _, _, true, rfl, .ty _, .base (.int i), kit_ty (by decide +kernel), true, rfl, iteT ?_⟩
    exact ⟨_, rfl, .int i, .ty "bool", _, _, false, rfl, .ty _, .base (.int i), kit_ty (by decide +kernel), false, rfl, q⟩
/-! ### is_between -/
def spBetw : Sp := fun vs H Q _ => ∃ i l h : Int, vs = [.int i, .int l, .int h] ∧ Q (.bl (decide (l ≤ i ∧ i ≤ h))) H
theorem ok_is_between {f fW : Addr} {fd fdW : FuncData} (F : Fun K "is_between" "is_between" s_is_between f fd) (T : Txt K mg C) (FW : Fun K "is_whole" "is_whole" s_is_whole fW fdW) (bW : L2.Binds K fdW ["value"] []) (gW : mg "is_whole" = some (.ref fW)) :
    FnOk P w K mg base CX0 2 f fd ["value", "low", "high"] spBetw := by
  have GW : FnOk P w K mg base CX0 1 fW fdW ["value"] spWhole := ok_is_whole FW T
  refine F.ok sc_is_between (fun vs H Q E h => ?_) (fun cdv A outer s H vs Q E hr h => ?_)
  · obtain ⟨i, l, h, rfl, _⟩ := h
    rfl
  · obtain ⟨i, l, u, rfl, q⟩ := h
    refine ⟨_, pss_one (ps_ret (pe_and (pe_call GW hr (by rfl) gW FW.kp bW .nil pass0 (pa_cons (pv 0) pa_nil)) (pe_one (pe_chain op_le op_le (pv 1) (pv 0) (pv 2))))), ?_⟩
    refine ⟨_, rfl, i, rfl, true, rfl, iteT ?_⟩
    refine ⟨_, rfl, _, rfl, l, i, rfl, rfl, decide (l ≤ i), rfl, ?_⟩
    by_cases h1 : l ≤ i
    · rw [decide_eq_true h1]
      refine iteT ⟨_, rfl, i, u, rfl, rfl, ?_⟩
      have e : decide (l ≤ i ∧ i ≤ u) = decide (i ≤ u) := by by_cases h2 : i ≤ u <;> simp [h1, h2]
      rw [e] at q
      exact q
    · rw [decide_eq_false h1]
      have e : decide (l ≤ i ∧ i ≤ u) = false := by simp [h1]
      rw [e] at q
      exact iteF q
end
end Toy
set_option Elab.async false
set_option linter.all false
set_option maxRecDepth 100000
set_option maxHeartbeats 2000000
namespace Toy
open PySem PySem.Spec PyProof.Rows L2
/-! ### the mathematics of bits -/
theorem bits_succ (p : Nat → Bool) (i : Nat) : (List.range (i + 1)).filter p = if p i = true then (List.range i).filter p ++ [i] else (List.range i).filter p := by
  rw [List.range_succ, List.filter_append]
  by_cases h : p i = true
  · rw [if_pos h, List.filter_cons_of_pos h]
    rfl
  · rw [if_neg h, List.filter_cons_of_neg h, List.filter_nil, List.append_nil]
theorem mod_succ (n i : Nat) : n % 2 ^ (i + 1) = n % 2 ^ i + (if n.testBit i = true then 2 ^ i else 0) := by
  rw [Nat.pow_succ, Nat.mod_mul, Nat.testBit_eq_decide_div_mod_eq]
  by_cases h : n / 2 ^ i % 2 = 1
  · rw [h, if_pos (by decide), Nat.mul_one]
  · have h0 : n / 2 ^ i % 2 = 0 := by omega
    rw [h0, if_neg (by decide), Nat.mul_zero]
theorem sum_bits (n : Nat) : ∀ i : Nat, (((List.range i).filter fun k => n.testBit k).map fun k => ((2 ^ k : Nat) : Int)).sum = ((n % 2 ^ i : Nat) : Int)
  | 0 => by simp [Nat.mod_one]
  | i + 1 => by
    have ih := sum_bits n i
    rw [bits_succ, mod_succ]
    by_cases h : n.testBit i = true
    · rw [if_pos h, if_pos h, List.map_append, List.sum_append, ih]
      simp
    · rw [if_neg h, if_neg h, ih]
      simp
theorem mem_bits {n k : Nat} : k ∈ bits n ↔ k < 31 ∧ n.testBit k = true := by
  unfold bits
  rw [List.mem_filter, List.mem_range]
theorem inV_vi (k : Nat) (ws : List Nat) : inV (vi k) (ws.map vi) = decide (k ∈ ws) := by
  unfold inV
  induction ws with
  | nil => rfl
  | cons a r ih =>
    rw [List.map_cons, List.any_cons, ih]
    show ((((a : Nat) : Int) == ((k : Nat) : Int)) || decide (k ∈ r)) = decide (k ∈ a :: r)
    by_cases h : a = k
    · subst h
      simp
    · have h1 : (((a : Nat) : Int) == ((k : Nat) : Int)) = false := by
        simp
        omega
      rw [h1]
      have h2 : k ≠ a := fun e => h e.symm
      simp [h2]
theorem flat_vi (ws : List Nat) : (ws.map vi).all flatV = true := by
  rw [List.all_map]
  simp [Function.comp, vi, flatV]
theorem filter_bits_mem (n : Nat) (i : Nat) (hi : i ≤ 31) : (List.range i).filter (fun k => decide (k ∈ bits n)) = (List.range i).filter (fun k => n.testBit k) := by
  apply List.filter_congr
  intro k hk
  have h : k < 31 := Nat.lt_of_lt_of_le (List.mem_range.mp hk) hi
  by_cases b : n.testBit k = true
  · rw [b]
    exact decide_eq_true (mem_bits.mpr ⟨h, b⟩)
  · have b' : n.testBit k = false := by simpa using b
    rw [b']
    exact decide_eq_false fun z => b (mem_bits.mp z).2
theorem bit_test (n k : Nat) : ((Builtin.bitAnd ((n : Int) / 2 ^ k) 1 : Int) != 0) = n.testBit k := by
  have e : ((n : Int) / 2 ^ k) = ((n / 2 ^ k : Nat) : Int) := by simp
  rw [e, bitAnd_pp (Int.natCast_nonneg _) (by decide), Int.toNat_natCast]
  show (((n / 2 ^ k &&& 1 : Nat) : Int) != 0) = _
  rw [Nat.testBit_eq_decide_div_mod_eq, Nat.and_one_is_mod]
  by_cases h : n / 2 ^ k % 2 = 1
  · rw [h]
    decide
  · have h0 : n / 2 ^ k % 2 = 0 := by omega
    rw [h0]
    decide
section
variable {P : Program} {w : World} {K : PySem.W.Frag} {mg : Str → Option Value} {base : Heap} {C : Addr}
/-! ### is_writer_number -/
def spIsW : Sp := fun vs H Q _ => ∃ i : Int, vs = [.int i] ∧ Q (.bl (decide (0 ≤ i ∧ i ≤ 30))) H
theorem ok_is_writer {f fB : Addr} {fd fdB : FuncData} (F : Fun K "is_writer_number" "is_writer_number" s_is_writer_number f fd) (T : Txt K mg C) (GB : FnOk P w K mg base CX0 2 fB fdB ["value", "low", "high"] spBetw) (kB : PySem.W.keepIn K (.ref fB) = true)
    (bB : L2.Binds K fdB ["value", "low", "high"] []) (gB : mg "is_between" = some (.ref fB)) : FnOk P w K mg base CX0 3 f fd ["value"] spIsW := by
  obtain ⟨t, lw⟩ := T.lw
  refine F.ok sc_is_writer_number (fun vs H Q E h => ?_) (fun cdv A outer s H vs Q E hr h => ?_)
  · obtain ⟨i, rfl, _⟩ := h
    rfl
  · obtain ⟨i, rfl, q⟩ := h
    refine ⟨_, pss_one (ps_ret (pe_call GB hr (by rfl) gB kB bB .nil pass0 (pa_cons (pv 0) (pa_cons pe_int (pa_cons (pe_glob (v := .int 30) (by rfl) lw ⟨_, rfl⟩) pa_nil))))), ?_⟩
    exact ⟨_, rfl, i, 0, 30, rfl, q⟩
/-! ### _number_of -/
/-- what stands on the right: a moment or a writer, with its number -/
def Arg (C : Addr) (H : Hp) (y : V) (m : Nat) : Prop := m < 2147483648 ∧ ((∃ b, y = .ref b ∧ MoAt C H b m) ∨ ∃ k : Nat, y = vi k ∧ k ≤ 30 ∧ m = 2 ^ k)
def spNum (C : Addr) : Sp := fun vs H Q _ => ∃ (v : V) (m : Nat), vs = [v] ∧ Arg C H v m ∧ Q (vi m) H
theorem ok_number_of {f fI : Addr} {fd fdI : FuncData} (F : Fun K "_number_of" "_number_of" s_number_of f fd) (T : Txt K mg C) (GI : FnOk P w K mg base CX0 3 fI fdI ["value"] spIsW) (kI : PySem.W.keepIn K (.ref fI) = true)
    (bI : L2.Binds K fdI ["value"] []) (gI : mg "is_writer_number" = some (.ref fI)) : FnOk P w K mg base CX0 4 f fd ["value"] (spNum C) := by
  refine F.ok sc_number_of (fun vs H Q E h => ?_) (fun cdv A outer s H vs Q E hr h => ?_)
  · obtain ⟨i, m, rfl, _⟩ := h
    rfl
  · obtain ⟨v, m, rfl, ha, q⟩ := h
    refine ⟨_, pss_cons (ps_if (pt_val (pe_callB call_isi (by rfl) T.isi (by decide +kernel) (pa_cons (pv 0) (pa_cons (pe_glob (v := .ref C) (by rfl) T.mgC rfl) pa_nil)))) (pss_one (ps_ret (pe_fld (pv 0) rfl))) pss_nil)
      (pss_cons (ps_if (pt_val (pe_call GI hr (by rfl) gI kI bI .nil pass0 (pa_cons (pv 0) pa_nil))) (pss_one (ps_ret (pe_op op_shl pe_int (pv 0)))) pss_nil) (pss_one (ps_ret pe_non))), ?_⟩
    obtain ⟨hm, ⟨p, rfl, hn, dx, hp⟩ | ⟨k, rfl, hk, rfl⟩⟩ := ha
    · refine ⟨_, rfl, .ref p, .ref C, .ref C, .ref C, true, rfl, .own C, .base (.ins hp T.cl T.cC T.cG T.cT T.cM), T.kCC, true, rfl, iteT ?_⟩
      exact ⟨_, rfl, p, C, dx, _, _, rfl, hp, T.cl, T.nN, rfl, q⟩
    · refine ⟨_, rfl, .int k, .ref C, .type "int", .ref C, false, rfl, .own C, .base (.int k), T.kIC, false, rfl, iteF ?_⟩
      refine ⟨_, rfl, (k : Int), rfl, _, rfl, ?_⟩
      have e : decide ((0 : Int) ≤ (k : Int) ∧ (k : Int) ≤ 30) = true := decide_eq_true ⟨by omega, by omega⟩
      rw [e]
      refine iteT ⟨_, rfl, 1, (k : Int), rfl, rfl, ⟨by omega, by omega, by decide⟩, ?_⟩
      have e2 : ((1 : Int) * 2 ^ ((k : Int)).toNat) = ((2 ^ k : Nat) : Int) := by simp
      show Q (.int (1 * 2 ^ ((k : Int)).toNat)) H
      rw [e2]
      exact q
end
end Toy
set_option Elab.async false
set_option linter.all false
set_option maxRecDepth 100000
set_option maxHeartbeats 2000000
namespace Toy
open PySem PySem.Spec PyProof.Rows L2
theorem not_upd {H : Hp} {p q : Addr} {o : HO} (h : p ≠ q) : (upd H q o) p = H p := upd_ne h
section
variable {P : Program} {w : World} {K : PySem.W.Frag} {mg : Str → Option Value} {base : Heap} {C : Addr}
/-! ### __init__: the body, with its tuple of writers -/
def spInit (C : Addr) : Sp := fun vs H Q _ => ∃ (H0 : Hp) (p dx t : Addr) (n : Nat), vs = [.ref p, .ref t] ∧ n < 2147483648 ∧ Same H0 H ∧ H0 p = none ∧ H p = some (.ins C dx []) ∧ H t = some (.tup ((bits n).map vi)) ∧
  ∀ H', Same H0 H' → H' p = some (.ins C dx (mo n)) → Q .non H'
theorem body_init {A : Around} {outer : List Env} {s : Shared} {H : Hp} {vs : List V} {Q : VK} {E : XK} {f fI : Addr} {fdI : FuncData} {cdv : Value} (T : Txt K mg C) (GI : FnOk P w K mg base CX0 3 fI fdI ["value"] spIsW) (kI : PySem.W.keepIn K (.ref fI) = true)
    (bI : L2.Binds K fdI ["value"] []) (gI : mg "is_writer_number" = some (.ref fI)) (hr : Room 3 (A.deeper (envOfC "Moment.__init__" (defScope s_Moment_init) s.heap.objs.size f cdv))) (h : spInit C vs H Q E) :
    ∃ t, PSs (cxOf CX0 P w K mg base ["self", "writers", "writer", "k"] "Moment.__init__" (defScope s_Moment_init) f cdv A outer s H E) (defBody s_Moment_init) t ∧ t { nx := fun _ H' => Q .non H', rt := Q } (L2.start ["self", "writers", "writer", "k"] vs) H := by
  obtain ⟨tk, lw⟩ := T.lw
  obtain ⟨H0, p, dx, t, n, rfl, hn, s0, p0, hp, ht, q⟩ := h
  refine ⟨_, PSs.nox (pss_cons (ps_for PassesOwn.never rfl (pi_tup (pv 1)) (pg_name (i := 2) sc_Moment_init.nd rfl (Or.inl rfl))
      (pss_one (ps_if (pt_not (pt_val (pe_call GI hr (by rfl) gI kI bI .nil pass0 (pa_cons (pv 2) pa_nil)))) (pss_one ps_never) pss_nil)))
    (pss_one (ps_fld (pv 0) (pe_callB (cr_sum rfl) (by rfl) T.sum (by decide +kernel) (pa_cons
      (pe_lc (own := [("k", 3)]) (g := gName 3) rfl sc_Moment_init.nd (pi_range1 (by rfl) T.range (pa_cons (pe_op op_add (pe_glob (v := .int 30) (by rfl) lw ⟨_, rfl⟩) pe_int) pa_nil))
        (blkOk_by (own := [("k", 3)]) (N := ["self", "writers", "writer", "k"]) (sc := defScope s_Moment_init) (by decide +kernel)) (fun _ _ _ _ _ => pg_name (i := 3) sc_Moment_init.nd rfl (Or.inl rfl))
        (fun _ _ _ _ _ => pts_one (pt_cmpR (show OpR _ (compareOp .In) (rIn K false) from op_in_seq) (pv 3) (pv 1) (by rfl))) (fun _ _ _ _ _ => pe_op op_shl pe_int (pv 3))) pa_nil)) rfl))), ?_⟩
  have hT : SqT K H t ((bits n).map vi) := SqT.of ht
  refine ⟨.ref t, rfl, t, rfl, ⟨_, hT⟩, for_tup (K := K) (a := t) (xs := (bits n).map vi) (fun i σ H' => H' = H ∧ ∃ v, σ = [some (.ref p), some (.ref t), v, none]) ⟨rfl, none, rfl⟩ (fun i σ H' _ e => e.1 ▸ hT) ?_ ?_⟩
  · rintro i x σ H' hi ⟨rfl, v, rfl⟩
    obtain ⟨k, hk, rfl⟩ : ∃ k, k < 31 ∧ x = vi k := by
      obtain ⟨j, hj, e⟩ := List.mem_map.mp (List.mem_of_getElem? hi)
      exact ⟨j, (mem_bits.mp hj).1, e.symm⟩
    refine ⟨_, rfl, (k : Int), rfl, _, rfl, ?_⟩
    have e : decide ((0 : Int) ≤ (k : Int) ∧ (k : Int) ≤ 30) = true := decide_eq_true ⟨by omega, by omega⟩
    rw [e]
    exact iteF ⟨rfl, _, rfl⟩
  · rintro σ H' ⟨rfl, v, rfl⟩
    refine ⟨30, 1, rfl, rfl, 31, rfl, by decide, by decide, fun D hD => ?_⟩
    have sD : ∀ xs, Same H' (upd H' D (.lst xs)) := fun xs => same_upd hD
    refine lc_range (lo := 0) (n := 31) (fun i H2 => Same H' H2 ∧ H2 D = some (.lst (((List.range i).filter fun k => decide (k ∈ bits n)).map fun k => V.int ((2 ^ k : Nat) : Int)))) ⟨sD _, upd_same⟩ ?_ ?_
    · rintro i H2 hi ⟨s2, e2⟩
      refine ⟨rfl, .int (0 + (i : Int)), rfl, .ref t, rfl, t, _, rfl, .inr (SqT.of (s2 _ _ ht)), rfl, flat_vi _, _, rfl, ?_⟩
      have ei : V.int (0 + (i : Int)) = vi i := by rw [Int.zero_add]; rfl
      show if (if false = true then !inV (V.int (0 + (i : Int))) ((bits n).map vi) else inV (V.int (0 + (i : Int))) ((bits n).map vi)) = true then _ else _
      rw [ei, inV_vi]
      by_cases hm : i ∈ bits n
      · refine ite2 (fun _ => ?_) (fun z => absurd (by simpa using hm) z)
        refine ⟨vi i, rfl, 1, (i : Int), rfl, rfl, ⟨by omega, by omega, by decide⟩, _, e2, ?_, fun b o e => ?_, ?_⟩
        · rw [List.length_map]
          exact Nat.lt_of_le_of_lt (Nat.le_trans (List.length_filter_le _ _) (by rw [List.length_range]; exact Nat.le_of_lt hi)) (by decide)
        · rw [upd_ne (ne_of_none e hD)]
          exact s2 _ _ e
        · rw [upd_same, bits_succ, if_pos (decide_eq_true hm), List.map_append]
          have e3 : (1 : Int) * 2 ^ ((i : Int)).toNat = ((2 ^ i : Nat) : Int) := by simp
          show some (HO.lst (_ ++ [V.int (1 * 2 ^ ((i : Int)).toNat)])) = _
          rw [e3]
          rfl
      · refine ite2 (fun z => absurd (by simpa using z) hm) (fun _ => ⟨s2, ?_⟩)
        rw [bits_succ, if_neg (by simpa using hm)]
        exact e2
    · rintro H2 ⟨s2, e2⟩
      refine ⟨D, ((List.range 31).filter fun k => decide (k ∈ bits n)).map fun k => ((2 ^ k : Nat) : Int), rfl, SqL.of (by rw [List.map_map]; exact e2), ?_⟩
      rw [filter_bits_mem n 31 (Nat.le_refl _), sum_bits, Nat.mod_eq_of_lt (show n < 2 ^ 31 from hn)]
      refine ⟨_, rfl, p, C, dx, [], rfl, s2 _ _ hp, T.cl, T.nN, (by decide), ?_⟩
      refine q _ (fun b o e => ?_) upd_same
      have nb : b ≠ p := fun z => by rw [z, p0] at e; cases e
      rw [upd_ne nb]
      exact s2 _ _ (s0 _ _ e)
end
end Toy
set_option Elab.async false
set_option linter.all false
set_option maxRecDepth 100000
set_option maxHeartbeats 2000000
namespace Vx
open PySem PySem.Spec PyProof.Rows L2
theorem pe_fldK {X : Cx} {K : PySem.W.Frag} {e : Expr} {f : Str} {ta : TE} {pos : Pos} (hK : X.K = K) (he : PE X e ta) (hb : attributeBase e f X.env (eval e X.env) = eval e X.env) : PE X (.Attribute e f pos) (tFld K ta f) := hK ▸ pe_fld he hb
theorem op_inK {X : Cx} {K : PySem.W.Frag} (hK : X.K = K) : OpR X (compareOp .In) (rIn K false) := hK ▸ op_in_seq
theorem op_notInK {X : Cx} {K : PySem.W.Frag} (hK : X.K = K) : OpR X (compareOp .NotIn) (rIn K true) := hK ▸ op_notIn_seq
def tTru (K : PySem.W.Frag) (ta : TE) : TT := fun σ H Q => ta σ H fun x H' => ∃ k, TruV K x H' k ∧ Q k H'
theorem pt_truthK {X : Cx} {K : PySem.W.Frag} {a : Expr} {ta : TE} (hK : X.K = K) (ha : PE X a ta) (he : ∀ whole, isTrue a X.env whole = (do let v ← whole; standAt a.pos; holding [v] (truthy v))) :
    PT X a (tTru K ta) := hK ▸ pt_truth ha he
end Vx
namespace Toy
open PySem PySem.Spec PyProof.Rows L2
theorem dec_int (a b : Nat) : decide (V.int (a : Int) = V.int (b : Int)) = decide (a = b) := by
  by_cases h : a = b
  · subst h
    rw [decide_eq_true rfl, decide_eq_true rfl]
  · rw [decide_eq_false h, decide_eq_false fun z => h (by injection z with z; omega)]
theorem and_pp (n m : Nat) : Builtin.bitAnd (n : Int) (m : Int) = ((n &&& m : Nat) : Int) := by
  rw [bitAnd_pp (Int.natCast_nonneg _) (Int.natCast_nonneg _), Int.toNat_natCast, Int.toNat_natCast]
theorem or_pp (n m : Nat) : Builtin.bitOr (n : Int) (m : Int) = ((n ||| m : Nat) : Int) := by
  rw [Bits.bitOr_pp (Int.natCast_nonneg _) (Int.natCast_nonneg _), Int.toNat_natCast, Int.toNat_natCast]
theorem two_pow_lt {k : Nat} (h : k ≤ 30) : 2 ^ k < 2147483648 := Nat.lt_of_le_of_lt (Nat.pow_le_pow_right (by decide) h) (by decide)
/-- a list of the numbers for which p holds, by a comprehension -/
theorem acc_len (p : Nat → Bool) {i : Nat} (hi : i < 31) : (((List.range i).filter p).map vi).length < sizeLine := by
  rw [List.length_map]
  exact Nat.lt_of_le_of_lt (Nat.le_trans (List.length_filter_le _ _) (by rw [List.length_range]; exact Nat.le_of_lt hi)) (by decide)
section
variable {P : Program} {w : World} {K : PySem.W.Frag} {mg : Str → Option Value} {base : Heap} {C : Addr}
/-- Moment's __init__, called with the writers -/
def spMk (C : Addr) : Sp := fun vs H Q _ => ∃ (H0 : Hp) (p dx : Addr) (n : Nat), vs = .ref p :: (bits n).map vi ∧ n < 2147483648 ∧ Same H0 H ∧ H0 p = none ∧ H p = some (.ins C dx []) ∧ ∀ H', Same H0 H' → H' p = some (.ins C dx (mo n)) → Q .non H'
theorem ok_init {f fI : Addr} {fdI : FuncData} {oc kV doc pm cdv ct : Value} {od an : Option Addr} {osl : Array (Option Value)} (lk : K.lookup f = some ⟨oc, od, .func (PySem.W.fnOf "__init__" "Moment.__init__" (defArgs s_Moment_init) (defBody s_Moment_init) (defScope s_Moment_init) .none kV doc pm an cdv ct), osl⟩)
    (hcd : PySem.W.codeIn K cdv "Moment.__init__" = true) (T : Txt K mg C) (GI : FnOk P w K mg base CX0 3 fI fdI ["value"] spIsW) (kI : PySem.W.keepIn K (.ref fI) = true) (bI : L2.Binds K fdI ["value"] []) (gI : mg "is_writer_number" = some (.ref fI)) :
    FnR P w K mg base CX0 4 f (spMk C) := by
  have z : FnR P w K mg base CX0 4 f _ := StX.fn_star (sp := spInit C) (ps := ["self"]) (pv := "writers") lk hcd sc_Moment_init StX.cxUp_none (StX.bind_star1 (B := fun us => bindArgs (PySem.W.fnOf "__init__" "Moment.__init__" (defArgs s_Moment_init) (defBody s_Moment_init) (defScope s_Moment_init) .none kV doc pm an cdv ct) ⟨us, []⟩) (p1 := "self") (pv := "writers") (fun a => by rfl) (fun a r rs => by rfl)) (fun A outer s H vs Q E hr h => body_init T GI kI bI gI hr h)
  refine z.imp fun vs H Q E h => ?_
  obtain ⟨H0, p, dx, n, rfl, hn, s0, p0, hp, q⟩ := h
  refine ⟨[.ref p], (bits n).map vi, rfl, rfl, ?_, fun t ht => ?_⟩
  · rw [List.length_map]
    exact Nat.le_trans (Nat.le_trans (List.length_filter_le _ _) (by rw [List.length_range]; exact Nat.le_refl _)) (by decide : 31 ≤ sizeLine)
  · have npt : p ≠ t := ne_of_none hp ht
    exact ⟨H0, p, dx, t, n, rfl, hn, s0.trans (same_upd ht), p0, by rw [upd_ne npt]; exact hp, upd_same, q⟩
/-! ### of -/
def spOf (C : Addr) : Sp := fun vs H Q _ => ∃ n : Nat, vs = [vi n] ∧ n < 2147483648 ∧ ∀ H' p, Same H H' → H p = none → MoAt C H' p n → Q (.ref p) H'
theorem ok_of {f fB fM : Addr} {fd fdB : FuncData} (F : Fun K "of" "Moment.of" s_Moment_of f fd) (T : Txt K mg C) (GB : FnOk P w K mg base CX0 2 fB fdB ["value", "low", "high"] spBetw) (kB : PySem.W.keepIn K (.ref fB) = true)
    (bB : L2.Binds K fdB ["value", "low", "high"] []) (gB : mg "is_between" = some (.ref fB)) (M : Mk K C fM) (GM : FnR P w K mg base CX0 4 fM (spMk C)) : FnOk P w K mg base CX0 6 f fd ["number"] (spOf C) := by
  obtain ⟨tl, ln⟩ := T.ln
  obtain ⟨tw, lw⟩ := T.lw
  refine F.ok sc_Moment_of (fun vs H Q E h => ?_) (fun cdv A outer s H vs Q E hr h => ?_)
  · obtain ⟨i, rfl, _⟩ := h
    rfl
  · obtain ⟨n, rfl, hn, q⟩ := h
    have hr2 : Room 2 _ := hr.mono (by decide)
    refine ⟨_, pss_cons (ps_if (pt_not (pt_val (pe_call GB hr2 (by rfl) gB kB bB .nil pass0 (pa_cons (pv 0) (pa_cons pe_int (pa_cons (pe_glob (v := .int 2147483647) (by rfl) ln ⟨_, rfl⟩) pa_nil)))))) (pss_one ps_never) pss_nil)
      (pss_cons (ps_setLc (i := 1) (own := [("k", 2)]) (g := gName 2) rfl sc_Moment_of.nd rfl rfl (sw_true rfl rfl rfl (by decide +kernel)) (pi_range1 (by rfl) T.range (pa_cons (pe_op op_add (pe_glob (v := .int 30) (by rfl) lw ⟨_, rfl⟩) pe_int) pa_nil))
        (blkOk_by (own := [("k", 2)]) (N := ["number", "writers", "k"]) (sc := defScope s_Moment_of) (by decide +kernel)) (fun _ _ _ _ _ => pg_name (i := 2) sc_Moment_of.nd rfl (Or.inl rfl))
        (fun _ _ _ _ _ => pts_one (Vx.pt_truthK (K := K) rfl (pe_op op_and (pe_op op_shr (pv 0) (pv 2)) pe_int) (by intro _; rfl))) (fun _ _ _ _ _ => pv 2))
      (pss_one (ps_ret (Vx.pe_makeS M GM hr (by rfl) T.mgC pass0 (pv 1))))), ?_⟩
    refine ⟨_, rfl, (n : Int), 0, 2147483647, rfl, _, rfl, ?_⟩
    have e : decide ((0 : Int) ≤ (n : Int) ∧ (n : Int) ≤ 2147483647) = true := decide_eq_true ⟨by omega, by omega⟩
    rw [e]
    refine iteF ⟨30, 1, rfl, rfl, 31, rfl, by decide, by decide, fun D hD => ?_⟩
    refine lc_range (lo := 0) (n := 31) (fun i H2 => Same H H2 ∧ H2 D = some (.lst (((List.range i).filter fun k => n.testBit k).map vi))) ⟨same_upd hD, upd_same⟩ ?_ ?_
    · rintro i H2 hi ⟨s2, e2⟩
      refine ⟨rfl, vi n, rfl, .int (0 + (i : Int)), rfl, (n : Int), _, rfl, rfl, by omega, _, _, rfl, rfl, (Builtin.bitAnd ((n : Int) / 2 ^ (0 + (i : Int)).toNat) 1 != 0), rfl, ?_⟩
      have ei : (0 + (i : Int)).toNat = i := by omega
      rw [ei, bit_test]
      by_cases hm : n.testBit i = true
      · refine ite2 (fun _ => ?_) (fun z => absurd hm z)
        refine ⟨.int (0 + (i : Int)), rfl, _, e2, acc_len _ hi, fun b o e => ?_, ?_⟩
        · rw [upd_ne (ne_of_none e hD)]
          exact s2 _ _ e
        · rw [upd_same, bits_succ, if_pos hm, List.map_append, Int.zero_add]
          rfl
      · refine ite2 (fun z => absurd z hm) (fun _ => ?_)
        refine ⟨s2, ?_⟩
        rw [bits_succ, if_neg hm]
        exact e2
    · rintro H2 ⟨s2, e2⟩
      refine ⟨.ref D, rfl, D, (bits n).map vi, rfl, .inr (SqL.of e2), fun x dx nx ndx ne => ?_⟩
      refine ⟨H2, x, dx, n, rfl, hn, fun b o e => ?_, nx, upd_same, fun H3 s3 e3 => ⟨rfl, ?_⟩⟩
      · rw [upd_ne (ne_of_none e nx), upd_ne (ne_of_none e ndx)]
        exact e
      · refine q H3 x (s2.trans s3) (s2.free nx) ⟨hn, dx, e3⟩
/-! ### writers -/
def spWri (C : Addr) : Sp := fun vs H Q _ => ∃ (p : Addr) (n : Nat), vs = [.ref p] ∧ MoAt C H p n ∧ ∀ H' l, Same H H' → H l = none → H' l = some (.lst ((bits n).map vi)) → Q (.ref l) H'
theorem ok_writers {f : Addr} {fd : FuncData} (F : Fun K "writers" "Moment.writers" s_Moment_writers f fd) (T : Txt K mg C) : FnOk P w K mg base CX0 1 f fd ["self"] (spWri C) := by
  obtain ⟨tw, lw⟩ := T.lw
  refine F.ok sc_Moment_writers (fun vs H Q E h => ?_) (fun cdv A outer s H vs Q E hr h => ?_)
  · obtain ⟨p, n, rfl, _⟩ := h
    rfl
  · obtain ⟨p, n, rfl, ⟨hn, dx, hp⟩, q⟩ := h
    refine ⟨_, pss_one (ps_ret (pe_lc (own := [("k", 1)]) (g := gName 1) rfl sc_Moment_writers.nd (pi_range1 (by rfl) T.range (pa_cons (pe_op op_add (pe_glob (v := .int 30) (by rfl) lw ⟨_, rfl⟩) pe_int) pa_nil))
        (blkOk_by (own := [("k", 1)]) (N := ["self", "k"]) (sc := defScope s_Moment_writers) (by decide +kernel)) (fun _ _ _ _ _ => pg_name (i := 1) sc_Moment_writers.nd rfl (Or.inl rfl))
        (fun _ _ _ _ _ => pts_one (Vx.pt_truthK (K := K) rfl (pe_op op_and (pe_op op_shr (Vx.pe_fldK (K := K) rfl (pv 0) rfl) (pv 1)) pe_int) (by intro _; rfl))) (fun _ _ _ _ _ => pv 1))), ?_⟩
    refine ⟨30, 1, rfl, rfl, 31, rfl, by decide, by decide, fun D hD => ?_⟩
    refine lc_range (lo := 0) (n := 31) (fun i H2 => Same H H2 ∧ H2 D = some (.lst (((List.range i).filter fun k => n.testBit k).map vi))) ⟨same_upd hD, upd_same⟩ ?_ ?_
    · rintro i H2 hi ⟨s2, e2⟩
      refine ⟨rfl, .ref p, rfl, p, C, dx, _, _, rfl, s2 _ _ hp, T.cl, T.nN, rfl, .int (0 + (i : Int)), rfl, (n : Int), _, rfl, rfl, by omega, _, _, rfl, rfl, (Builtin.bitAnd ((n : Int) / 2 ^ (0 + (i : Int)).toNat) 1 != 0), rfl, ?_⟩
      have ei : (0 + (i : Int)).toNat = i := by omega
      rw [ei, bit_test]
      by_cases hm : n.testBit i = true
      · refine ite2 (fun _ => ?_) (fun z => absurd hm z)
        refine ⟨.int (0 + (i : Int)), rfl, _, e2, acc_len _ hi, fun b o e => ?_, ?_⟩
        · rw [upd_ne (ne_of_none e hD)]
          exact s2 _ _ e
        · rw [upd_same, bits_succ, if_pos hm, List.map_append, Int.zero_add]
          rfl
      · refine ite2 (fun z => absurd z hm) (fun _ => ?_)
        refine ⟨s2, ?_⟩
        rw [bits_succ, if_neg hm]
        exact e2
    · rintro H2 ⟨s2, e2⟩
      exact q H2 D s2 hD e2
end
end Toy
set_option Elab.async false
set_option linter.all false
set_option maxRecDepth 100000
set_option maxHeartbeats 2000000
/-! own errors: a base's __init__ said by the base's name; isinstance of what was caught; makings that may raise, within a try -/
namespace Vx
open PySem PySem.Spec PyProof.Rows L2
/-- the class at D, above an own error, whose __init__ is ValueError's -/
structure UpC (K : PySem.W.Frag) (D : Addr) (mc : Value) : Prop where
  rd : ClX.CRead K D mc
  ini : PySem.W.findCls K (.ref D) mc "__init__" = some (.val (.builtin "ValueError.__init__"))
def tUp (K : PySem.W.Frag) (D : Addr) (ta : TE) (t : TA) : TE := fun σ H Q => ta σ H fun x H1 => x = .ref D ∧ tVeI K t σ H1 Q
section
variable {X : Cx} {D : Addr} {mc : Value} {o e : Expr} {es : List Expr} {pos apos : Pos} {ta : TE} {t : TA} {pl : Sem Bool}
theorem pe_up (hO : PE X o ta) (U : UpC X.K D mc) (hA : PA X (e :: es) t) (h1 : starEach (e :: es) X.env = (false, eval e X.env) :: starEach es X.env := by rfl) (h2 : (backTo pos (starEach es X.env)).any (·.1) = false := by rfl)
    (hW : eval (.Call (.Attribute o "__init__" apos) (e :: es) [] pos) X.env = (do
      let ov ← eval o X.env
      standAt apos.atName
      let (f, first) ← holding [ov] (getMethod ov "__init__" pl)
      callWith pos f first (backTo pos (starEach (e :: es) X.env)) (backToKw pos (keywordEach [] X.env))) := by rfl) : PE X (.Call (.Attribute o "__init__" apos) (e :: es) [] pos) (tUp X.K D ta t) := by
  refine ⟨fun pn s σ H Q I h => PySem.W.methodCall_KW (pl := pl) (thn (hO.run pn s σ H _ I h) fun u s1 hh => ?_) hW⟩
  obtain ⟨x, H1, I1, rx, ex, q⟩ := hh
  subst ex
  obtain rfl : u = Value.ref D := rx
  refine PySem.W.method_cls I1.kIn U.rd.ga (PySem.W.cls_value I1.kIn U.rd.rd U.ini rfl ?_)
  refine PyProof.Rows.callWith_method1 (thn (hA.run pos pn _ σ H1 _ (I1.tok _) q) fun us s2 hh => ?_) h1 h2
  obtain ⟨vs, H2, I2, r2, a, C, ws, ev, hl, T, ea, q2⟩ := hh
  subst ev
  cases r2 with
  | @cons _ u0 _ ur ra rb =>
    obtain rfl : u0 = Value.ref a := ra
    exact oinit_ok T I2 ea (by rw [← Paired.length rb, sizeLine_eq]; omega) fun s3 J => ⟨.non, H2, J, rfl, q2⟩
end
/-! isinstance(e, c), e a caught error with its dict -/
structure ExcX (K : PySem.W.Frag) (C : Addr) : Prop where
  cl : (PySem.W.clsIn K C).isSome = true
  ga : PySem.W.findIn K (.ref C) "__getattribute__" = some (some (.builtin "BaseException.__getattribute__"))
  gt : PySem.W.findIn K (.ref C) "__getattr__" = some none
  sb : PySem.W.subIn K (.ref C) (.type "BaseException") = some true
  ac : PySem.W.findIn K (.ref C) "__class__" = some (some (.builtin "object.__class__"))
  gn : PySem.W.specialIn K (.builtin "object.__class__") "__get__" = some (some (.builtin "getset_descriptor.__get__"))
  tk : PySem.W.takesIn K (.builtin "object.__class__") = some true
  mo : PySem.W.mroIn K C (.type "object") = some true
def rIsX (K : PySem.W.Frag) (C a : Addr) (cls : Value) (d : Option Addr) : List V → Hp → VK → Prop := fun xs H Q => cls = .ref C ∧ ∃ (dd : Addr) (fs : List (Str × V)) (c : V) (cv : Value) (b : Bool), d = some dd ∧ H dd = some (.xd fs) ∧ xs = [.ref a, c] ∧ (∀ u, RelV c u → u = cv) ∧ PySem.W.kitOne K (.ref C) cv = some b ∧ Q (.bl b) H
theorem call_isX {X : Cx} {a C : Addr} {oe : Obj} {cls : Value} {d : Option Addr} {pn : List (Addr × Obj)} (T : ExcX X.K C) (hz : Zc cls d oe) (hf : ∃ vs, oe.data = .fields vs) : CallR (X.suite a ((a, oe) :: pn)) (.builtin "isinstance") (rIsX X.K C a cls d) := by
  intro pins s σ H xs us Q I r h
  obtain ⟨ec, dd, fs, c, cv, b, ed, hd, ex, hcv, e, q⟩ := h
  subst ec ed ex
  cases r with
  | cons rx rr =>
    cases rr with
    | cons rt rn =>
      cases rn
      cases rx
      obtain rfl := hcv _ rt
      obtain ⟨hget, _⟩ := I.pin (a, oe) (List.mem_append.mpr (.inl List.mem_cons_self))
      obtain ⟨vs, hv⟩ := hf
      have hx : ObjOk X.prog X.w H s.heap dd (.xd fs) := I.hok dd _ hd
      obtain ⟨mA, hns, _⟩ := hx
      obtain ⟨od, ho, _⟩ := lookIn_ns hns
      have J : PySem.W.InstAt s.heap a oe C (some od) := ⟨hget, hz.1, by unfold PySem.W.notCls; rw [hv] <;> rfl, by rw [hz.2]; exact ho⟩
      exact PySem.W.kia_one (PySem.W.kitx_exc T.cl T.ga T.gt T.sb T.ac T.gn T.tk T.mo) I.kIn J e (fun z => nomatch z) fun tk => ⟨.bl b, H, I.kept (t' := tk) fun _ _ z => z, rfl, q⟩
/-! makings and static calls that may raise, the wish at the caller's slots -/
section
variable {X : Cx} {CX : CXT} {k n : Nat} {f C : Addr} {fd : FuncData} {ps ks : List Str} {sp : Sp} {E : L2.St → XK} {x : Str} {p pos : Pos} {e : Expr} {es : List Expr} {kws : List Keyword} {t tk : TA} {g : List Value → List Value → List Value} {gV : List V → List V → List V}
def tMakeNS (C : Addr) (n m : Nat) (sp : Sp) (gV : List V → List V → List V) (E : L2.St → XK) (t tk : TA) : TE := fun σ H Q => t σ H fun vs H1 => tk σ H1 fun zs H2 => vs.length = n ∧ zs.length = m ∧
  ∀ y dy, H2 y = none → H2 dy = none → dy ≠ y → sp (gV (.ref y :: vs) zs) (upd (upd H2 dy (.own y)) y (.ins C dy [])) (fun v H3 => v = .non ∧ Q (.ref y) H3) (E σ)
theorem run_makeNS {pn : List (Addr × Obj)} {σ : L2.St} {H : Hp} {s : Shared} {Q : VK} {us ws : List Value} {vs zs : List V} (M : Mk X.K C f) (F : FnOk X.prog X.w X.K X.mg X.base CX k f fd ps sp) (hr : Room (k + 1) X.A) (hb : KBn X.K fd ps (n + 1) ks g gV)
    (hx : PassesAt CX X σ (E σ)) (I : L2.Inv X pn σ H s) (ru : Vals vs us) (rw_ : Vals zs ws) (e1 : vs.length = n) (e2 : zs.length = ks.length)
    (h : ∀ y dy, H y = none → H dy = none → dy ≠ y → sp (gV (.ref y :: vs) zs) (upd (upd H dy (.own y)) y (.ins C dy [])) (fun v H3 => v = .non ∧ Q (.ref y) H3) (E σ)) : wpAny (model X.prog X.w) X.A (call (.ref C) us (ks.zip ws)) (EP X pn σ Q) X.xe s := by
  have J : L2.Inv X pn σ _ _ := L2.Inv.made (C := C) I
  have r1 : Vals (V.ref (s.heap.objs.size + 1) :: vs) (Value.ref (s.heap.objs.size + 1) :: us) := Paired.cons rfl ru
  have z1 : (Value.ref (s.heap.objs.size + 1) :: us).length = n + 1 := r1.length.symm.trans (congrArg (· + 1) e1)
  have z2 : ws.length = ks.length := rw_.length.symm.trans e2
  have hq := h (s.heap.objs.size + 1) s.heap.objs.size (I.hok.fresh (Nat.le_succ _)) (I.hok.fresh Nat.le.refl) (Nat.ne_of_lt (Nat.lt_succ_self _))
  have run := F.run _ X.stack _ _ ⟨Value.ref (s.heap.objs.size + 1) :: us, ks.zip ws⟩ (g (Value.ref (s.heap.objs.size + 1) :: us) ws) _ _ (E σ) (hr.make C us (ks.zip ws)) (J.env0.make C us (ks.zip ws)) (hb.to _ _ ws J.kIn z1 z2) (hb.rel r1 rw_) hq
  refine wpAny_call (make_map (f := f) I.kIn M.makes M.init (beq_iff_eq.mp M.fn) (codeAny_mono run fun r s2 z => ?_))
  match r, z with
  | .error er, z => exact hx pn _ _ er s2 J z
  | .ok (.ret u), z =>
    obtain ⟨v, H3, J3, rv, ev, q⟩ := J.after z
    subst ev
    exact ⟨rv, .ref (s.heap.objs.size + 1), H3, J3, rfl, q⟩
theorem pe_makeNS (M : Mk X.K C f) (F : FnOk X.prog X.w X.K X.mg X.base CX k f fd ps sp) (hr : Room (k + 1) X.A) (hg : Gl X x) (hm : X.mg x = some (.ref C)) (hb : KBn X.K fd ps (n + 1) ks g gV) (hx : ∀ σ, PassesAt CX X σ (E σ)) (hA : PA X (e :: es) t) (hK : PK X kws tk)
    (h1 : (backToKw pos (keywordEach kws X.env)).all (·.1.isSome) = true := by rfl) (h2 : (backToKw pos (keywordEach kws X.env)).filterMap (·.1) = ks := by rfl) (h3 : (x == ("__debug__" : Str)) = false := by decide)
    (h4 : starEach (e :: es) X.env = (false, eval e X.env) :: starEach es X.env := by rfl) (h5 : ((backTo pos (starEach (e :: es) X.env)).any (·.1) || (backToKw pos (keywordEach kws X.env)).any (·.1.isNone)) = false := by rfl) :
    PE X (.Call (.Name x p) (e :: es) kws pos) (tMakeNS C n ks.length sp gV E t tk) := by
  refine ⟨fun pn s σ H Q I h => wpAny_Call_Name_kw (ld_glob I hg hm ?_ h3)⟩
  refine PySem.W.callWith_KW (h₀ := X.base) I.ok.mod.kin M.kp h1 (thn (hA.run pos pn s σ H _ I h) fun us s1 hh => ?_) h5 h4
  obtain ⟨vs, H1, I1, r1, q⟩ := hh
  refine thn (hK.run pos pn s1 σ H1 _ I1 q) fun ws s2 hh => ?_
  obtain ⟨zs, H2, I2, r2, l1, l2, q2⟩ := hh
  refine ⟨I2.kIn, ?_⟩
  rw [h2]
  exact run_makeNS M F hr hb (hx σ) I2 r1 r2 l1 l2 q2
end
section
variable {X : Cx} {CX : CXT} {k : Nat} {f C : Addr} {sp : Sp} {E : L2.St → XK}
theorem run_fnRS {pn : List (Addr × Obj)} {σ : L2.St} {H : Hp} {s : Shared} {Q : VK} {us : List Value} {vs : List V} (F : FnR X.prog X.w X.K X.mg X.base CX k f sp) (hr : Room k X.A) (hx : PassesAt CX X σ (E σ)) (I : L2.Inv X pn σ H s) (r : Vals vs us) (h : sp vs H Q (E σ)) :
    wpAny (model X.prog X.w) X.A (call (.ref f) us) (EP X pn σ Q) X.xe s := by
  refine wpAny_call (codeAny_mono (F X.A X.stack s H us vs Q (E σ) hr I.env0 r h) fun z s2 y => ?_)
  match z, y with
  | .error er, y => exact hx pn H s er s2 I y
  | .ok (.ret u), y => exact I.after y
theorem run_makeRS {pn : List (Addr × Obj)} {σ : L2.St} {H : Hp} {s : Shared} {Q : VK} {us : List Value} {vs : List V} (M : Mk X.K C f) (F : FnR X.prog X.w X.K X.mg X.base CX k f sp) (hr : Room (k + 1) X.A) (hx : PassesAt CX X σ (E σ)) (I : L2.Inv X pn σ H s) (r : Vals vs us)
    (h : ∀ y dy, H y = Option.none → H dy = Option.none → dy ≠ y → sp (V.ref y :: vs) (upd (upd H dy (.own y)) y (.ins C dy [])) (fun v H2 => v = .non ∧ Q (.ref y) H2) (E σ)) : wpAny (model X.prog X.w) X.A (call (.ref C) us) (EP X pn σ Q) X.xe s := by
  have J : L2.Inv X pn σ _ _ := L2.Inv.made (C := C) I
  have r1 : Vals (V.ref (s.heap.objs.size + 1) :: vs) (Value.ref (s.heap.objs.size + 1) :: us) := Paired.cons rfl r
  have hq := h (s.heap.objs.size + 1) s.heap.objs.size (I.hok.fresh (Nat.le_succ _)) (I.hok.fresh Nat.le.refl) (Nat.ne_of_lt (Nat.lt_succ_self _))
  refine wpAny_call (make_map (f := f) I.kIn M.makes M.init (beq_iff_eq.mp M.fn) (codeAny_mono (F _ X.stack _ _ (Value.ref (s.heap.objs.size + 1) :: us) _ _ (E σ) (hr.make C us []) (J.env0.make C us []) r1 hq) fun z s2 y => ?_))
  match z, y with
  | .error er, y => exact hx pn _ _ er s2 J y
  | .ok (.ret u), y =>
    obtain ⟨v, H3, J3, rv, ev, q⟩ := J.after y
    subst ev
    exact ⟨rv, .ref (s.heap.objs.size + 1), H3, J3, rfl, q⟩
def tMethE (C : Addr) (m : Str) (sp : Sp) (E : L2.St → XK) (ta : TE) (t : TA) : TE := fun σ H Q => ta σ H fun x H1 => ∃ a dx fs, x = .ref a ∧ H1 a = some (.ins C dx fs) ∧ fs.lookup m = Option.none ∧ t σ H1 fun vs H2 => sp (.ref a :: vs) H2 Q (E σ)
theorem pe_methE {o e : Expr} {es : List Expr} {m : Str} {pos apos : Pos} {ta : TE} {t : TA} {pl : Sem Bool} (hO : PE X o ta) (c : Cls X.K C) (hm : Meth X.K C m f) (F : FnR X.prog X.w X.K X.mg X.base CX k f sp) (hr : Room k X.A) (hx : ∀ σ, PassesAt CX X σ (E σ)) (hA : PA X (e :: es) t)
    (h1 : starEach (e :: es) X.env = (false, eval e X.env) :: starEach es X.env := by rfl) (h2 : (backTo pos (starEach es X.env)).any (·.1) = false := by rfl)
    (hW : eval (.Call (.Attribute o m apos) (e :: es) [] pos) X.env = (do
      let ov ← eval o X.env
      standAt apos.atName
      let (f, first) ← holding [ov] (getMethod ov m pl)
      callWith pos f first (backTo pos (starEach (e :: es) X.env)) (backToKw pos (keywordEach [] X.env))) := by rfl) : PE X (.Call (.Attribute o m apos) (e :: es) [] pos) (tMethE C m sp E ta t) := by
  refine ⟨fun pn s σ H Q I h => PySem.W.methodCall_KW (pl := pl) (thn (hO.run pn s σ H _ I h) fun u s1 hh => ?_) hW⟩
  obtain ⟨x, H1, I1, rx, a, dx, fs, ex, ea, l, q⟩ := hh
  subst ex
  obtain rfl : u = Value.ref a := rx
  refine getmeth_ok I1 ea c hm l (PySem.W.callWith_K (first := [.ref a]) (h₀ := X.base) I.ok.mod.kin hm.kp (thn (hA.run pos pn s1 σ H1 _ I1 q) fun us s2 hh => ?_) h1 h2)
  obtain ⟨vs, H2, I2, r, q2⟩ := hh
  exact ⟨I2.kIn, run_fnRS (us := .ref a :: us) (vs := .ref a :: vs) F hr (hx σ) I2 (.cons rfl r) q2⟩
def tSMethE (C : Addr) (sp : Sp) (E : L2.St → XK) (ta : TE) (t : TA) : TE := fun σ H Q => ta σ H fun x H1 => x = .ref C ∧ t σ H1 fun vs H2 => sp vs H2 Q (E σ)
theorem pe_smethE {o e : Expr} {es : List Expr} {m : Str} {g q : Addr} {mc : Value} {pos apos : Pos} {ta : TE} {t : TA} {pl : Sem Bool} (hO : PE X o ta) (cr : ClX.CRead X.K C mc) (c : SMet X.K C mc m q g) (F : FnR X.prog X.w X.K X.mg X.base CX k g sp) (hr : Room k X.A) (hx : ∀ σ, PassesAt CX X σ (E σ)) (hA : PA X (e :: es) t)
    (h1 : starEach (e :: es) X.env = (false, eval e X.env) :: starEach es X.env := by rfl) (h2 : (backTo pos (starEach es X.env)).any (·.1) = false := by rfl)
    (hW : eval (.Call (.Attribute o m apos) (e :: es) [] pos) X.env = (do
      let ov ← eval o X.env
      standAt apos.atName
      let (f, first) ← holding [ov] (getMethod ov m pl)
      callWith pos f first (backTo pos (starEach (e :: es) X.env)) (backToKw pos (keywordEach [] X.env))) := by rfl) : PE X (.Call (.Attribute o m apos) (e :: es) [] pos) (tSMethE C sp E ta t) := by
  refine ⟨fun pn s σ H Q I h => PySem.W.methodCall_KW (pl := pl) (thn (hO.run pn s σ H _ I h) fun u s1 hh => ?_) hW⟩
  obtain ⟨x, H1, I1, rx, ex, y⟩ := hh
  subst ex
  obtain rfl : u = Value.ref C := rx
  obtain ⟨rest, hp⟩ := c.rc
  refine PySem.W.method_cls I1.kIn cr.ga (PySem.W.cls_bind I1.kIn cr.rd c.at_ (wpAny_call (PySem.W.sm_get (s := { s1 with toks := s1.toks + 1 }) I1.kIn hp (PySem.W.handed_on rfl ?_))))
  have I2 : L2.Inv X pn σ H1 { s1 with toks := s1.toks + 1 } := I1.tok _
  refine PySem.W.callWith_K (h₀ := X.base) I2.ok.mod.kin c.kp (thn (hA.run pos pn _ σ H1 _ I2 y) fun us s3 hh => ?_) h1 h2
  obtain ⟨vs, H2, I3, rv, q2⟩ := hh
  exact ⟨I3.kIn, run_fnRS F hr (hx σ) I3 rv q2⟩
end
end Vx
set_option Elab.async false
set_option linter.all false
set_option maxRecDepth 100000
set_option maxHeartbeats 4000000
namespace L2
open PySem PySem.Spec PyProof.Rows
theorem FnOk.imp' {P : Program} {w : World} {K : PySem.W.Frag} {mg : Str → Option Value} {base : Heap} {CX : CXT} {k : Nat} {f : Addr} {fd : FuncData} {ps : List Str} {sp sp' : Sp} (F : FnOk P w K mg base CX k f fd ps sp) (h : ∀ vs H Q E, sp' vs H Q E → sp vs H Q E) : FnOk P w K mg base CX k f fd ps sp' :=
  ⟨fun vs H Q E z => F.len vs H Q E (h _ _ _ _ z), fun A outer s H args us vs Q E hr e0 b r z => F.run A outer s H args us vs Q E hr e0 b r (h _ _ _ _ z)⟩
end L2
namespace Toy
open PySem PySem.Spec PyProof.Rows L2
theorem TyX.same {K : PySem.W.Frag} {H H' : Hp} {v : V} {t : Value} (h : TyX K H v t) (s : Same H H') : TyX K H' v t := by
  cases h with
  | base h =>
    cases h with
    | non => exact .base .non
    | bl x => exact .base (.bl x)
    | int x => exact .base (.int x)
    | str x => exact .base (.str x)
    | flt x => exact .base (.flt x)
    | lst e => exact .base (.lst (s _ _ e))
    | frz e => exact .base (.frz (s _ _ e))
    | tup e => exact .base (.tup (s _ _ e))
    | dK e => exact .base (.dK (s _ _ e))
    | dT e => exact .base (.dT (s _ _ e))
    | ins e cl a b c d => exact .base (.ins (s _ _ e) cl a b c d)
  | byt b => exact .byt b
  | set e => exact .set (s _ _ e)
  | kList e c => exact .kList e c
  | kTuple e c => exact .kTuple e c
  | kDict e c => exact .kDict e c
  | fTuple e => exact .fTuple (s _ _ e)
  | fDict e => exact .fDict (s _ _ e)
/-- what a value is as a number: a number, or none (a truth value is none) -/
inductive NV (K : PySem.W.Frag) (H : Hp) : V → Option Int → Prop
  | int (i : Int) : NV K H (.int i) (some i)
  | bl (b : Bool) : NV K H (.bl b) none
  | oth {v : V} {t : Value} (h : TyX K H v t) (k : PySem.W.kitOne K t (.type "int") = some false) (kb : PySem.W.kitOne K t (.type "bool") = some false) (n : ∀ i, v ≠ .int i) : NV K H v none
theorem NV.same {K : PySem.W.Frag} {H H' : Hp} {v : V} {o : Option Int} (h : NV K H v o) (s : Same H H') : NV K H' v o := by
  cases h with
  | int i => exact .int i
  | bl b => exact .bl b
  | oth h k kb n => exact .oth (TyX.same h s) k kb n
theorem NV.non {K : PySem.W.Frag} {H : Hp} : NV K H .non none := .oth (t := .type "NoneType") (.base .non) (kit_ty (by decide +kernel)) (kit_ty (by decide +kernel)) (fun _ z => nomatch z)
theorem NV.str {K : PySem.W.Frag} {H : Hp} (z : Str) : NV K H (.str z) none := .oth (t := .type "str") (.base (.str z)) (kit_ty (by decide +kernel)) (kit_ty (by decide +kernel)) (fun _ z => nomatch z)
theorem NV.lst {K : PySem.W.Frag} {H : Hp} {a : Addr} {xs : List V} (h : H a = some (.lst xs)) : NV K H (.ref a) none := .oth (t := .type "list") (.base (.lst h)) (kit_ty (by decide +kernel)) (kit_ty (by decide +kernel)) (fun _ z => nomatch z)
theorem NV.tup {K : PySem.W.Frag} {H : Hp} {a : Addr} {xs : List V} (h : H a = some (.tup xs)) : NV K H (.ref a) none := .oth (t := .type "tuple") (.base (.tup h)) (kit_ty (by decide +kernel)) (kit_ty (by decide +kernel)) (fun _ z => nomatch z)
def btw (o : Option Int) (l h : Int) : Bool := match o with
  | some i => decide (l ≤ i ∧ i ≤ h)
  | none => false
structure NmI (mg : Str → Option Value) : Prop where
  isi : mg "isinstance" = none
  int : mg "int" = none
  bool : mg "bool" = none
section
variable {P : Program} {w : World} {K : PySem.W.Frag} {mg : Str → Option Value} {base : Heap}
def spWholeG (K : PySem.W.Frag) : Sp := fun vs H Q _ => ∃ (v : V) (o : Option Int), vs = [v] ∧ NV K H v o ∧ Q (.bl o.isSome) H
theorem ok_wholeG {f : Addr} {fd : FuncData} (F : Fun K "is_whole" "is_whole" s_is_whole f fd) (T : NmI mg) : FnOk P w K mg base CX0 1 f fd ["value"] (spWholeG K) := by
  refine F.ok sc_is_whole (fun vs H Q E h => ?_) (fun cdv A outer s H vs Q E hr h => ?_)
  · obtain ⟨v, o, rfl, _⟩ := h
    rfl
  · obtain ⟨v, o, rfl, hv, q⟩ := h
    refine ⟨_, pss_one (ps_ret (pe_and (pe_callB call_isi (by rfl) T.isi (by decide +kernel) (pa_cons (pv 0) (pa_cons (pe_bltn (v := .ty "int") (by rfl) T.int (by decide +kernel) rfl) pa_nil)))
      (pe_one (pe_not (pe_callB call_isi (by rfl) T.isi (by decide +kernel) (pa_cons (pv 0) (pa_cons (pe_bltn (v := .ty "bool") (by rfl) T.bool (by decide +kernel) rfl) pa_nil))))))), ?_⟩
    cases hv with
    | int i => exact ⟨_, rfl, .int i, .ty "int", _, _, true, rfl, .ty _, .base (.int i), kit_ty (by decide +kernel), true, rfl, iteT ⟨_, rfl, .int i, .ty "bool", _, _, false, rfl, .ty _, .base (.int i), kit_ty (by decide +kernel), false, rfl, q⟩⟩
    | bl b => exact ⟨_, rfl, .bl b, .ty "int", _, _, true, rfl, .ty _, .base (.bl b), kit_ty (by decide +kernel), true, rfl, iteT ⟨_, rfl, .bl b, .ty "bool", _, _, true, rfl, .ty _, .base (.bl b), kit_ty (by decide +kernel), true, rfl, q⟩⟩
    | oth ht k kb n => exact ⟨_, rfl, v, .ty "int", _, _, false, rfl, .ty _, ht, k, false, rfl, iteF q⟩
def spBetwG (K : PySem.W.Frag) : Sp := fun vs H Q _ => ∃ (v : V) (o : Option Int) (l h : Int), vs = [v, .int l, .int h] ∧ NV K H v o ∧ Q (.bl (btw o l h)) H
theorem NV.some_eq {H : Hp} {v : V} {i : Int} (h : NV K H v (some i)) : v = .int i := by
  cases h
  rfl
theorem ok_betwG {f fW : Addr} {fd fdW : FuncData} (F : Fun K "is_between" "is_between" s_is_between f fd) (GW : FnOk P w K mg base CX0 1 fW fdW ["value"] (spWholeG K)) (kW : PySem.W.keepIn K (.ref fW) = true) (bW : L2.Binds K fdW ["value"] []) (gW : mg "is_whole" = some (.ref fW)) :
    FnOk P w K mg base CX0 2 f fd ["value", "low", "high"] (spBetwG K) := by
  refine F.ok sc_is_between (fun vs H Q E h => ?_) (fun cdv A outer s H vs Q E hr h => ?_)
  · obtain ⟨v, o, l, h, rfl, _⟩ := h
    rfl
  · obtain ⟨v, o, l, u, rfl, hv, q⟩ := h
    refine ⟨_, pss_one (ps_ret (pe_and (pe_call GW hr (by rfl) gW kW bW .nil pass0 (pa_cons (pv 0) pa_nil)) (pe_one (pe_chain op_le op_le (pv 1) (pv 0) (pv 2))))), ?_⟩
    refine ⟨_, rfl, v, o, rfl, hv, o.isSome, rfl, ?_⟩
    cases o with
    | none => exact iteF q
    | some i =>
      obtain rfl := hv.some_eq
      refine iteT ⟨_, rfl, _, rfl, l, i, rfl, rfl, decide (l ≤ i), rfl, ?_⟩
      by_cases h1 : l ≤ i
      · rw [decide_eq_true h1]
        refine iteT ⟨_, rfl, i, u, rfl, rfl, ?_⟩
        have e : btw (some i) l u = decide (i ≤ u) := by by_cases h2 : i ≤ u <;> simp [btw, h1, h2]
        rw [e] at q
        exact q
      · rw [decide_eq_false h1]
        have e : btw (some i) l u = false := by simp [btw, h1]
        rw [e] at q
        exact iteF q
def spIsWG (K : PySem.W.Frag) : Sp := fun vs H Q _ => ∃ (v : V) (o : Option Int), vs = [v] ∧ NV K H v o ∧ Q (.bl (btw o 0 30)) H
theorem ok_isWG {f fB : Addr} {fd fdB : FuncData} (F : Fun K "is_writer_number" "is_writer_number" s_is_writer_number f fd) (GB : FnOk P w K mg base CX0 2 fB fdB ["value", "low", "high"] (spBetwG K)) (kB : PySem.W.keepIn K (.ref fB) = true)
    (bB : L2.Binds K fdB ["value", "low", "high"] []) (gB : mg "is_between" = some (.ref fB)) (lw : ∃ t, mg "LAST_WRITER" = some (.int 30 t)) : FnOk P w K mg base CX0 3 f fd ["value"] (spIsWG K) := by
  obtain ⟨tk, lw⟩ := lw
  refine F.ok sc_is_writer_number (fun vs H Q E h => ?_) (fun cdv A outer s H vs Q E hr h => ?_)
  · obtain ⟨v, o, rfl, _⟩ := h
    rfl
  · obtain ⟨v, o, rfl, hv, q⟩ := h
    refine ⟨_, pss_one (ps_ret (pe_call GB hr (by rfl) gB kB bB .nil pass0 (pa_cons (pv 0) (pa_cons pe_int (pa_cons (pe_glob (v := .int 30) (by rfl) lw ⟨_, rfl⟩) pa_nil))))), ?_⟩
    exact ⟨_, rfl, v, o, 0, 30, rfl, hv, q⟩
theorem whole_int {f : Addr} {fd : FuncData} (F : FnOk P w K mg base CX0 1 f fd ["value"] (spWholeG K)) : FnOk P w K mg base CX0 1 f fd ["value"] spWhole := F.imp' fun vs H Q E h => by
  obtain ⟨i, rfl, q⟩ := h
  exact ⟨_, _, rfl, .int i, q⟩
theorem betw_int {f : Addr} {fd : FuncData} (F : FnOk P w K mg base CX0 2 f fd ["value", "low", "high"] (spBetwG K)) : FnOk P w K mg base CX0 2 f fd ["value", "low", "high"] spBetw := F.imp' fun vs H Q E h => by
  obtain ⟨i, l, u, rfl, q⟩ := h
  exact ⟨_, _, l, u, rfl, .int i, q⟩
theorem isW_int {f : Addr} {fd : FuncData} (F : FnOk P w K mg base CX0 3 f fd ["value"] (spIsWG K)) : FnOk P w K mg base CX0 3 f fd ["value"] spIsW := F.imp' fun vs H Q E h => by
  obtain ⟨i, rfl, q⟩ := h
  exact ⟨_, _, rfl, .int i, q⟩
end
end Toy
set_option Elab.async false
set_option linter.all false
set_option maxRecDepth 100000
set_option maxHeartbeats 4000000
namespace Vx
open PySem PySem.Spec PyProof.Rows L2
/-- o cmp y by the own method; y of any class that does not come first -/
def rCmpA (K : PySem.W.Frag) (C : Addr) (sp : Sp) (E : XK) : R2 := fun x y H Q => (∃ a dx fs, x = .ref a ∧ H a = some (.ins C dx fs)) ∧ (∃ t, TyX K H y t ∧ PySem.W.notFirst K C t = true) ∧ sp [x, y] H Q E
theorem op_cmpAny {X : Cx} {CX : CXT} {k : Nat} {C f : Addr} {sp : Sp} {E : XK} {op : CmpOp} (hc : ∀ v u, compareOp op v u = richCompare op v u) (at_ : PySem.W.findIn X.K (.ref C) (cmpInfo op).2.1 = some (some (.ref f))) (fn : PySem.W.isFn X.K (.ref f) = true)
    (F : FnR X.prog X.w X.K X.mg X.base CX k f sp) (hr : Room k X.A) (hx : Passes CX X E) : OpR X (compareOp op) (rCmpA X.K C sp E) := by
  intro pins s σ H x y v u Q I rx ry hq
  obtain ⟨⟨a, dx, fs, rfl, ha⟩, ⟨t, ty, nf⟩, hsp⟩ := hq
  have ev : v = Value.ref a := rx
  have cl := call_cmp F hr hx I (us := [v, u]) (vs := [V.ref a, y]) (.cons rx (.cons ry .nil)) hsp
  subst ev
  obtain ⟨mA, J, _⟩ := ins_get I.hok ha
  obtain ⟨od, J, _⟩ := J.look
  obtain ⟨m, hF⟩ := I.fr
  obtain ⟨PP, KX, hP, _⟩ := L2.kit_of I ry ty
  rw [hc]
  exact PySem.W.cmp_K hr.units0 hF I.ok.mod.kin J (KX.ty _ _ I.kIn hP) nf at_ fn cl
end Vx
namespace Toy
open PySem PySem.Spec PyProof.Rows L2
/-! ### own errors -/
/-- what the text says of an own error class: its attribute f, its __init__ at fI -/
structure Err (P : Program) (w : World) (K : PySem.W.Frag) (mg : Str → Option Value) (base : Heap) (x f : Str) (C fI : Addr) (fd : FuncData) (sp : Sp) : Prop where
  T : OexC K C
  no : PySem.W.findIn K (.ref C) f = some none
  gC : mg x = some (.ref C)
  iC : PySem.W.findIn K (.ref C) "__init__" = some (some (.ref fI))
  tI : PySem.W.typeIn K (.ref fI) = some (.type "function")
  F : FnOk P w K mg base CX0 1 fI fd ["self", f] sp
  b : L2.Binds K fd ["self", f] []
def spErr (K : PySem.W.Frag) (f : Str) : Sp := fun vs H Q _ => ∃ (a C : Addr) (v : V), vs = [.ref a, v] ∧ OexC K C ∧ PySem.W.findIn K (.ref C) f = some none ∧ H a = some (exo a C none) ∧ ∀ d, H d = none → d ≠ a → Q .non (upd (upd H d (exd d [(f, v)])) a (exo a C (some d)))
theorem err_end {K : PySem.W.Frag} {f : Str} {C a : Addr} {v : V} {H : Hp} {E : XK} (T : OexC K C) (no : PySem.W.findIn K (.ref C) f = some none) (na : H a = none)
    (q : ∀ H' d, Same H H' → H d = none → H' d = some (.xd [(f, v)]) → E (.ref C) (some d) H') :
    spErr K f (.ref a :: ([v] ++ [])) (upd H a (exo a C none)) (fun u H2 => u = .non ∧ ∃ (d : Addr) (fs : List (Str × V)), H2 a = some (exo a C (some d)) ∧ H2 d = some (exd d fs) ∧ H d = none ∧ E (.ref C) (some d) (upd (del H2 a) d (.xd fs))) (fun _ _ _ => False) := by
  refine ⟨a, C, v, rfl, T, no, upd_same, fun d hd ne => ⟨rfl, d, _, upd_same, by rw [upd_ne ne]; exact upd_same, ?_, ?_⟩⟩
  · rw [upd_ne ne] at hd
    exact hd
  · rw [upd_ne ne] at hd
    refine q _ d (fun b o e => ?_) hd upd_same
    have nba : b ≠ a := ne_of_none e na
    have nbd : b ≠ d := ne_of_none e hd
    rw [upd_ne nbd, del_ne nba, upd_ne nba, upd_ne nbd, upd_ne nba]
    exact e
section
variable {P : Program} {w : World} {K : PySem.W.Frag} {mg : Str → Option Value} {base : Heap}
theorem ok_BadRow_init {f D : Addr} {mc : Value} {fd : FuncData} (F : Fun K "__init__" "BadRow.__init__" s_BadRow_init f fd) (gD : mg "PagesError" = some (.ref D)) (U : Vx.UpC K D mc) : FnOk P w K mg base CX0 1 f fd ["self", "field"] (spErr K "field") := by
  refine F.ok sc_BadRow_init (fun vs H Q E h => ?_) (fun cdv A outer s H vs Q E hr h => ?_)
  · obtain ⟨a, C, v, rfl, _⟩ := h
    rfl
  · obtain ⟨a, C, v, rfl, T, no, ha, q⟩ := h
    refine ⟨_, pss_cons (ps_expr (Vx.pe_up (pe_glob (v := .ref D) (by rfl) gD rfl) U (pa_cons (pv 0) (pa_cons pe_str pa_nil)))) (pss_one (ps_ost (pv 0) (pv 1))), ?_⟩
    exact ⟨rfl, _, rfl, a, C, _, rfl, (by decide), T, ha, _, rfl, _, rfl, a, C, rfl, T, no, .inl ⟨ha, fun d nd ne => q d nd ne⟩⟩
/-! ### rows -/
def okf (v : V) (o : Option Int) : Bool := decide (v = .non) || btw o 0 30
def spField (K : PySem.W.Frag) : Sp := fun vs H Q _ => ∃ (v : V) (o : Option Int), vs = [v] ∧ NV K H v o ∧ Q (.bl (okf v o)) H
theorem ok_field {f fI : Addr} {fd fdI : FuncData} (F : Fun K "_is_field" "_is_field" s_is_field f fd) (GI : FnOk P w K mg base CX0 3 fI fdI ["value"] (spIsWG K)) (kI : PySem.W.keepIn K (.ref fI) = true) (bI : L2.Binds K fdI ["value"] []) (gI : mg "is_writer_number" = some (.ref fI)) :
    FnOk P w K mg base CX0 4 f fd ["value"] (spField K) := by
  refine F.ok sc_is_field (fun vs H Q E h => ?_) (fun cdv A outer s H vs Q E hr h => ?_)
  · obtain ⟨v, o, rfl, _⟩ := h
    rfl
  · obtain ⟨v, o, rfl, hv, q⟩ := h
    refine ⟨_, pss_one (ps_ret (pe_or (pe_cmpR op_isN (pv 0) pe_non (nomark _)) (pe_one (pe_call GI hr (by rfl) gI kI bI .nil pass0 (pa_cons (pv 0) pa_nil))))), ?_⟩
    refine ⟨_, rfl, rfl, decide (v = .non), rfl, ?_⟩
    unfold okf at q
    cases h : decide (v = V.non) with
    | true =>
      rw [h] at q
      exact iteT q
    | false =>
      rw [h] at q
      exact iteF ⟨_, rfl, v, o, rfl, hv, q⟩
def ro (b e : V) : List (Str × V) := [("_beginner", b), ("_ender", e)]
/-- Row.__init__: the row's fields, or BadRow (its class at B) with the first wrong one -/
def spRowI (K : PySem.W.Frag) (R B : Addr) : Sp := fun vs H Q E => ∃ (H0 : Hp) (p dx : Addr) (v1 v2 : V) (o1 o2 : Option Int), vs = [.ref p, v1, v2] ∧ Same H0 H ∧ H0 p = none ∧ H p = some (.ins R dx []) ∧ NV K H v1 o1 ∧ NV K H v2 o2 ∧
  ((okf v1 o1 && okf v2 o2) = true → ∀ H', Same H0 H' → H' p = some (.ins R dx (ro v1 v2)) → Q .non H') ∧
  ((okf v1 o1 && okf v2 o2) = false → ∀ H' d, Same H0 H' → H0 d = none → H' d = some (.xd [("field", .str (if okf v1 o1 = true then "ender" else "beginner"))]) → E (.ref B) (some d) H')
structure RowT (P : Program) (w : World) (K : PySem.W.Frag) (mg : Str → Option Value) (base : Heap) (R B fF fI : Addr) (fdF fdI : FuncData) : Prop where
  cl : Cls K R
  nB : NoAttr K R "_beginner"
  nE : NoAttr K R "_ender"
  GF : FnOk P w K mg base CX0 4 fF fdF ["value"] (spField K)
  kF : PySem.W.keepIn K (.ref fF) = true
  bF : L2.Binds K fdF ["value"] []
  gF : mg "_is_field" = some (.ref fF)
  er : Err P w K mg base "BadRow" "field" B fI fdI (spErr K "field")
theorem ok_Row_init {f R B fF fI : Addr} {fd fdF fdI : FuncData} {dvs : List V} {kws : List (Str × V)} (F : FunD K "__init__" "Row.__init__" (defArgs s_Row_init) (defBody s_Row_init) (defScope s_Row_init) dvs kws f fd) (T : RowT P w K mg base R B fF fI fdF fdI) :
    FnOk P w K mg base (L2.CX P w) 5 f fd ["self", "beginner", "ender"] (spRowI K R B) := by
  refine F.ok sc_Row_init (fun vs H Q E h => ?_) (fun cdv A outer s H vs Q E hr h => ?_)
  · obtain ⟨H0, p, dx, v1, v2, o1, o2, rfl, _⟩ := h
    rfl
  · obtain ⟨H0, p, dx, v1, v2, o1, o2, rfl, s0, p0, hp, h1, h2, qg, qb⟩ := h
    have hr2 : Room 2 _ := hr.mono (by decide)
    refine ⟨_, pss_cons (ps_if (pt_not (pt_val (pe_call T.GF hr (by rfl) T.gF T.kF T.bF .nil pass0 (pa_cons (pv 1) pa_nil)))) (pss_one (ps_raise rfl (takes_of rfl rfl rfl rfl) (pmk_oex T.er.T T.er.iC T.er.tI T.er.F hr2 T.er.b .nil pass0 (by rfl) T.er.gC (pa_cons pe_str pa_nil)))) pss_nil)
      (pss_cons (ps_if (pt_not (pt_val (pe_call T.GF hr (by rfl) T.gF T.kF T.bF .nil pass0 (pa_cons (pv 2) pa_nil)))) (pss_one (ps_raise rfl (takes_of rfl rfl rfl rfl) (pmk_oex T.er.T T.er.iC T.er.tI T.er.F hr2 T.er.b .nil pass0 (by rfl) T.er.gC (pa_cons pe_str pa_nil)))) pss_nil)
      (pss_cons (ps_fld (pv 0) (pv 1) rfl) (pss_one (ps_fld (pv 0) (pv 2) rfl)))), ?_⟩
    refine ⟨_, rfl, v1, o1, rfl, h1, okf v1 o1, rfl, ?_⟩
    cases e1 : okf v1 o1 with
    | false =>
      rw [e1] at qb
      refine iteT ⟨by decide, fun a na => err_end T.er.T T.er.no na fun H' d sm nd hd => qb rfl H' d (s0.trans sm) (s0.free nd) hd⟩
    | true =>
      refine iteF ⟨_, rfl, v2, o2, rfl, h2, okf v2 o2, rfl, ?_⟩
      rw [e1] at qb qg
      cases e2 : okf v2 o2 with
      | false =>
        rw [e2] at qb
        refine iteT ⟨by decide, fun a na => err_end T.er.T T.er.no na fun H' d sm nd hd => qb rfl H' d (s0.trans sm) (s0.free nd) hd⟩
      | true =>
        rw [e2] at qg
        refine iteF ⟨_, rfl, _, rfl, p, R, dx, _, rfl, hp, T.cl, T.nB, (by show (0 : Nat) < 1000; decide), ?_⟩
        refine ⟨_, rfl, _, rfl, p, R, dx, _, rfl, upd_same, T.cl, T.nE, (by show (1 : Nat) < 1000; decide), ?_⟩
        refine qg rfl _ (fun b o e => ?_) upd_same
        rw [upd_ne (ne_of_none e p0), upd_ne (ne_of_none e p0)]
        exact s0 _ _ e
end
end Toy
set_option Elab.async false
set_option linter.all false
set_option maxRecDepth 100000
set_option maxHeartbeats 4000000
namespace Toy
open PySem PySem.Spec PyProof.Rows L2
def fv : Option Nat → V
  | none => .non
  | some k => vi k
def fok (o : Option Nat) : Prop := ∀ k, o = some k → k ≤ 30
theorem scal_fv (a b : Option Nat) : scal (fv a) (fv b) = true := by cases a <;> cases b <;> rfl
theorem fv_inj {a b : Option Nat} : fv a = fv b ↔ a = b := by
  constructor
  · intro h
    cases a with
    | none => cases b with
      | none => rfl
      | some k => cases h
    | some j => cases b with
      | none => cases h
      | some k =>
        have z : V.int (j : Int) = V.int (k : Int) := h
        injection z with z
        have : j = k := by omega
        rw [this]
  · intro h
    rw [h]
def nv : Option Nat → Option Int
  | none => none
  | some k => some (k : Int)
theorem NV.fv {K : PySem.W.Frag} {H : Hp} (o : Option Nat) : NV K H (Toy.fv o) (nv o) := by
  cases o with
  | none => exact NV.non
  | some k => exact NV.int _
theorem okf_fv {o : Option Nat} (h : fok o) : okf (Toy.fv o) (nv o) = true := by
  cases o with
  | none => rfl
  | some k =>
    have hk := h k rfl
    show (decide (vi k = V.non) || decide ((0 : Int) ≤ (k : Int) ∧ (k : Int) ≤ 30)) = true
    rw [decide_eq_true (show (0 : Int) ≤ (k : Int) ∧ (k : Int) ≤ 30 by omega), Bool.or_true]
def RowAt (R : Addr) (H : Hp) (p : Addr) (b e : V) : Prop := ∃ dx, H p = some (.ins R dx (ro b e))
theorem RowAt.same {R : Addr} {H H' : Hp} {p : Addr} {b e : V} (h : RowAt R H p b e) (s : Same H H') : RowAt R H' p b e := h.imp fun _ z => s _ _ z
def inm (n : Nat) : Option Int → Bool
  | some i => decide (0 ≤ i ∧ i ≤ 30) && n.testBit i.toNat
  | none => false
section
variable {P : Program} {w : World} {K : PySem.W.Frag} {mg : Str → Option Value} {base : Heap} {C R B : Addr}
/-! ### value in moment -/
def spCont (K : PySem.W.Frag) (C : Addr) : Sp := fun vs H Q _ => ∃ (p : Addr) (n : Nat) (v : V) (o : Option Int), vs = [.ref p, v] ∧ MoAt C H p n ∧ NV K H v o ∧ Q (.bl (inm n o)) H
theorem ok_contains {f fI : Addr} {fd fdI : FuncData} (F : Fun K "__contains__" "Moment.__contains__" s_Moment_contains f fd) (cl : Cls K C) (nN : NoAttr K C "_number") (GI : FnOk P w K mg base CX0 3 fI fdI ["value"] (spIsWG K)) (kI : PySem.W.keepIn K (.ref fI) = true)
    (bI : L2.Binds K fdI ["value"] []) (gI : mg "is_writer_number" = some (.ref fI)) : FnOk P w K mg base CX0 4 f fd ["self", "value"] (spCont K C) := by
  refine F.ok sc_Moment_contains (fun vs H Q E h => ?_) (fun cdv A outer s H vs Q E hr h => ?_)
  · obtain ⟨p, n, v, o, rfl, _⟩ := h
    rfl
  · obtain ⟨p, n, v, o, rfl, ⟨hn, dx, hp⟩, hv, q⟩ := h
    refine ⟨_, pss_one (ps_ret (pe_and (pe_call GI hr (by rfl) gI kI bI .nil pass0 (pa_cons (pv 1) pa_nil)) (pe_one (pe_cmpR op_eq (pe_op op_and (pe_op op_shr (pe_fld (pv 0) rfl) (pv 1)) pe_int) pe_int (nomark _))))), ?_⟩
    refine ⟨_, rfl, v, o, rfl, hv, btw o 0 30, rfl, ?_⟩
    cases o with
    | none => exact iteF q
    | some i =>
      obtain rfl := hv.some_eq
      show if decide ((0 : Int) ≤ i ∧ i ≤ 30) = true then _ else _
      by_cases h : (0 : Int) ≤ i ∧ i ≤ 30
      · rw [decide_eq_true h]
        refine iteT ⟨_, rfl, p, C, dx, _, _, rfl, hp, cl, nN, rfl, _, rfl, _, _, rfl, rfl, h.1, _, _, rfl, rfl, rfl, ?_⟩
        obtain ⟨k, rfl⟩ := Int.eq_ofNat_of_zero_le h.1
        have e : decide (V.int (Builtin.bitAnd ((n : Int) / 2 ^ ((k : Int)).toNat) 1) = V.int 1) = inm n (some (k : Int)) := by
          show _ = (decide ((0 : Int) ≤ (k : Int) ∧ (k : Int) ≤ 30) && n.testBit ((k : Int)).toNat)
          rw [decide_eq_true h, Bool.true_and, Int.toNat_natCast, ← bit_test]
          have e1 : Builtin.bitAnd ((n : Int) / 2 ^ k) 1 = 0 ∨ Builtin.bitAnd ((n : Int) / 2 ^ k) 1 = 1 := by
            have e2 : ((n : Int) / 2 ^ k) = ((n / 2 ^ k : Nat) : Int) := by
              rw [Int.natCast_ediv, Int.natCast_pow]
              rfl
            rw [e2, show (1 : Int) = ((1 : Nat) : Int) from rfl, and_pp, Nat.and_one_is_mod]
            omega
          rcases e1 with z | z <;> rw [z] <;> decide
        show Q (V.bl (decide (V.int (Builtin.bitAnd ((n : Int) / 2 ^ ((k : Int)).toNat) 1) = V.int 1))) H
        rw [e]
        exact q
      · rw [decide_eq_false h]
        have e : inm n (some i) = false := by simp only [inm, decide_eq_false h, Bool.false_and]
        rw [e] at q
        exact iteF q
/-! ### seen -/
def sees (b e : Option Nat) (n : Nat) : Bool := (match b with | none => true | some k => n.testBit k) && !(match e with | none => false | some k => n.testBit k)
theorem inm_nv {k n : Nat} (h : k ≤ 30) : inm n (some (k : Int)) = n.testBit k := by
  show (decide ((0 : Int) ≤ (k : Int) ∧ (k : Int) ≤ 30) && n.testBit ((k : Int)).toNat) = _
  rw [decide_eq_true (show (0 : Int) ≤ (k : Int) ∧ (k : Int) ≤ 30 by omega), Bool.true_and, Int.toNat_natCast]
structure ContF (P : Program) (w : World) (K : PySem.W.Frag) (mg : Str → Option Value) (base : Heap) (C fC : Addr) : Prop where
  at_ : PySem.W.findIn K (.ref C) "__contains__" = some (some (.ref fC))
  fn : PySem.W.isFn K (.ref fC) = true
  F : FnR P w K mg base CX0 4 fC (spCont K C)
def spSeen (R C : Addr) : Sp := fun vs H Q _ => ∃ (p m : Addr) (n : Nat) (b e : Option Nat), vs = [.ref p, .ref m] ∧ RowAt R H p (fv b) (fv e) ∧ fok b ∧ fok e ∧ MoAt C H m n ∧ Q (.bl (sees b e n)) H
theorem ok_seen {f fC : Addr} {fd : FuncData} (F : Fun K "seen" "Row.seen" s_Row_seen f fd) (cl : Cls K R) (nB : NoAttr K R "_beginner") (nE : NoAttr K R "_ender") (Z : ContF P w K mg base C fC) : FnOk P w K mg base CX0 5 f fd ["self", "moment"] (spSeen R C) := by
  refine F.ok sc_Row_seen (fun vs H Q E h => ?_) (fun cdv A outer s H vs Q E hr h => ?_)
  · obtain ⟨p, m, n, b, e, rfl, _⟩ := h
    rfl
  · obtain ⟨p, m, n, b, e, rfl, ⟨dx, hp⟩, hb, he, hm, q⟩ := h
    have ins : ∃ a dy gs, V.ref m = .ref a ∧ H a = some (.ins C dy gs) := by
      obtain ⟨_, dy, z⟩ := hm
      exact ⟨_, dy, _, rfl, z⟩
    refine ⟨_, pss_cons (ps_set (i := 2) sc_Row_seen.nd rfl (Or.inl rfl) (pe_or (pe_cmpR op_isN (pe_fld (pv 0) rfl) pe_non (nomark _)) (pe_one (pe_cmpR (Vx.op_inOwn Z.at_ Z.fn Z.F hr pass0) (pe_fld (pv 0) rfl) (pv 1) (by rfl)))))
      (pss_cons (ps_set (i := 3) sc_Row_seen.nd rfl (Or.inl rfl) (pe_and (pe_cmpR op_notN (pe_fld (pv 0) rfl) pe_non (nomark _)) (pe_one (pe_cmpR (Vx.op_inOwn Z.at_ Z.fn Z.F hr pass0) (pe_fld (pv 0) rfl) (pv 1) (by rfl)))))
      (pss_one (ps_ret (pe_and (pv 2) (pe_one (pe_not (pv 3))))))), ?_⟩
    have sb : ∀ k, sees (some k) e n = (n.testBit k && sees none e n) := fun k => by simp [sees]
    refine ⟨_, rfl, p, R, dx, _, fv b, rfl, hp, cl, nB, rfl, rfl, _, rfl, ?_⟩
    cases b with
    | none =>
      refine iteT ⟨_, rfl, p, R, dx, _, fv e, rfl, hp, cl, nE, rfl, rfl, _, rfl, ?_⟩
      cases e with
      | none => exact iteF ⟨_, rfl, true, rfl, iteT ⟨_, rfl, false, rfl, q⟩⟩
      | some j =>
        refine iteT ⟨_, rfl, p, R, dx, _, _, rfl, hp, cl, nE, rfl, _, rfl, ins, m, n, vi j, some j, rfl, hm, NV.int _, inm n (some j), rfl, ?_⟩
        refine ⟨_, rfl, true, rfl, iteT ⟨_, rfl, inm n (some j), rfl, ?_⟩⟩
        rw [inm_nv (he j rfl)]
        exact q
    | some k =>
      refine iteF ⟨_, rfl, p, R, dx, _, _, rfl, hp, cl, nB, rfl, _, rfl, ins, m, n, vi k, some k, rfl, hm, NV.int _, inm n (some k), rfl, ?_⟩
      refine ⟨_, rfl, p, R, dx, _, fv e, rfl, hp, cl, nE, rfl, rfl, _, rfl, ?_⟩
      rw [sb, ← inm_nv (hb k rfl)] at q
      cases e with
      | none =>
        refine iteF ⟨_, rfl, inm n (some k), rfl, ?_⟩
        cases hx : inm n (some k) with
        | false => rw [hx] at q; exact iteF q
        | true => rw [hx] at q; exact iteT ⟨_, rfl, false, rfl, q⟩
      | some j =>
        refine iteT ⟨_, rfl, p, R, dx, _, _, rfl, hp, cl, nE, rfl, _, rfl, ins, m, n, vi j, some j, rfl, hm, NV.int _, inm n (some j), rfl, ?_⟩
        refine ⟨_, rfl, inm n (some k), rfl, ?_⟩
        cases hx : inm n (some k) with
        | false => rw [hx] at q; exact iteF q
        | true =>
          rw [hx] at q
          refine iteT ⟨_, rfl, inm n (some j), rfl, ?_⟩
          rw [inm_nv (he j rfl)]
          exact q
/-! ### ended -/
structure RowM (P : Program) (w : World) (K : PySem.W.Frag) (mg : Str → Option Value) (base : Heap) (R B fR : Addr) (fdR : FuncData) : Prop where
  mkR : Mk K R fR
  gR : mg "Row" = some (.ref R)
  F : FnOk P w K mg base (L2.CX P w) 5 fR fdR ["self", "beginner", "ender"] (spRowI K R B)
  b2 : L2.Binds K fdR ["self", "beginner", "ender"] []
  b1 : ∃ u, RelV .non u ∧ L2.Binds K fdR ["self", "beginner", "ender"] [u]
  b0 : ∃ u1 u2, RelV .non u1 ∧ RelV .non u2 ∧ L2.Binds K fdR ["self", "beginner", "ender"] [u1, u2]
/-- what a making of a row asks, where the fields are good -/
theorem row_good {H : Hp} {b e : V} {ob oe : Option Int} {Q : VK} {E : XK} (h1 : NV K H b ob) (h2 : NV K H e oe) (o1 : okf b ob = true) (o2 : okf e oe = true) (q : ∀ H' r, Same H H' → H r = none → RowAt R H' r b e → Q (.ref r) H') :
    ∀ x dx, H x = none → H dx = none → dx ≠ x → spRowI K R B [.ref x, b, e] (upd (upd H dx (.own x)) x (.ins R dx [])) (fun v H3 => v = .non ∧ Q (.ref x) H3) E := fun x dx nx nd ne => by
  have s : Same H (upd (upd H dx (.own x)) x (.ins R dx [])) := fun c o y => by
    rw [upd_ne (ne_of_none y nx), upd_ne (ne_of_none y nd)]
    exact y
  refine ⟨H, x, dx, b, e, ob, oe, rfl, s, nx, upd_same, h1.same s, h2.same s, fun _ H' s' e' => ⟨rfl, q H' x s' nx ⟨dx, e'⟩⟩, fun z => ?_⟩
  rw [o1, o2] at z
  cases z
def spEnded (K : PySem.W.Frag) (R B : Addr) : Sp := fun vs H Q E => ∃ (p : Addr) (b e v : V) (ob o : Option Int), vs = [.ref p, v] ∧ RowAt R H p b e ∧ NV K H b ob ∧ okf b ob = true ∧ NV K H v o ∧
  (btw o 0 30 = true → ∀ H' r, Same H H' → H r = none → RowAt R H' r b v → Q (.ref r) H') ∧ (btw o 0 30 = false → ∀ H' d, Same H H' → H d = none → H' d = some (.xd [("field", .str "ender")]) → E (.ref B) (some d) H')
theorem ok_ended {f fI fR fE : Addr} {fd fdI fdR fdE : FuncData} (F : Fun K "ended" "Row.ended" s_Row_ended f fd) (cl : Cls K R) (nB : NoAttr K R "_beginner") (Z : RowM P w K mg base R B fR fdR) (er : Err P w K mg base "BadRow" "field" B fE fdE (spErr K "field"))
    (GI : FnOk P w K mg base CX0 3 fI fdI ["value"] (spIsWG K)) (kI : PySem.W.keepIn K (.ref fI) = true) (bI : L2.Binds K fdI ["value"] []) (gI : mg "is_writer_number" = some (.ref fI)) : FnOk P w K mg base (L2.CX P w) 7 f fd ["self", "writer"] (spEnded K R B) := by
  refine F.okX sc_Row_ended (fun vs H Q E h => ?_) (fun cdv A outer s H vs Q E hr h => ?_)
  · obtain ⟨p, b, e, v, ob, o, rfl, _⟩ := h
    rfl
  · obtain ⟨p, b, e, v, ob, o, rfl, ⟨dx, hp⟩, hb, okb, hv, qg, qb⟩ := h
    refine ⟨_, pss_cons (ps_if (pt_not (pt_val (pe_call GI (hr.mono (by decide)) (by rfl) gI kI bI .nil pass0 (pa_cons (pv 1) pa_nil)))) (pss_one (ps_raise rfl (takes_of rfl rfl rfl rfl) (pmk_oex er.T er.iC er.tI er.F (hr.mono (by decide)) er.b .nil pass0 (by rfl) er.gC (pa_cons pe_str pa_nil)))) pss_nil)
      (pss_one (ps_ret (pe_make Z.mkR Z.F (hr.mono (by decide)) (by rfl) Z.gR Z.b2 .nil passL (pa_cons (pe_fld (pv 0) rfl) (pa_cons (pv 1) pa_nil))))), ?_⟩
    refine ⟨_, rfl, v, o, rfl, hv, btw o 0 30, rfl, ?_⟩
    cases h : btw o 0 30 with
    | false => exact iteT ⟨by decide, fun a na => err_end er.T er.no na (qb h)⟩
    | true =>
      refine iteF ⟨_, rfl, p, R, dx, _, _, rfl, hp, cl, nB, rfl, _, rfl, ?_⟩
      exact row_good hb hv okb (by unfold okf; rw [h, Bool.or_true]) (qg h)
/-! ### == -/
def spRowEq (K : PySem.W.Frag) (R : Addr) : Sp := fun vs H Q _ => ∃ (p : Addr) (y : V) (b e : Option Nat), vs = [.ref p, y] ∧ RowAt R H p (fv b) (fv e) ∧
  ((∃ (r : Addr) (b' e' : Option Nat), y = .ref r ∧ RowAt R H r (fv b') (fv e') ∧ Q (.bl (decide (b = b' ∧ e = e'))) H) ∨ ∃ t, TyX K H y t ∧ PySem.W.kitOne K t (.ref R) = some false ∧ Q (.bl false) H)
structure RowC (K : PySem.W.Frag) (mg : Str → Option Value) (R : Addr) : Prop where
  cl : Cls K R
  cC : PySem.W.findIn K (.ref R) "__class__" = some (some (.builtin "object.__class__"))
  cG : PySem.W.specialIn K (.builtin "object.__class__") "__get__" = some (some (.builtin "getset_descriptor.__get__"))
  cT : PySem.W.takesIn K (.builtin "object.__class__") = some true
  cM : PySem.W.mroIn K R (.type "object") = some true
  kk : PySem.W.kitOne K (.ref R) (.ref R) = some true
theorem RowC.ty {p : Addr} {b e : V} {H : Hp} (T : RowC K mg R) (h : RowAt R H p b e) : TyX K H (.ref p) (.ref R) := by
  obtain ⟨dx, z⟩ := h
  exact .base (.ins z T.cl T.cC T.cG T.cT T.cM)
theorem dec_fv (a b : Option Nat) : decide (fv a = fv b) = decide (a = b) := by
  by_cases h : a = b
  · rw [decide_eq_true h, decide_eq_true (fv_inj.mpr h)]
  · rw [decide_eq_false h, decide_eq_false fun z => h (fv_inj.mp z)]
theorem ok_row_eq {f : Addr} {fd : FuncData} (F : Fun K "__eq__" "Row.__eq__" s_Row_eq f fd) (T : RowC K mg R) (gR : mg "Row" = some (.ref R)) (isi : mg "isinstance" = none) (nB : NoAttr K R "_beginner") (nE : NoAttr K R "_ender") : FnOk P w K mg base CX0 1 f fd ["self", "other"] (spRowEq K R) := by
  refine F.ok sc_Row_eq (fun vs H Q E h => ?_) (fun cdv A outer s H vs Q E hr h => ?_)
  · obtain ⟨p, y, b, e, rfl, _⟩ := h
    rfl
  · obtain ⟨p, y, b, e, rfl, hp, h⟩ := h
    refine ⟨_, pss_one (ps_ret (pe_and (pe_callB call_isi (by rfl) isi (by decide +kernel) (pa_cons (pv 1) (pa_cons (pe_glob (v := .ref R) (by rfl) gR rfl) pa_nil)))
      (pe_and (pe_cmpR op_eq (pe_fld (pv 0) rfl) (pe_fld (pv 1) rfl) (nomark _)) (pe_one (pe_cmpR op_eq (pe_fld (pv 0) rfl) (pe_fld (pv 1) rfl) (nomark _)))))), ?_⟩
    rcases h with ⟨r, b', e', rfl, hy, q⟩ | ⟨t, ty, k, q⟩
    · refine ⟨_, rfl, .ref r, .ref R, .ref R, .ref R, true, rfl, .own R, T.ty hy, T.kk, true, rfl, iteT ?_⟩
      obtain ⟨dx, hp⟩ := hp
      obtain ⟨dy, hy⟩ := hy
      refine ⟨_, rfl, p, R, dx, _, _, rfl, hp, T.cl, nB, rfl, _, rfl, r, R, dy, _, _, rfl, hy, T.cl, nB, rfl, scal_fv _ _, _, rfl, ?_⟩
      rw [dec_fv]
      by_cases h1 : b = b'
      · rw [decide_eq_true h1]
        refine iteT ⟨_, rfl, p, R, dx, _, _, rfl, hp, T.cl, nE, rfl, _, rfl, r, R, dy, _, _, rfl, hy, T.cl, nE, rfl, scal_fv _ _, ?_⟩
        rw [dec_fv]
        have e1 : decide (b = b' ∧ e = e') = decide (e = e') := by simp [h1]
        rw [e1] at q
        exact q
      · rw [decide_eq_false h1]
        have e1 : decide (b = b' ∧ e = e') = false := by simp [h1]
        rw [e1] at q
        exact iteF q
    · exact ⟨_, rfl, y, .ref R, t, .ref R, false, rfl, .own R, ty, k, false, rfl, iteF q⟩
end
end Toy
set_option Elab.async false
set_option linter.all false
set_option maxRecDepth 100000
set_option maxHeartbeats 2000000
namespace Toy
open PySem PySem.Spec PyProof.Rows L2
/-! ### the pot of drawn numbers -/
def Pot (H : Hp) (p c : Addr) : Prop := ∃ (cs : List Int) (at_ : Nat) (x : Int), H p = some (.lst [.ref c, .int at_, .int x]) ∧ H c = some (.lst (cs.map V.int)) ∧ cs.length ≤ 63 ∧ 0 ≤ x ∧ x < 2147483647
theorem Pot.ne {H : Hp} {p c : Addr} (h : Pot H p c) : p ≠ c := by
  obtain ⟨cs, a, x, h1, h2, _⟩ := h
  intro e
  rw [e, h2] at h1
  injection h1 with h1
  injection h1 with h1
  cases cs with
  | nil => cases h1
  | cons y r => injection h1 with z; cases z
theorem Pot.same {H H' : Hp} {p c : Addr} (h : Pot H p c) (s : Same H H') : Pot H' p c := by
  obtain ⟨cs, a, x, h1, h2, r⟩ := h
  exact ⟨cs, a, x, s _ _ h1, s _ _ h2, r⟩
/-- all but the pot stays -/
def Kept (p c : Addr) (H H' : Hp) : Prop := ∀ b o, b ≠ p → b ≠ c → H b = some o → H' b = some o
theorem Kept.rfl' {p c : Addr} {H : Hp} : Kept p c H H := fun _ _ _ _ e => e
theorem Kept.trans {p c : Addr} {H H1 H2 : Hp} (a : Kept p c H H1) (b : Kept p c H1 H2) : Kept p c H H2 := fun x o n m e => b x o n m (a x o n m e)
theorem Kept.of_same {p c : Addr} {H H' : Hp} (s : Same H H') : Kept p c H H' := fun b o _ _ e => s b o e
theorem ixN_nat {n k : Nat} (h : k < n) : ixN n (k : Int) = some k := by
  unfold ixN
  rw [if_pos (Int.natCast_nonneg _), if_pos (by omega), Int.toNat_natCast]
theorem cut63 {xs : List V} (h : xs.length ≤ 63) : cutV xs none (some 63) = xs := by
  unfold cutV
  rw [HT.sIx_none, show HT.sIx xs.length xs.length (some 63) = min 63 xs.length from HT.sIx_nat xs.length xs.length 63, List.drop_zero, Nat.sub_zero]
  exact List.take_of_length_le (by omega)
section
variable {P : Program} {w : World} {K : PySem.W.Frag} {mg : Str → Option Value} {base : Heap} {C : Addr}
def spPot (K : PySem.W.Frag) : Sp := fun vs H Q _ => ∃ (a : Addr) (ns : List Int), vs = [.ref a] ∧ SqL K H a (ns.map V.int) ∧ ns.length ≤ 63 ∧ ∀ H' p c, Same H H' → H p = none → H c = none → Pot H' p c → Q (.ref p) H'
theorem ok_pot {f : Addr} {fd : FuncData} (F : Fun K "_law_pot" "_law_pot" s_law_pot f fd) (mi : mg "int" = none) : FnOk P w K mg base CX0 1 f fd ["script"] (spPot K) := by
  refine F.ok sc_law_pot (fun vs H Q E h => ?_) (fun cdv A outer s H vs Q E hr h => ?_)
  · obtain ⟨a, ns, rfl, _⟩ := h
    rfl
  · obtain ⟨a, ns, rfl, hS, hn, q⟩ := h
    refine ⟨_, pss_one (ps_ret (pe_lst (pa_cons (pe_lc (own := [("cell", 1)]) (g := gName 1) (tt := tYes) rfl sc_law_pot.nd (pi_list (pe_slice sl_list (pv 0) po_none (po_some pe_int)))
        (blkOk_by (own := [("cell", 1)]) (N := ["script", "cell"]) (sc := defScope s_law_pot) (by decide +kernel)) (fun _ _ _ _ _ => pg_name (i := 1) sc_law_pot.nd rfl (Or.inl rfl))
        (fun _ _ _ _ _ => pts_nil) (fun _ _ _ _ _ => pe_callTy call_int1 (by rfl) mi (by decide +kernel) (pa_cons (pv 1) pa_nil))) (pa_cons pe_int (pa_cons pe_int pa_nil))))), ?_⟩
    refine ⟨.ref a, rfl, 63, rfl, a, _, rfl, hS, fun b nb => ?_⟩
    rw [cut63 (by rw [List.length_map]; exact hn)]
    refine ⟨b, rfl, ⟨_, SqL.of upd_same⟩, fun D hD => ?_⟩
    have hb : (upd H b (.lst (ns.map V.int))) b = some (.lst (ns.map V.int)) := upd_same
    have s1 : Same H (upd H b (.lst (ns.map V.int))) := same_upd nb
    have hD0 : H D = none := s1.free hD
    refine lc_list (K := K) (a := b) (xs := ns.map V.int) (fun i H2 => Same (upd H b (.lst (ns.map V.int))) H2 ∧ H2 D = some (.lst ((ns.take i).map V.int))) ⟨same_upd hD, upd_same⟩ (fun i H2 _ z => SqL.of (z.1 _ _ hb)) ?_ ?_
    · rintro i x H2 hx ⟨s2, e2⟩
      obtain ⟨n, hi, rfl⟩ : ∃ n, ns[i]? = some n ∧ x = V.int n := by
        rw [List.getElem?_map] at hx
        cases e : ns[i]? with
        | none => rw [e] at hx; cases hx
        | some n => rw [e] at hx; exact ⟨n, rfl, (Option.some.inj hx).symm⟩
      refine ⟨rfl, ?_⟩
      refine ⟨_, rfl, .inl ⟨n, rfl, _, e2, ?_, fun d o e => ?_, ?_⟩⟩
      · rw [List.length_map, List.length_take]
        exact Nat.lt_of_le_of_lt (Nat.le_trans (Nat.min_le_right _ _) hn) (by decide)
      · rw [upd_ne (ne_of_none e hD)]
        exact s2 _ _ e
      · rw [upd_same, List.take_add_one, hi, List.map_append]
        rfl
    · rintro H2 ⟨s2, e2⟩
      rw [List.length_map, List.take_length] at e2
      refine ⟨(by show 3 ≤ sizeLine; decide), fun p np => ?_⟩
      have s3 : Same H (upd H2 p (.lst [.ref D, .int 0, .int 7])) := s1.trans (s2.trans (same_upd np))
      have hDp : D ≠ p := ne_of_none e2 np
      refine q _ p D s3 ((s1.trans s2).free np) hD0 ⟨ns, 0, 7, upd_same, by rw [upd_ne hDp]; exact e2, hn, by decide, by decide⟩
/-! ### a draw -/
def spDraw : Sp := fun vs H Q _ => ∃ (p c : Addr) (m : Int), vs = [.ref p, .int m] ∧ Pot H p c ∧ 0 < m ∧ m ≤ 2147483648 ∧ ∀ H' r, Pot H' p c → Kept p c H H' → 0 ≤ r → r < m → Q (.int r) H'
theorem fmod_lt {a m : Int} (h : 0 < m) : 0 ≤ a.fmod m ∧ a.fmod m < m := by
  rw [Int.fmod_eq_emod_of_nonneg _ (Int.le_of_lt h)]
  exact ⟨Int.emod_nonneg _ (by omega), Int.emod_lt_of_pos _ h⟩
def nxt (x cell : Int) : Int := (x * 48271 + cell * 69621 + 11).fmod 2147483647
theorem ok_draw {f : Addr} {fd : FuncData} (F : Fun K "_law_draw" "_law_draw" s_law_draw f fd) (mi : mg "int" = none) (ml : mg "len" = none) : FnOk P w K mg base CX0 1 f fd ["pot", "many"] spDraw := by
  refine F.ok sc_law_draw (fun vs H Q E h => ?_) (fun cdv A outer s H vs Q E hr h => ?_)
  · obtain ⟨p, c, m, rfl, _⟩ := h
    rfl
  · obtain ⟨p, c, m, rfl, hP, hm, hm2, q⟩ := h
    refine ⟨_, pss_cons (ps_set (i := 2) sc_law_draw.nd rfl (Or.inl rfl) (pe_ix ix_list (pv 0) pe_int (fun _ _ => rfl)))
      (pss_cons (ps_set (i := 3) sc_law_draw.nd rfl (Or.inl rfl) (pe_ix ix_list (pv 0) pe_int (fun _ _ => rfl)))
      (pss_cons (ps_set (i := 4) sc_law_draw.nd rfl (Or.inl rfl) pe_int)
      (C8.pss_cut (ps_if (pt_cmpR op_lt (pv 3) (pe_callB call_len_seq (by rfl) ml PySem.boot_len (pa_cons (pv 2) pa_nil)) (nomark _))
        (pss_cons (ps_set (i := 4) sc_law_draw.nd rfl (Or.inl rfl) (pe_ix ix_list (pv 2) (pv 3) (fun _ _ => rfl)))
        (pss_cons (ps_if (pt_cmpR op_ge (pv 4) (pe_op op_pow pe_int pe_int) (nomark _))
          (pss_cons (ps_asg (pe_op op_fdivW (pv 4) (pv 1)) (pg_sub (pv 2) (pv 3) set_list))
          (pss_one (ps_ret (pe_op op_modN (pe_callTy call_int1 (by rfl) mi (by decide +kernel) (pa_cons (pv 4) pa_nil)) (pv 1))))) pss_nil)
        (pss_one (ps_asg (pe_op op_add (pv 3) pe_int) (pg_sub (pv 0) pe_int set_list))))) pss_nil)
      (pss_cons (ps_asg (pe_op op_modN (pe_callTy call_int1 (by rfl) mi (by decide +kernel) (pa_cons (pe_op op_add (pe_op op_add (pe_op op_mul (pe_ix ix_list (pv 0) pe_int (fun _ _ => rfl)) pe_int) (pe_op op_mul (pv 4) pe_int)) pe_int) pa_nil)) pe_int) (pg_sub (pv 0) pe_int set_list))
      (pss_one (ps_ret (pe_op op_modN (pe_callTy call_int1 (by rfl) mi (by decide +kernel) (pa_cons (pe_op op_add (pe_op op_fdivN (pe_op op_mul (pe_ix ix_list (pv 0) pe_int (fun _ _ => rfl)) pe_int) pe_int) (pe_ix ix_list (pv 0) pe_int (fun _ _ => rfl))) pa_nil)) (pv 1)))))))), ?_⟩
    have pc : p ≠ c := hP.ne
    obtain ⟨cs, at_, x, h1, h2, hl, x0, x1⟩ := hP
    refine ⟨_, rfl, p, _, _, _, rfl, rfl, SqL.of h1, rfl, ?_⟩
    refine ⟨_, rfl, p, _, _, _, rfl, rfl, SqL.of h1, rfl, ?_⟩
    refine ⟨fun σ' H' => ∃ (a : Nat) (cell : Int), σ' = [some (.ref p), some (.int m), some (.ref c), some (.int at_), some (.int cell)] ∧ H' p = some (.lst [.ref c, .int a, .int x]) ∧ H' c = some (.lst (cs.map V.int)) ∧ Kept p c H H', ?_, ?_⟩
    · refine ⟨_, rfl, _, rfl, c, _, rfl, .inl (SqL.of h2), _, _, rfl, rfl, _, rfl, ?_⟩
      rw [List.length_map]
      refine ite2 (fun hlt => ?_) (fun _ => ⟨at_, 0, rfl, h1, h2, Kept.rfl'⟩)
      have hi : at_ < cs.length := by have := of_decide_eq_true hlt; omega
      have hg : (cs.map V.int)[at_]? = some (.int cs[at_]) := by rw [List.getElem?_map, List.getElem?_eq_getElem hi]; rfl
      refine ⟨_, rfl, _, rfl, c, _, _, _, rfl, rfl, SqL.of h2, atI_nat hg, ?_⟩
      refine ⟨_, rfl, 10, 18, rfl, rfl, ⟨by decide, by decide, by decide⟩, _, _, rfl, rfl, _, rfl, ?_⟩
      refine ite2 (fun _ => ?_) (fun _ => ?_)
      · refine ⟨_, rfl, _, rfl, _, _, rfl, rfl, wide_div (b := 32) hm (by omega) (by decide) (by decide), _, rfl, _, rfl, c, _, _, at_, rfl, rfl, h2, ixN_nat (by rw [List.length_map]; exact hi), ?_⟩
        refine ⟨_, rfl, .inl ⟨_, rfl, _, rfl, _, _, rfl, rfl, by omega, ?_⟩⟩
        have f := fmod_lt (a := cs[at_]) hm
        refine q _ _ ⟨cs.set at_ (cs[at_] / m), at_, x, by rw [upd_ne pc]; exact h1, ?_, by rw [List.length_set]; exact hl, x0, x1⟩ (fun b o n1 n2 e => ?_) f.1 f.2
        · rw [upd_same, List.map_set]
        · rw [upd_ne n2]
          exact e
      · refine ⟨_, rfl, _, _, rfl, rfl, _, rfl, p, _, _, 1, rfl, rfl, h1, rfl, ?_⟩
        refine ⟨at_ + 1, cs[at_], rfl, ?_, by rw [upd_ne pc.symm]; exact h2, fun b o n1 n2 e => ?_⟩
        · rw [upd_same]
          rfl
        · rw [upd_ne n1]
          exact e
    · rintro σ' H1 ⟨a, cell, rfl, g1, g2, kp⟩
      refine ⟨_, rfl, p, _, _, _, rfl, rfl, SqL.of g1, rfl, _, _, rfl, rfl, .inl ⟨by omega, by omega⟩, _, rfl, _, _, rfl, rfl, .inr ⟨by decide, by decide⟩, _, _, rfl, rfl, _, _, rfl, rfl, .inl ⟨_, rfl, _, _, rfl, rfl, (show (2147483647 : Int) ≠ 0 by decide), _, rfl, p, _, _, 2, rfl, rfl, g1, rfl, ?_⟩⟩
      have fy : 0 ≤ nxt x cell ∧ nxt x cell < 2147483647 := fmod_lt (by decide)
      have g3 : (upd H1 p (.lst ([V.ref c, V.int a, V.int x].set 2 (V.int (nxt x cell))))) p = some (.lst [V.ref c, V.int a, V.int (nxt x cell)]) := upd_same
      refine ⟨_, rfl, p, _, _, _, rfl, rfl, SqL.of g3, rfl, _, _, rfl, rfl, .inl ⟨by omega, by omega⟩, _, _, rfl, rfl, ⟨by decide, by decide⟩, _, rfl, p, _, _, _, rfl, rfl, SqL.of g3, rfl, _, _, rfl, rfl, .inl ⟨_, rfl, _, rfl, _, _, rfl, rfl, by omega, ?_⟩⟩
      have f := fmod_lt (a := (nxt x cell * 16807).fdiv 128 + nxt x cell) hm
      refine q _ _ ⟨cs, a, nxt x cell, g3, by rw [upd_ne pc.symm]; exact g2, hl, fy.1, fy.2⟩ (fun b o n1 n2 e => ?_) f.1 f.2
      rw [upd_ne n1]
      exact kp b o n1 n2 e
end
end Toy
set_option Elab.async false
set_option linter.all false
set_option maxRecDepth 100000
set_option maxHeartbeats 2000000
namespace Toy
open PySem PySem.Spec PyProof.Rows L2
/-! ### lists of numbers as data -/
def dk (k : Nat) : PyData := .int k
theorem dpAll_vi {K : PySem.W.Frag} {H : Hp} : ∀ ws : List Nat, DpAll K H (ws.map vi) (ws.map dk)
  | [] => .nil
  | k :: r => .cons (.int _) (dpAll_vi r)
theorem dp_vi {K : PySem.W.Frag} {H : Hp} {a : Addr} {ws : List Nat} (h : H a = some (.lst (ws.map vi))) : Dp K H (.ref a) (.list (ws.map dk)) := .lst (SqL.of h) (dpAll_vi ws)
theorem can_dk : ∀ ws : List Nat, PyData.canLayAll0 (ws.map dk) = true
  | [] => rfl
  | k :: r => by
    rw [List.map_cons]
    show (PyData.canLay0 (.int k) && PyData.canLayAll0 (r.map dk)) = true
    rw [can_dk r]
    rfl
theorem dep_dk : ∀ ws : List Nat, PyData.depthAll (ws.map dk) ≤ 1
  | [] => by decide
  | k :: r => by
    have ih := dep_dk r
    rw [List.map_cons]
    have e : PyData.depthAll (dk k :: r.map dk) = max (PyData.depth (dk k)) (PyData.depthAll (r.map dk)) := rfl
    have e2 : PyData.depth (dk k) ≤ 1 := by first | exact Nat.zero_le _ | exact Nat.le_refl _ | (show (0 : Nat) ≤ 1; decide) | (show (1 : Nat) ≤ 1; decide)
    rw [e]
    omega
theorem shp_dk (ws : List Nat) : SeqAt.shaped (.list (ws.map dk)) = true := by
  have h1 := can_dk ws
  have h2 := dep_dk ws
  unfold SeqAt.shaped
  rw [Bool.and_eq_true]
  refine ⟨h1, decide_eq_true ?_⟩
  have e : PyData.depth (.list (ws.map dk)) = PyData.depthAll (ws.map dk) + 1 := rfl
  omega
theorem eqv_dk : ∀ ws us : List Nat, PyData.eqvAll (ws.map dk) (us.map dk) = decide (ws = us)
  | [], [] => rfl
  | [], _ :: _ => rfl
  | _ :: _, [] => rfl
  | a :: r, b :: t => by
    show ((((a : Nat) : Int) == ((b : Nat) : Int)) && PyData.eqvAll (r.map dk) (t.map dk)) = _
    rw [eqv_dk r t]
    by_cases h : a = b
    · subst h
      simp
    · have h1 : (((a : Nat) : Int) == ((b : Nat) : Int)) = false := by simp; omega
      rw [h1]
      simp [h]
/-! ### the numbers of lists -/
def num (ws : List Nat) (z : Nat) : Nat := ws.foldl (fun a w => a ||| 2 ^ w) z
theorem num_bit : ∀ (ws : List Nat) (z k : Nat), (num ws z).testBit k = (z.testBit k || decide (k ∈ ws))
  | [], z, k => by simp [num]
  | w :: r, z, k => by
    show (num r (z ||| 2 ^ w)).testBit k = _
    rw [num_bit r, Nat.testBit_or, Nat.testBit_two_pow]
    by_cases h : w = k
    · subst h
      simp
    · have h2 : k ≠ w := fun e => h e.symm
      simp [h, h2]
theorem num_lt : ∀ (ws : List Nat) (z : Nat), (∀ w ∈ ws, w < 31) → z < 2147483648 → num ws z < 2147483648
  | [], _, _, hz => hz
  | w :: r, z, h, hz => num_lt r (z ||| 2 ^ w) (fun v hv => h v (List.mem_cons_of_mem _ hv)) (Nat.or_lt_two_pow (n := 31) hz (two_pow_lt (by have := h w (List.mem_cons_self); omega)))
theorem num_bits {n : Nat} (h : n < 2147483648) : num (bits n) 0 = n := by
  apply Nat.eq_of_testBit_eq
  intro k
  rw [num_bit, Nat.zero_testBit, Bool.false_or]
  by_cases hk : k < 31
  · by_cases hb : n.testBit k = true
    · rw [hb]
      exact decide_eq_true (mem_bits.mpr ⟨hk, hb⟩)
    · have hb' : n.testBit k = false := by simpa using hb
      rw [hb']
      exact decide_eq_false fun z => hb (mem_bits.mp z).2
  · rw [decide_eq_false fun z => hk (mem_bits.mp z).1]
    exact (Nat.testBit_lt_two_pow (Nat.lt_of_lt_of_le h (Nat.pow_le_pow_right (n := 2) (by decide) (show 31 ≤ k by omega)))).symm
theorem bits_num {ws : List Nat} (h : ∀ w ∈ ws, w < 31) : (List.range 31).filter (fun k => decide (k ∈ ws)) = bits (num ws 0) := by
  unfold bits
  apply List.filter_congr
  intro k hk
  rw [num_bit, Nat.zero_testBit, Bool.false_or]
theorem bits_inj {n m : Nat} (hn : n < 2147483648) (hm : m < 2147483648) (h : bits n = bits m) : n = m := by
  rw [← num_bits hn, ← num_bits hm, h]
theorem bits_dec {n m : Nat} (hn : n < 2147483648) (hm : m < 2147483648) : decide (bits n = bits m) = decide (n = m) := by
  by_cases h : n = m
  · subst h
    simp
  · rw [decide_eq_false h, decide_eq_false fun z => h (bits_inj hn hm z)]
theorem inside_dec {n m : Nat} (hn : n < 2147483648) : decide ((bits n).filter (fun k => !decide (k ∈ bits m)) = []) = decide (n &&& m = n) := by
  by_cases h : n &&& m = n
  · rw [decide_eq_true h]
    refine decide_eq_true (List.filter_eq_nil_iff.mpr fun k hk => ?_)
    obtain ⟨h1, h2⟩ := mem_bits.mp hk
    have h3 : m.testBit k = true := by
      have z : (n &&& m).testBit k = true := by rw [h]; exact h2
      rw [Nat.testBit_and, Bool.and_eq_true] at z
      exact z.2
    simp [mem_bits.mpr ⟨h1, h3⟩]
  · rw [decide_eq_false h]
    refine decide_eq_false fun z => h ?_
    apply Nat.eq_of_testBit_eq
    intro k
    rw [Nat.testBit_and]
    by_cases hb : n.testBit k = true
    · have hk : k < 31 := by
        rcases Nat.lt_or_ge k 31 with y | y
        · exact y
        · rw [Nat.testBit_lt_two_pow (Nat.lt_of_lt_of_le hn (Nat.pow_le_pow_right (n := 2) (by decide) y))] at hb
          cases hb
      have y := List.filter_eq_nil_iff.mp z k (mem_bits.mpr ⟨hk, hb⟩)
      have y2 : k ∈ bits m := by simpa using y
      rw [hb, (mem_bits.mp y2).2]
      rfl
    · have hb' : n.testBit k = false := by simpa using hb
      rw [hb']
      rfl
section
variable {P : Program} {w : World} {K : PySem.W.Frag} {mg : Str → Option Value} {base : Heap} {C : Addr}
/-! ### _law_bits -/
def spBits : Sp := fun vs H Q _ => ∃ n : Nat, vs = [vi n] ∧ n < 2147483648 ∧ ∀ H' l, Same H H' → H l = none → H' l = some (.lst ((bits n).map vi)) → Q (.ref l) H'
theorem bit_div (n i : Nat) : decide (V.int (((n / 2 ^ i : Nat) : Int).fmod 2) = V.int 1) = n.testBit i := by
  have e : ((n / 2 ^ i : Nat) : Int).fmod 2 = ((n / 2 ^ i % 2 : Nat) : Int) := by
    rw [Int.fmod_eq_emod_of_nonneg _ (by decide)]
    rfl
  rw [e, Nat.testBit_eq_decide_div_mod_eq]
  exact dec_int _ 1
theorem ok_bits {f : Addr} {fd : FuncData} (F : Fun K "_law_bits" "_law_bits" s_law_bits f fd) (mi : mg "int" = none) (mr : mg "range" = none) : FnOk P w K mg base CX0 1 f fd ["number"] spBits := by
  refine F.ok sc_law_bits (fun vs H Q E h => ?_) (fun cdv A outer s H vs Q E hr h => ?_)
  · obtain ⟨n, rfl, _⟩ := h
    rfl
  · obtain ⟨n, rfl, hn, q⟩ := h
    refine ⟨_, pss_cons (ps_set (i := 1) sc_law_bits.nd rfl (Or.inl rfl) (pe_lst pa_nil))
      (pss_cons (ps_for PassesOwn.never rfl (pi_range1 (by rfl) mr (pa_cons pe_int pa_nil)) (pg_name (i := 2) sc_law_bits.nd rfl (Or.inl rfl))
        (C8.pss_cut (ps_if (pt_cmpR op_eq (pe_op op_modN (pe_callTy call_int1 (by rfl) mi (by decide +kernel) (pa_cons (pv 0) pa_nil)) pe_int) pe_int (nomark _))
            (pss_one (ps_expr (pe_bm PySem.F.plainAttrs_list PySem.F.slot_list_append PySem.F.type_list_append mt_append (pv 1) (pa_cons (pv 2) pa_nil)))) pss_nil)
          (pss_one (ps_set (i := 0) sc_law_bits.nd rfl (Or.inl rfl) (pe_op op_fdivN (pv 0) pe_int)))))
      (pss_one (ps_ret (pv 1)))), ?_⟩
    refine ⟨Nat.zero_le _, fun l nl => ?_⟩
    refine ⟨31, rfl, by decide, by decide, for_range (n := 31) (fun i σ H' => ∃ v, σ = [some (vi (n / 2 ^ i)), some (.ref l), v] ∧ Same H H' ∧ H' l = some (.lst (((List.range i).filter fun k => n.testBit k).map vi))) ⟨none, by rw [Nat.pow_zero, Nat.div_one]; rfl, same_upd nl, upd_same⟩ ?_ ?_⟩
    · rintro i σ H' hi ⟨v, rfl, s1, e1⟩
      refine ⟨fun σ' H2 => σ' = [some (vi (n / 2 ^ i)), some (.ref l), some (.int (0 + (i : Int)))] ∧ Same H H2 ∧ H2 l = some (.lst (((List.range (i + 1)).filter fun k => n.testBit k).map vi)), ?_, ?_⟩
      · refine ⟨_, rfl, .inl ⟨_, rfl, _, _, rfl, rfl, (show (2 : Int) ≠ 0 by decide), rfl, _, rfl, ?_⟩⟩
        show if decide (V.int (((n / 2 ^ i : Nat) : Int).fmod 2) = V.int 1) = true then _ else _
        rw [bit_div]
        refine ite2 (fun hb => ?_) (fun hb => ?_)
        · refine ⟨_, rfl, .inl ⟨rfl, _, SqL.of e1⟩, _, rfl, l, _, _, rfl, rfl, e1, acc_len _ hi, rfl, fun b o e => ?_, ?_⟩
          · rw [upd_ne (ne_of_none e nl)]
            exact s1 _ _ e
          · rw [upd_same, bits_succ, if_pos hb, List.map_append, Int.zero_add]
            rfl
        · refine ⟨rfl, s1, ?_⟩
          rw [bits_succ, if_neg hb]
          exact e1
      · rintro σ' H2 ⟨rfl, s2, e2⟩
        refine ⟨_, rfl, _, _, rfl, rfl, ⟨by decide, by decide⟩, some (.int (0 + (i : Int))), ?_, s2, e2⟩
        show [some (V.int (((n / 2 ^ i : Nat) : Int).fdiv 2)), some (V.ref l), some (V.int (0 + (i : Int)))] = _
        have e : ((n / 2 ^ i : Nat) : Int).fdiv 2 = ((n / 2 ^ (i + 1) : Nat) : Int) := by
          rw [Int.fdiv_eq_ediv_of_nonneg _ (by decide), Nat.pow_succ, ← Nat.div_div_eq_div_mul]
          rfl
        rw [e]
        rfl
    · rintro σ H' ⟨v, rfl, s1, e1⟩
      exact ⟨_, rfl, q H' l s1 nl e1⟩
end
end Toy
set_option Elab.async false
set_option linter.all false
set_option maxRecDepth 100000
set_option maxHeartbeats 4000000
namespace Toy
open PySem PySem.Spec PyProof.Rows L2
section
variable {P : Program} {w : World} {K : PySem.W.Frag} {mg : Str → Option Value} {base : Heap} {C R B : Addr}
structure Drw (P : Program) (w : World) (K : PySem.W.Frag) (mg : Str → Option Value) (base : Heap) (fD : Addr) (fdD : FuncData) : Prop where
  G : FnOk P w K mg base CX0 1 fD fdD ["pot", "many"] spDraw
  k : PySem.W.keepIn K (.ref fD) = true
  b : L2.Binds K fdD ["pot", "many"] []
  g : mg "_law_draw" = some (.ref fD)
/-! ### _law_writer -/
def spWtr : Sp := fun vs H Q _ => ∃ (p c : Addr), vs = [.ref p] ∧ Pot H p c ∧ ∀ H' o, Pot H' p c → Kept p c H H' → fok o → Q (fv o) H'
theorem ok_wtr {f fD : Addr} {fd fdD : FuncData} (F : Fun K "_law_writer" "_law_writer" s_law_writer f fd) (D : Drw P w K mg base fD fdD) : FnOk P w K mg base CX0 2 f fd ["pot"] spWtr := by
  refine F.ok sc_law_writer (fun vs H Q E h => ?_) (fun cdv A outer s H vs Q E hr h => ?_)
  · obtain ⟨p, c, rfl, _⟩ := h
    rfl
  · obtain ⟨p, c, rfl, hP, q⟩ := h
    refine ⟨_, pss_cons (ps_set (i := 1) sc_law_writer.nd rfl (Or.inl rfl) (pe_call D.G hr (by rfl) D.g D.k D.b .nil pass0 (pa_cons (pv 0) (pa_cons pe_int pa_nil))))
      (pss_one (ps_ret (pe_ifExp (pt_cmpR op_gt (pv 1) pe_int (nomark _)) pe_non (pv 1)))), ?_⟩
    refine ⟨_, rfl, p, c, 40, rfl, hP, by decide, by decide, fun H1 d P1 K1 d0 d1 => ⟨_, rfl, d, 30, rfl, rfl, _, rfl, ?_⟩⟩
    refine ite2 (fun h => q H1 none P1 K1 (fun k z => nomatch z)) (fun h => ⟨_, rfl, ?_⟩)
    have h30 : ¬ d > 30 := fun z => h (decide_eq_true z)
    obtain ⟨k, rfl⟩ := Int.eq_ofNat_of_zero_le d0
    refine q H1 (some k) P1 K1 (fun j z => ?_)
    cases z
    omega
/-! ### _law_odd -/
def Odd (K : PySem.W.Frag) (p c : Addr) (H : Hp) (v : V) : Prop := ∃ o, btw o 0 30 = false ∧ ∀ H2, Kept p c H H2 → NV K H2 v o
def spOdd (K : PySem.W.Frag) : Sp := fun vs H Q _ => ∃ (p c : Addr), vs = [.ref p] ∧ Pot H p c ∧ ∀ H' v, Pot H' p c → Kept p c H H' → Odd K p c H' v → Q v H'
theorem get10 {a b c d e f g h i j x : V} {n : Int} (h0 : 0 ≤ n) (h1 : n < 10) (P : V → Prop) (ha : P a) (hb : P b) (hc : P c) (hd : P d) (he : P e) (hf : P f) (hg : P g) (hh : P h) (hi : P i) (hj : P j) : ∃ v, atI [a, b, c, d, e, f, g, h, i, j] n = some v ∧ P v := by
  obtain ⟨k, rfl⟩ := Int.eq_ofNat_of_zero_le h0
  have hk : k < 10 := by omega
  match k, hk with
  | 0, _ => exact ⟨_, rfl, ha⟩
  | 1, _ => exact ⟨_, rfl, hb⟩
  | 2, _ => exact ⟨_, rfl, hc⟩
  | 3, _ => exact ⟨_, rfl, hd⟩
  | 4, _ => exact ⟨_, rfl, he⟩
  | 5, _ => exact ⟨_, rfl, hf⟩
  | 6, _ => exact ⟨_, rfl, hg⟩
  | 7, _ => exact ⟨_, rfl, hh⟩
  | 8, _ => exact ⟨_, rfl, hi⟩
  | 9, _ => exact ⟨_, rfl, hj⟩
  | (k + 10), z => exact absurd z (by omega)
theorem ok_odd {f fD : Addr} {fd fdD : FuncData} (F : Fun K "_law_odd" "_law_odd" s_law_odd f fd) (D : Drw P w K mg base fD fdD) : FnOk P w K mg base CX0 2 f fd ["pot"] (spOdd K) := by
  refine F.ok sc_law_odd (fun vs H Q E h => ?_) (fun cdv A outer s H vs Q E hr h => ?_)
  · obtain ⟨p, c, rfl, _⟩ := h
    rfl
  · obtain ⟨p, c, rfl, hP, q⟩ := h
    refine ⟨_, pss_cons (ps_set (i := 1) sc_law_odd.nd rfl (Or.inl rfl) (pe_lst (pa_cons pe_non (pa_cons pe_bl (pa_cons pe_bl (pa_cons pe_str (pa_cons pe_str (pa_cons (pe_tup (pa_cons pe_int pa_nil)) (pa_cons (pe_lst (pa_cons pe_int pa_nil)) (pa_cons (pe_un un_neg pe_int) (pa_cons pe_int (pa_cons (pe_op op_pow pe_int pe_int) pa_nil))))))))))))
      (pss_one (ps_ret (pe_ix ix_list (pv 1) (pe_call D.G hr (by rfl) D.g D.k D.b .nil pass0 (pa_cons (pv 0) (pa_cons pe_int pa_nil))) (fun _ _ => rfl)))), ?_⟩
    refine ⟨by decide, fun t nt => ⟨by decide, fun l nl => ⟨1, rfl, 10, 24, rfl, rfl, ⟨by decide, by decide, by decide⟩, (by show 10 ≤ sizeLine; decide), fun a na => ?_⟩⟩⟩
    have s1 := same_upd (o := .tup [V.int 1]) nt
    have s2 := same_upd (o := .lst [V.int 1]) nl
    have s3 := s1.trans (s2.trans (same_upd (o := .lst [V.non, V.bl true, V.bl false, V.str "1", V.str "", V.ref t, V.ref l, V.int (-1), V.int 31, V.int (10 ^ (24 : Int).toNat)]) na))
    refine ⟨_, rfl, _, rfl, p, c, 10, rfl, hP.same s3, by decide, by decide, fun H1 d P1 K1 d0 d1 => ?_⟩
    obtain ⟨cs, at_, x, hp0, hc0, _⟩ := id hP
    have ap : a ≠ p := (ne_of_none (s1.trans s2 _ _ hp0) na).symm
    have ac : a ≠ c := (ne_of_none (s1.trans s2 _ _ hc0) na).symm
    have lp : l ≠ p := (ne_of_none (s1 _ _ hp0) nl).symm
    have lc : l ≠ c := (ne_of_none (s1 _ _ hc0) nl).symm
    have tp : t ≠ p := (ne_of_none hp0 nt).symm
    have tc : t ≠ c := (ne_of_none hc0 nt).symm
    have e1 := K1 a _ ap ac upd_same
    have et := K1 t _ tp tc ((same_upd na) _ _ (s2 _ _ upd_same))
    have el := K1 l _ lp lc ((same_upd na) _ _ upd_same)
    obtain ⟨v, hv, ov⟩ := get10 d0 d1 (Odd K p c H1) ⟨none, rfl, fun _ _ => NV.non⟩ ⟨none, rfl, fun _ _ => .bl true⟩ ⟨none, rfl, fun _ _ => .bl false⟩ ⟨none, rfl, fun _ _ => NV.str "1"⟩ ⟨none, rfl, fun _ _ => NV.str ""⟩ ⟨none, rfl, fun _ k => NV.tup (k t _ tp tc et)⟩ ⟨none, rfl, fun _ k => NV.lst (k l _ lp lc el)⟩ ⟨some (-1), by decide, fun _ _ => .int (-1)⟩ ⟨some 31, by decide, fun _ _ => .int 31⟩ ⟨some (10 ^ (24 : Int).toNat), by decide, fun _ _ => .int (10 ^ (24 : Int).toNat)⟩ (x := .non)
    exact ⟨a, _, _, _, rfl, rfl, SqL.of e1, hv, q H1 v P1 ((Kept.of_same s3).trans K1) ov⟩
/-! ### _law_is_wrong -/
def spWrong (K : PySem.W.Frag) : Sp := fun vs H Q _ => ∃ (v : V) (o : Option Int), vs = [v] ∧ NV K H v o ∧ Q (.bl (!okf v o)) H
theorem ok_wrong {f : Addr} {fd : FuncData} (F : Fun K "_law_is_wrong" "_law_is_wrong" s_law_is_wrong f fd) (T : NmI mg) : FnOk P w K mg base CX0 1 f fd ["value"] (spWrong K) := by
  refine F.ok sc_law_is_wrong (fun vs H Q E h => ?_) (fun cdv A outer s H vs Q E hr h => ?_)
  · obtain ⟨v, o, rfl, _⟩ := h
    rfl
  · obtain ⟨v, o, rfl, hv, q⟩ := h
    refine ⟨_, pss_one (ps_ret (pe_and (pe_cmpR op_notN (pv 0) pe_non (nomark _)) (pe_one (pe_or (pe_callB call_isi (by rfl) T.isi (by decide +kernel) (pa_cons (pv 0) (pa_cons (pe_bltn (v := .ty "bool") (by rfl) T.bool (by decide +kernel) rfl) pa_nil)))
      (pe_or (pe_not (pe_callB call_isi (by rfl) T.isi (by decide +kernel) (pa_cons (pv 0) (pa_cons (pe_bltn (v := .ty "int") (by rfl) T.int (by decide +kernel) rfl) pa_nil)))) (pe_one (pe_not (pe_chain op_le op_lt pe_int (pv 0) pe_int)))))))), ?_⟩
    refine ⟨_, rfl, rfl, !decide (v = .non), rfl, ?_⟩
    cases hv with
    | int i =>
      refine iteT ⟨_, rfl, .int i, .ty "bool", _, _, false, rfl, .ty _, .base (.int i), kit_ty (by decide +kernel), false, rfl, iteF ⟨_, rfl, .int i, .ty "int", _, _, true, rfl, .ty _, .base (.int i), kit_ty (by decide +kernel), true, rfl, false, rfl, iteF ?_⟩⟩
      refine ⟨_, rfl, 0, i, rfl, rfl, decide (0 ≤ i), rfl, ?_⟩
      by_cases h1 : 0 ≤ i
      · rw [decide_eq_true h1]
        refine iteT ⟨i, 31, rfl, rfl, decide (i < 31), rfl, ?_⟩
        have e : (!okf (.int i) (some i)) = !decide (i < 31) := by
          show (!(decide (V.int i = V.non) || decide (0 ≤ i ∧ i ≤ 30))) = _
          by_cases h2 : i < 31
          · rw [decide_eq_true h2, decide_eq_true (show 0 ≤ i ∧ i ≤ 30 by omega), Bool.or_true]
          · rw [decide_eq_false h2, decide_eq_false (show ¬ (0 ≤ i ∧ i ≤ 30) by omega)]
            rfl
        rw [e] at q
        exact q
      · rw [decide_eq_false h1]
        have e : (!okf (.int i) (some i)) = true := by
          show (!(decide (V.int i = V.non) || decide (0 ≤ i ∧ i ≤ 30))) = _
          rw [decide_eq_false (show ¬ (0 ≤ i ∧ i ≤ 30) by omega)]
          rfl
        rw [e] at q
        exact iteF ⟨false, rfl, q⟩
    | bl b => exact iteT ⟨_, rfl, .bl b, .ty "bool", _, _, true, rfl, .ty _, .base (.bl b), kit_ty (by decide +kernel), true, rfl, iteT q⟩
    | oth ht k kb n =>
      by_cases hn : v = .non
      · subst hn
        exact iteF q
      · have e0 : decide (v = V.non) = false := decide_eq_false hn
        rw [e0]
        have e : (!okf v none) = true := by
          show (!(decide (v = V.non) || false)) = true
          rw [e0]
          rfl
        rw [e] at q
        exact iteT ⟨_, rfl, v, .ty "bool", _, _, false, rfl, .ty _, ht, kb, false, rfl, iteF ⟨_, rfl, v, .ty "int", _, _, false, rfl, .ty _, ht, k, false, rfl, true, rfl, iteT q⟩⟩
end
end Toy
set_option Elab.async false
set_option linter.all false
set_option maxRecDepth 100000
set_option maxHeartbeats 4000000
namespace Vx
open PySem PySem.Spec PyProof.Rows L2
theorem pe_makeZ {X : Cx} {CX : CXT} {k : Nat} {C f : Addr} {sp : Sp} {E : XK} {x : Str} {p pos : Pos} (M : Mk X.K C f) (F : FnR X.prog X.w X.K X.mg X.base CX k f sp) (hr : Room (k + 1) X.A) (hg : Gl X x) (hm : X.mg x = some (.ref C)) (hx : Passes CX X E) (hd : (x == ("__debug__" : Str)) = false := by decide) :
    PE X (.Call (.Name x p) [] [] pos) (tMakeZ C sp E) :=
  ⟨fun pins s σ H Q I h => wpAny_Call_Name_kw (ld_glob I hg hm (PySem.W.callWith_K0 I.kIn M.kp (StX.run_makeR (us := []) M F hr hx I .nil h)) hd)⟩
theorem pe_smeth0 {X : Cx} {CX : CXT} {k : Nat} {C p g : Addr} {mc : Value} {sp : Sp} {E : XK} {o : Expr} {m : Str} {pos apos : Pos} {ta : TE} {pl : Sem Bool} (hO : PE X o ta) (r : ClX.CRead X.K C mc) (c : SMet X.K C mc m p g) (F : FnR X.prog X.w X.K X.mg X.base CX k g sp) (hr : Room k X.A) (hx : Passes CX X E)
    (hW : eval (.Call (.Attribute o m apos) [] [] pos) X.env = (do
      let ov ← eval o X.env
      standAt apos.atName
      let (f, first) ← holding [ov] (getMethod ov m pl)
      callWith pos f first (backTo pos (starEach [] X.env)) (backToKw pos (keywordEach [] X.env))) := by rfl) : PE X (.Call (.Attribute o m apos) [] [] pos) (tSMeth C sp E ta tNil) := by
  refine ⟨fun pn s σ H Q I h => PySem.W.methodCall_KW (pl := pl) (thn (hO.run pn s σ H _ I h) fun u s1 hh => ?_) hW⟩
  obtain ⟨x, H1, I1, rx, ex, y⟩ := hh
  subst ex
  obtain rfl : u = Value.ref C := rx
  obtain ⟨rest, hp⟩ := c.rc
  refine PySem.W.method_cls I1.kIn r.ga (PySem.W.cls_bind I1.kIn r.rd c.at_ (wpAny_call (PySem.W.sm_get (s := { s1 with toks := s1.toks + 1 }) I1.kIn hp (PySem.W.handed_on rfl ?_))))
  have I2 : L2.Inv X pn σ H1 { s1 with toks := s1.toks + 1 } := I1.tok _
  exact PySem.W.callWith_K0 I2.kIn c.kp (wpAny_call (run_fnR (us := []) F hr hx I2 .nil y))
end Vx
namespace Toy
open PySem PySem.Spec PyProof.Rows L2
section
variable {P : Program} {w : World} {K : PySem.W.Frag} {mg : Str → Option Value} {base : Heap} {C R B : Addr}
/-- what an except suite asks of the class of a caught error -/
structure Sui (K : PySem.W.Frag) (B : Addr) (f : Str) : Prop where
  X : Vx.ExcX K B
  F : XfC K B
  no : PySem.W.findIn K (.ref B) f = some none
  ex : PySem.W.exmOne K (.ref B) (.ref B) = some true
/-! ### Row.ancient -/
def spAnc (R : Addr) : Sp := fun vs H Q _ => vs = [] ∧ ∀ H' r, Same H H' → H r = none → RowAt R H' r .non .non → Q (.ref r) H'
theorem ok_ancient {f fR : Addr} {fd fdR : FuncData} (F : Fun K "ancient" "Row.ancient" s_Row_ancient f fd) (Z : RowM P w K mg base R B fR fdR) : FnOk P w K mg base CX0 7 f fd [] (spAnc R) := by
  obtain ⟨u1, u2, r1, r2, hb⟩ := Z.b0
  refine F.ok sc_Row_ancient (fun vs H Q E h => ?_) (fun cdv A outer s H vs Q E hr h => ?_)
  · obtain ⟨rfl, _⟩ := h
    rfl
  · obtain ⟨rfl, q⟩ := h
    refine ⟨_, pss_one (ps_ret (pe_make0 Z.mkR Z.F hr (by rfl) Z.gR hb (.cons r1 (.cons r2 .nil)) passL)), ?_⟩
    exact row_good NV.non NV.non rfl rfl q
/-! ### _law_not_ended -/
def spNotE (K : PySem.W.Frag) (R : Addr) : Sp := fun vs H Q _ => ∃ (p : Addr) (b e : Option Nat) (v : V) (o : Option Int), vs = [.ref p, v] ∧ RowAt R H p (fv b) (fv e) ∧ fok b ∧ NV K H v o ∧ btw o 0 30 = false ∧ ∀ H', Same H H' → Q (.str "ender") H'
theorem ok_note {f fE : Addr} {fd : FuncData} (F : Fun K "_law_not_ended" "_law_not_ended" s_law_not_ended f fd) (cl : Cls K R) (mE : Meth K R "ended" fE) (GE : FnR P w K mg base (L2.CX P w) 7 fE (spEnded K R B)) (S : Sui K B "field") (gB : mg "BadRow" = some (.ref B)) :
    FnOk P w K mg base CX0 8 f fd ["row", "writer"] (spNotE K R) := by
  refine F.ok sc_law_not_ended (fun vs H Q E h => ?_) (fun cdv A outer s H vs Q E hr h => ?_)
  · obtain ⟨p, b, e, v, o, rfl, _⟩ := h
    rfl
  · obtain ⟨p, b, e, v, o, rfl, ⟨dx, hp⟩, hb, hv, ho, q⟩ := h
    refine ⟨_, pss_cons (ps_set (i := 2) sc_law_not_ended.nd rfl (Or.inl rfl) pe_non)
      (pss_cons (ps_try_as (i := 3) rfl rfl sc_law_not_ended.nd rfl rfl ⟨rfl, by decide, .inl gB⟩ takes0
        (fun W pn xe tk _ => pss_one (ps_expr (Vx.pe_methE (pv 0) cl mE GE hr (fun σ => passAt tk σ) (pa_cons (pv 1) pa_nil))))
        (fun a oe cls d pn hz hf => pss_one (ps_set (i := 2) sc_law_not_ended.nd rfl (Or.inl rfl) (pe_xf S.F S.no hz hf (pv 3)))))
      (pss_one (ps_ret (pv 2)))), ?_⟩
    refine ⟨_, rfl, p, dx, _, rfl, hp, rfl, _, rfl, p, fv b, fv e, v, nv b, o, rfl, ⟨dx, hp⟩, NV.fv b, okf_fv hb, hv, fun z => absurd (ho.symm.trans z) (by decide), fun _ H' d sm nd hd => ?_⟩
    refine ⟨true, S.ex, fun _ a ha => ?_, fun z => nomatch z⟩
    exact ⟨_, rfl, rfl, rfl, d, _, _, rfl, hd, rfl, _, rfl, q H' sm⟩
end
end Toy
set_option Elab.async false
set_option linter.all false
set_option maxRecDepth 100000
set_option maxHeartbeats 4000000
namespace Toy
open PySem PySem.Spec PyProof.Rows L2
section
variable {P : Program} {w : World} {K : PySem.W.Frag} {mg : Str → Option Value} {base : Heap} {C R B : Addr}
/-! ### _law_refused -/
def fld (a : Bool) : Str := if a = true then "ender" else "beginner"
def RefV (H : Hp) (a b : Bool) (x : V) : Prop := ((a && b) = true ∧ x = .non) ∨ ((a && b) = false ∧ ∃ l, x = .ref l ∧ H l = some (.lst [.str (fld a), .bl true, .bl true, .bl false]))
def spRef (K : PySem.W.Frag) : Sp := fun vs H Q _ => ∃ (v1 v2 : V) (o1 o2 : Option Int), vs = [v1, v2] ∧ NV K H v1 o1 ∧ NV K H v2 o2 ∧ ∀ H' x, Same H H' → RefV H' (okf v1 o1) (okf v2 o2) x → Q x H'
structure Kit (K : PySem.W.Frag) (mg : Str → Option Value) (B D W : Addr) : Prop where
  isi : mg "isinstance" = none
  gB : mg "BadRow" = some (.ref B)
  gD : mg "PagesError" = some (.ref D)
  gW : mg "BadWriter" = some (.ref W)
  ve : mg "ValueError" = none
  kD : PySem.W.kitOne K (.ref B) (.ref D) = some true
  kV : PySem.W.kitOne K (.ref B) (.type "ValueError") = some true
  kW : PySem.W.kitOne K (.ref B) (.ref W) = some false
theorem ok_refd {f fR D W : Addr} {fd fdR : FuncData} {g : List Value → List Value → List Value} (F : Fun K "_law_refused" "_law_refused" s_law_refused f fd) (Z : RowM P w K mg base R B fR fdR) (kb : KBn K fdR ["self", "beginner", "ender"] 2 ["ender"] g (fun vs zs => vs ++ zs)) (S : Sui K B "field") (T : Kit K mg B D W) :
    FnOk P w K mg base CX0 7 f fd ["first", "last"] (spRef K) := by
  refine F.ok sc_law_refused (fun vs H Q E h => ?_) (fun cdv A outer s H vs Q E hr h => ?_)
  · obtain ⟨v1, v2, o1, o2, rfl, _⟩ := h
    rfl
  · obtain ⟨v1, v2, o1, o2, rfl, h1, h2, q⟩ := h
    refine ⟨_, pss_cons (ps_set (i := 2) sc_law_refused.nd rfl (Or.inl rfl) pe_non)
      (pss_cons (ps_try_as (i := 3) rfl rfl sc_law_refused.nd rfl rfl ⟨rfl, by decide, .inl T.gB⟩ takes0
        (fun W pn xe tk _ => pss_one (ps_expr (Vx.pe_makeNS Z.mkR Z.F hr (by rfl) Z.gR kb (fun σ => passAt tk σ) (pa_cons (pv 0) pa_nil) (pk_cons (pv 1) pk_nil))))
        (fun a oe cls d pn hz hf => pss_one (ps_set (i := 2) sc_law_refused.nd rfl (Or.inl rfl) (pe_lst (pa_cons (pe_xf S.F S.no hz hf (pv 3))
          (pa_cons (pe_callB (Vx.call_isX S.X hz hf) (by rfl) T.isi (by decide +kernel) (pa_cons (pv 3) (pa_cons (pe_glob (v := .ref D) (by rfl) T.gD rfl) pa_nil)))
          (pa_cons (pe_callB (Vx.call_isX S.X hz hf) (by rfl) T.isi (by decide +kernel) (pa_cons (pv 3) (pa_cons (pe_bltn (v := .ty "ValueError") (by rfl) T.ve (by decide +kernel) rfl) pa_nil)))
          (pa_cons (pe_callB (Vx.call_isX S.X hz hf) (by rfl) T.isi (by decide +kernel) (pa_cons (pv 3) (pa_cons (pe_glob (v := .ref W) (by rfl) T.gW rfl) pa_nil))) pa_nil))))))))
      (pss_one (ps_ret (pv 2)))), ?_⟩
    refine ⟨_, rfl, _, rfl, rfl, rfl, fun y dy ny nd ne => ?_⟩
    have s0 : Same H (upd (upd H dy (.own y)) y (.ins R dy [])) := fun c o z => by
      rw [upd_ne (ne_of_none z ny), upd_ne (ne_of_none z nd)]
      exact z
    refine ⟨H, y, dy, v1, v2, o1, o2, rfl, s0, ny, upd_same, h1.same s0, h2.same s0, fun hg H' sm _ => ⟨rfl, _, rfl, q H' _ sm (.inl ⟨hg, rfl⟩)⟩, fun hbad H' d sm nd hd => ?_⟩
    refine ⟨true, S.ex, fun _ a ha => ?_, fun z => nomatch z⟩
    refine ⟨_, rfl, rfl, rfl, d, _, _, rfl, hd, rfl, ?_⟩
    refine ⟨_, rfl, rfl, d, _, .ref D, .ref D, true, rfl, hd, rfl, fun u z => z, T.kD, ?_⟩
    refine ⟨_, rfl, rfl, d, _, .ty "ValueError", .type "ValueError", true, rfl, hd, rfl, fun u z => z, T.kV, ?_⟩
    refine ⟨_, rfl, rfl, d, _, .ref W, .ref W, false, rfl, hd, rfl, fun u z => z, T.kW, ?_⟩
    refine ⟨by show 4 ≤ sizeLine; decide, fun l nl => ⟨_, rfl, q _ _ (sm.trans (same_upd nl)) (.inr ⟨hbad, l, rfl, upd_same⟩)⟩⟩
/-! ### _law_all_refused -/
theorem dp_ref {H : Hp} {l : Addr} {a : Bool} (h : H l = some (.lst [.str (fld a), .bl true, .bl true, .bl false])) : Dp K H (.ref l) (.list [.str (fld a), .bool true, .bool true, .bool false]) :=
  .lst (SqL.of h) (.cons (.str _) (.cons (.bl _) (.cons (.bl _) (.cons (.bl _) .nil))))
theorem shp_ref (a : Bool) : SeqAt.shaped (.list [.str (fld a), .bool true, .bool true, .bool false]) = true := by cases a <;> decide +kernel
def spAll (K : PySem.W.Frag) : Sp := fun vs H Q _ => ∃ (l : Addr) (ts : List Addr), vs = [.ref l] ∧ H l = some (.lst (ts.map V.ref)) ∧ (∀ t ∈ ts, ∃ v1 v2 o1 o2, H t = some (.tup [v1, v2]) ∧ NV K H v1 o1 ∧ NV K H v2 o2) ∧ ∀ H', Same H H' → Q (.bl true) H'
theorem ok_allr {f fW fR : Addr} {fd fdW fdR : FuncData} (F : Fun K "_law_all_refused" "_law_all_refused" s_law_all_refused f fd) (GW : FnOk P w K mg base CX0 1 fW fdW ["value"] (spWrong K)) (kW : PySem.W.keepIn K (.ref fW) = true) (bW : L2.Binds K fdW ["value"] []) (gW : mg "_law_is_wrong" = some (.ref fW))
    (GR : FnOk P w K mg base CX0 7 fR fdR ["first", "last"] (spRef K)) (kR : PySem.W.keepIn K (.ref fR) = true) (bR : L2.Binds K fdR ["first", "last"] []) (gR : mg "_law_refused" = some (.ref fR)) : FnOk P w K mg base CX0 8 f fd ["pairs"] (spAll K) := by
  refine F.ok sc_law_all_refused (fun vs H Q E h => ?_) (fun cdv A outer s H vs Q E hr h => ?_)
  · obtain ⟨l, ts, rfl, _⟩ := h
    rfl
  · obtain ⟨l, ts, rfl, hl, ht, q⟩ := h
    have hr1 : Room 1 _ := hr.mono (by decide)
    refine ⟨_, pss_cons (ps_for PassesOwn.never rfl (pi_list (pv 0)) (pg_tup rfl (pgs_cons (pg_name (i := 1) sc_law_all_refused.nd rfl (Or.inl rfl)) (pgs_cons (pg_name (i := 2) sc_law_all_refused.nd rfl (Or.inl rfl)) pgs_nil)))
        (pss_cons (ps_set (i := 3) sc_law_all_refused.nd rfl (Or.inl rfl) pe_non)
        (C8.pss_cut (ps_if (pt_val (pe_call GW hr1 (by rfl) gW kW bW .nil pass0 (pa_cons (pv 1) pa_nil)))
          (pss_one (ps_set (i := 3) sc_law_all_refused.nd rfl (Or.inl rfl) (pe_lst (pa_cons pe_str (pa_cons pe_bl (pa_cons pe_bl (pa_cons pe_bl pa_nil)))))))
          (pss_one (ps_if (pt_val (pe_call GW hr1 (by rfl) gW kW bW .nil pass0 (pa_cons (pv 2) pa_nil)))
            (pss_one (ps_set (i := 3) sc_law_all_refused.nd rfl (Or.inl rfl) (pe_lst (pa_cons pe_str (pa_cons pe_bl (pa_cons pe_bl (pa_cons pe_bl pa_nil))))))) pss_nil)))
        (pss_one (ps_if (pt_cmpR (op_neD hr.units) (pe_call GR hr (by rfl) gR kR bR .nil pass0 (pa_cons (pv 1) (pa_cons (pv 2) pa_nil))) (pv 3) (nomark _)) (pss_one ps_never) pss_nil)))))
      (pss_one (ps_ret pe_bl)), ?_⟩
    refine ⟨_, rfl, l, rfl, ⟨_, SqL.of hl⟩, for_list (K := K) (a := l) (xs := ts.map V.ref) (fun i σ H' => ∃ a b c, σ = [some (.ref l), a, b, c] ∧ Same H H') ⟨none, none, none, rfl, Same.refl H⟩ (fun i σ H' _ ⟨_, _, _, _, z⟩ => SqL.of (z _ _ hl)) ?_ ?_⟩
    · rintro i y σ H' hi ⟨a, b, c, rfl, s1⟩
      obtain ⟨t, ht', rfl⟩ : ∃ t, ts[i]? = some t ∧ y = .ref t := by
        rw [List.getElem?_map] at hi
        cases e : ts[i]? with
        | none => rw [e] at hi; cases hi
        | some k => rw [e] at hi; exact ⟨k, rfl, (Option.some.inj hi).symm⟩
      obtain ⟨v1, v2, o1, o2, et, n1, n2⟩ := ht t (List.mem_of_getElem? ht')
      refine ⟨t, _, rfl, SqT.of (s1 _ _ et), rfl, v1, _, rfl, v2, _, rfl, rfl, ?_⟩
      refine ⟨fun σ' H2 => ∃ x, σ' = [some (.ref l), some v1, some v2, some x] ∧ Same H H2 ∧ RefV H2 (okf v1 o1) (okf v2 o2) x, ?_, ?_⟩
      · refine ⟨_, rfl, v1, o1, rfl, n1.same s1, _, rfl, ?_⟩
        cases h1 : okf v1 o1 with
        | false => exact iteT ⟨by show 4 ≤ sizeLine; decide, fun m nm => ⟨_, rfl, s1.trans (same_upd nm), .inr ⟨rfl, m, rfl, upd_same⟩⟩⟩
        | true =>
          refine iteF ⟨_, rfl, v2, o2, rfl, n2.same s1, _, rfl, ?_⟩
          cases h2 : okf v2 o2 with
          | false => exact iteT ⟨by show 4 ≤ sizeLine; decide, fun m nm => ⟨_, rfl, s1.trans (same_upd nm), .inr ⟨rfl, m, rfl, upd_same⟩⟩⟩
          | true => exact iteF ⟨_, rfl, s1, .inl ⟨rfl, rfl⟩⟩
      · rintro σ' H2 ⟨x, rfl, s2, hx⟩
        refine ⟨_, rfl, _, rfl, v1, v2, o1, o2, rfl, n1.same s2, n2.same s2, fun H3 z s3 hz => ?_⟩
        have t3 := s2.trans s3
        rcases hx with ⟨e, rfl⟩ | ⟨e, m, rfl, hm⟩
        · rcases hz with ⟨_, rfl⟩ | ⟨e2, _⟩
          · exact ⟨_, rfl, .none, .none, .non, .non, rfl, rfl, _, rfl, iteF ⟨_, _, _, rfl, t3⟩⟩
          · rw [e] at e2
            cases e2
        · rcases hz with ⟨e2, _⟩ | ⟨_, m2, rfl, hm2⟩
          · rw [e] at e2
            cases e2
          · refine ⟨_, rfl, _, _, dp_ref hm2, dp_ref (s3 _ _ hm), shp_ref _, shp_ref _, _, rfl, ?_⟩
            rw [SeqAt.eqv_refl _ (by cases okf v1 o1 <;> decide +kernel)]
            exact iteF ⟨_, _, _, rfl, t3⟩
    · rintro σ H' ⟨a, b, c, rfl, s1⟩
      exact q H' s1
end
end Toy
set_option Elab.async false
set_option linter.all false
set_option maxRecDepth 100000
set_option maxHeartbeats 4000000
namespace Toy
open PySem PySem.Spec PyProof.Rows L2
theorem off {H : Hp} {p c a : Addr} (P : Pot H p c) (n : H a = none) : a ≠ p ∧ a ≠ c := by
  obtain ⟨cs, at_, x, h1, h2, _⟩ := P
  exact ⟨(ne_of_none h1 n).symm, (ne_of_none h2 n).symm⟩
structure Wd (R C p c lb m r dx : Addr) (n : Nat) (f l : Option Nat) (H : Hp) : Prop where
  P : Pot H p c
  eb : H lb = some (.lst ((bits n).map vi))
  em : MoAt C H m n
  er : H r = some (.ins R dx (ro (fv f) (fv l)))
  ob : lb ≠ p ∧ lb ≠ c
  om : m ≠ p ∧ m ≠ c
  or_ : r ≠ p ∧ r ≠ c
theorem Wd.kept {R C p c lb m r dx : Addr} {n : Nat} {f l : Option Nat} {H H' : Hp} (h : Wd R C p c lb m r dx n f l H) (k : Kept p c H H') (P' : Pot H' p c) : Wd R C p c lb m r dx n f l H' :=
  ⟨P', k _ _ h.ob.1 h.ob.2 h.eb, ⟨h.em.1, h.em.2.imp fun _ z => k _ _ h.om.1 h.om.2 z⟩, k _ _ h.or_.1 h.or_.2 h.er, h.ob, h.om, h.or_⟩
theorem Wd.same {R C p c lb m r dx : Addr} {n : Nat} {f l : Option Nat} {H H' : Hp} (h : Wd R C p c lb m r dx n f l H) (s : Same H H') : Wd R C p c lb m r dx n f l H' := h.kept (Kept.of_same s) (h.P.same s)
theorem ibit {n k : Nat} (h : k ≤ 30) : inV (vi k) ((bits n).map vi) = n.testBit k := by
  rw [inV_vi]
  by_cases z : n.testBit k = true
  · rw [z, decide_eq_true (mem_bits.mpr ⟨by omega, z⟩)]
  · rw [Bool.eq_false_iff.mpr z, decide_eq_false fun y => z (mem_bits.mp y).2]
theorem ibit2 {n k : Nat} (h : k ≤ 30) : inV (fv (some k)) ((bits n).map vi) = n.testBit k := ibit h
theorem eqv1 (f l : Option Nat) (v : Nat) : V.bl (decide (f = f ∧ l = some v)) = V.bl (decide (fv l = vi v)) := by
  show _ = V.bl (decide (fv l = fv (some v)))
  rw [dec_fv]
  simp
theorem eqv2 (f l : Option Nat) (v : Nat) : V.bl (decide (f = f ∧ some v = l)) = V.bl (decide (fv l = vi v)) := by
  rw [← eqv1 f l v]
  simp [eq_comm]
theorem eqv3 (f l : Option Nat) (v : Nat) : V.bl (decide (f = some v ∧ l = l)) = V.bl (decide (fv f = vi v)) := by
  rw [← eqv1 l f v]
  simp
theorem eqv4 (f l : Option Nat) (v : Nat) : V.bl (decide (some v = f ∧ l = l)) = V.bl (decide (fv f = vi v)) := by
  rw [← eqv1 l f v]
  simp [eq_comm]
theorem sees0 (f l : Option Nat) : decide (V.bl (sees f l 0) = V.bl (decide (fv f = .non))) = true := by
  cases f <;> cases l <;> simp [sees, fv, vi]
section
variable {P : Program} {w : World} {K : PySem.W.Frag} {mg : Str → Option Value} {base : Heap} {C R B : Addr}
theorem row_goodP {H : Hp} {b e : V} {ob oe : Option Int} {G : Hp → Prop} {E : XK} {x dx : Addr} (h1 : NV K H b ob) (h2 : NV K H e oe) (o1 : okf b ob = true) (o2 : okf e oe = true) (nx : H x = none) (nd : H dx = none) (q : ∀ H', Same H H' → RowAt R H' x b e → G H') :
    spRowI K R B [.ref x, b, e] (upd (upd H dx (.own x)) x (.ins R dx [])) (fun v H3 => v = .non ∧ G H3) E := by
  have s : Same H (upd (upd H dx (.own x)) x (.ins R dx [])) := fun c o y => by
    rw [upd_ne (ne_of_none y nx), upd_ne (ne_of_none y nd)]
    exact y
  refine ⟨H, x, dx, b, e, ob, oe, rfl, s, nx, upd_same, h1.same s, h2.same s, fun _ H' s' e' => ⟨rfl, q H' s' ⟨dx, e'⟩⟩, fun z => ?_⟩
  rw [o1, o2] at z
  cases z
def spLaw (K : PySem.W.Frag) : Sp := fun vs H Q _ => ∃ (a : Addr) (ns : List Int), vs = [.ref a] ∧ SqL K H a (ns.map V.int) ∧ ns.length ≤ 63 ∧ ∀ H', Q (.bl true) H'
structure Cal (P : Program) (w : World) (K : PySem.W.Frag) (mg : Str → Option Value) (base : Heap) (k : Nat) (f : Addr) (fd : FuncData) (x : Str) (ps : List Str) (sp : Sp) : Prop where
  G : FnOk P w K mg base CX0 k f fd ps sp
  k : PySem.W.keepIn K (.ref f) = true
  b : L2.Binds K fd ps []
  g : mg x = some (.ref f)
structure Calls (P : Program) (w : World) (K : PySem.W.Frag) (mg : Str → Option Value) (base : Heap) (C R B fP fD fW fB fO fN fA fMI pO fOf fR fS fE gB gE pB pE fAn pA fq : Addr) (mc mr : Value) (fdP fdD fdW fdB fdO fdN fdA fdR fdS fdE fdgB fdgE : FuncData) (g : List Value → List Value → List Value) : Prop where
  pot : Cal P w K mg base 1 fP fdP "_law_pot" ["script"] (spPot K)
  draw : Cal P w K mg base 1 fD fdD "_law_draw" ["pot", "many"] spDraw
  wtr : Cal P w K mg base 2 fW fdW "_law_writer" ["pot"] spWtr
  bits : Cal P w K mg base 1 fB fdB "_law_bits" ["number"] spBits
  odd : Cal P w K mg base 2 fO fdO "_law_odd" ["pot"] (spOdd K)
  note : Cal P w K mg base 8 fN fdN "_law_not_ended" ["row", "writer"] (spNotE K R)
  all : Cal P w K mg base 8 fA fdA "_law_all_refused" ["pairs"] (spAll K)
  gC : mg "Moment" = some (.ref C)
  mkC : Mk K C fMI
  FC : FnR P w K mg base CX0 4 fMI (spMk C)
  rdC : ClX.CRead K C mc
  ofC : Vx.SMet K C mc "of" pO fOf
  Fof : FnR P w K mg base CX0 6 fOf (spOf C)
  Z : RowM P w K mg base R B fR fdR
  T : RowC K mg R
  nB : NoAttr K R "_beginner"
  nE : NoAttr K R "_ender"
  kb : KBn K fdR ["self", "beginner", "ender"] 1 ["ender"] g (fun vs zs => vs ++ ([.non] ++ zs))
  mS : Meth K R "seen" fS
  bS : L2.Binds K fdS ["self", "moment"] []
  FS : FnOk P w K mg base CX0 5 fS fdS ["self", "moment"] (spSeen R C)
  mE : Meth K R "ended" fE
  bE : L2.Binds K fdE ["self", "writer"] []
  FE : FnOk P w K mg base (L2.CX P w) 7 fE fdE ["self", "writer"] (spEnded K R B)
  prB : PropOf K R "beginner" pB gB
  FB : FnOk P w K mg base CX0 1 gB fdgB ["self"] (getSp R "_beginner")
  bB : L2.Binds K fdgB ["self"] []
  prE : PropOf K R "ender" pE gE
  FEn : FnOk P w K mg base CX0 1 gE fdgE ["self"] (getSp R "_ender")
  bEn : L2.Binds K fdgE ["self"] []
  rdR : ClX.CRead K R mr
  anR : Vx.SMet K R mr "ancient" pA fAn
  Fan : FnR P w K mg base CX0 7 fAn (spAnc R)
  eq : PySem.W.findIn K (.ref R) "__eq__" = some (some (.ref fq))
  fnq : PySem.W.isFn K (.ref fq) = true
  Feq : FnR P w K mg base CX0 1 fq (spRowEq K R)
  nfR : PySem.W.notFirst K R (.ref R) = true
  nfT : PySem.W.notFirst K R (.type "tuple") = true
  ktR : PySem.W.kitOne K (.type "tuple") (.ref R) = some false
theorem ok_law {f fP fD fW fB fO fN fA fMI pO fOf fR fS fE gB gE pB pE fAn pA fq : Addr} {mc mr : Value} {fd fdP fdD fdW fdB fdO fdN fdA fdR fdS fdE fdgB fdgE : FuncData} {g : List Value → List Value → List Value} (F : Fun K "law" "law" s_law f fd)
    (Z : Calls P w K mg base C R B fP fD fW fB fO fN fA fMI pO fOf fR fS fE gB gE pB pE fAn pA fq mc mr fdP fdD fdW fdB fdO fdN fdA fdR fdS fdE fdgB fdgE g) : FnOk P w K mg base CX0 9 f fd ["script"] (spLaw K) := by
  refine F.ok sc_law (fun vs H Q E h => ?_) (fun cdv A outer s H vs Q E hr h => ?_)
  · obtain ⟨a, ns, rfl, _⟩ := h
    rfl
  · obtain ⟨a, ns, rfl, hS, hlen, q⟩ := h
    have hr1 : Room 1 _ := hr.mono (by decide)
    have hr2 : Room 2 _ := hr.mono (by decide)
    have hr5 : Room 5 _ := hr.mono (by decide)
    have hr6 : Room 6 _ := hr.mono (by decide)
    have hr7 : Room 7 _ := hr.mono (by decide)
    have hb1 := Z.Z.b1
    obtain ⟨un, run, bn⟩ := hb1
    have nd := sc_law.nd
    refine ⟨_, pss_cons (ps_set (i := 1) nd rfl (Or.inl rfl) (pe_call Z.pot.G hr1 (by rfl) Z.pot.g Z.pot.k Z.pot.b .nil pass0 (pa_cons (pv 0) pa_nil)))
      (pss_cons (ps_set (i := 2) nd rfl (Or.inl rfl) (pe_call Z.wtr.G hr2 (by rfl) Z.wtr.g Z.wtr.k Z.wtr.b .nil pass0 (pa_cons (pv 1) pa_nil)))
      (C8.pss_cut (ps_set (i := 3) nd rfl (Or.inl rfl) (pe_ifExp (pt_cmpR op_gt (pe_call Z.draw.G hr1 (by rfl) Z.draw.g Z.draw.k Z.draw.b .nil pass0 (pa_cons (pv 1) (pa_cons pe_int pa_nil))) pe_int (nomark _)) (pe_call Z.wtr.G hr2 (by rfl) Z.wtr.g Z.wtr.k Z.wtr.b .nil pass0 (pa_cons (pv 1) pa_nil)) (pv 2)))
      (pss_cons (ps_set (i := 4) nd rfl (Or.inl rfl) (pe_call Z.draw.G hr1 (by rfl) Z.draw.g Z.draw.k Z.draw.b .nil pass0 (pa_cons (pv 1) (pa_cons pe_int pa_nil))))
      (pss_cons (ps_set (i := 5) nd rfl (Or.inl rfl) (pe_call Z.bits.G hr1 (by rfl) Z.bits.g Z.bits.k Z.bits.b .nil pass0 (pa_cons (pv 4) pa_nil)))
      (pss_cons (ps_set (i := 6) nd rfl (Or.inl rfl) (Vx.pe_smeth (pe_glob (v := .ref C) (by rfl) Z.gC rfl) Z.rdC Z.ofC Z.Fof hr6 pass0 (pa_cons (pv 4) pa_nil)))
      (pss_cons (ps_set (i := 7) nd rfl (Or.inl rfl) (pe_make Z.Z.mkR Z.Z.F hr6 (by rfl) Z.Z.gR Z.Z.b2 .nil passL (pa_cons (pv 2) (pa_cons (pv 3) pa_nil))))
      (C8.pss_cut (ps_set (i := 8) nd rfl (Or.inl rfl) (pe_and (pe_or (pe_cmpR op_isN (pv 2) pe_non (nomark _)) (pe_one (pe_cmpR (Vx.op_inK (K := K) rfl) (pv 2) (pv 5) (by rfl)))) (pe_one (pe_or (pe_cmpR op_isN (pv 3) pe_non (nomark _)) (pe_one (pe_cmpR (Vx.op_notInK (K := K) rfl) (pv 3) (pv 5) (by rfl)))))))
      (pss_cons (ps_if (PW.pt (pw_or (pt_cmpR op_ne (pe_meth (pv 7) Z.T.cl Z.mS Z.FS hr5 Z.bS .nil pass0 (pa_cons (pv 6) pa_nil)) (pv 8) (nomark _))
          (pw_or (pt_cmpR op_ne (pe_prop (pv 7) Z.T.cl Z.prB Z.FB hr2 Z.bB .nil pass0 rfl) (pv 2) (nomark _)) (pw_or1 (pt_cmpR op_ne (pe_prop (pv 7) Z.T.cl Z.prE Z.FEn hr2 Z.bEn .nil pass0 rfl) (pv 3) (nomark _)))))) (pss_one ps_never) pss_nil)
      (pss_cons (ps_if (PW.pt (pw_or (pt_cmpR op_notN (pe_prop (pe_make Z.Z.mkR Z.Z.F hr6 (by rfl) Z.Z.gR bn (.cons run .nil) passL (pa_cons (pv 2) pa_nil)) Z.T.cl Z.prE Z.FEn hr2 Z.bEn .nil pass0 rfl) pe_non (nomark _))
          (pw_or (pt_cmpR op_notN (pe_prop (pe_makeK0 Z.Z.mkR Z.Z.F hr6 (by rfl) Z.Z.gR Z.kb passL (pk_cons (pv 3) pk_nil)) Z.T.cl Z.prB Z.FB hr2 Z.bB .nil pass0 rfl) pe_non (nomark _))
          (pw_or1 (pt_cmpR op_ne (pe_prop (pe_make Z.Z.mkR Z.Z.F hr6 (by rfl) Z.Z.gR bn (.cons run .nil) passL (pa_cons (pv 2) pa_nil)) Z.T.cl Z.prB Z.FB hr2 Z.bB .nil pass0 rfl) (pv 2) (nomark _)))))) (pss_one ps_never) pss_nil)
      (pss_cons (ps_set (i := 9) nd rfl (Or.inl rfl) (pe_call Z.draw.G hr1 (by rfl) Z.draw.g Z.draw.k Z.draw.b .nil pass0 (pa_cons (pv 1) (pa_cons pe_int pa_nil))))
      (pss_cons (ps_set (i := 10) nd rfl (Or.inl rfl) (pe_meth (pv 7) Z.T.cl Z.mE Z.FE hr7 Z.bE .nil passL (pa_cons (pv 9) pa_nil)))
      (pss_cons (ps_if (PW.pt (pw_or (pt_cmpR op_ne (pe_prop (pv 10) Z.T.cl Z.prB Z.FB hr2 Z.bB .nil pass0 rfl) (pv 2) (nomark _))
          (pw_or (pt_cmpR op_ne (pe_prop (pv 10) Z.T.cl Z.prE Z.FEn hr2 Z.bEn .nil pass0 rfl) (pv 9) (nomark _))
          (pw_or (pt_cmpR op_ne (pe_prop (pv 7) Z.T.cl Z.prE Z.FEn hr2 Z.bEn .nil pass0 rfl) (pv 3) (nomark _))
          (pw_or1 (pt_cmpR op_ne (pe_meth (pv 7) Z.T.cl Z.mS Z.FS hr5 Z.bS .nil pass0 (pa_cons (pv 6) pa_nil)) (pv 8) (nomark _))))))) (pss_one ps_never) pss_nil)
      (C8.pss_cut (ps_if (pt_cmpR op_ne (pe_meth (pv 10) Z.T.cl Z.mS Z.FS hr5 Z.bS .nil pass0 (pa_cons (pv 6) pa_nil)) (pe_and (pe_or (pe_cmpR op_isN (pv 2) pe_non (nomark _)) (pe_one (pe_cmpR (Vx.op_inK (K := K) rfl) (pv 2) (pv 5) (by rfl)))) (pe_one (pe_cmpR (Vx.op_notInK (K := K) rfl) (pv 9) (pv 5) (by rfl)))) (nomark _)) (pss_one ps_never) pss_nil)
      (pss_cons (ps_if (PW.pt (pw_or (pt_cmpR op_ne (pe_cmpR (Vx.op_cmpAny (op := .Eq) (fun _ _ => rfl) Z.eq Z.fnq Z.Feq hr1 pass0) (pv 7) (pv 10) (nomark _)) (pe_cmpR op_eq (pv 3) (pv 9) (nomark _)) (nomark _))
          (pw_or (pt_cmpR op_ne (pe_cmpR (Vx.op_cmpAny (op := .Eq) (fun _ _ => rfl) Z.eq Z.fnq Z.Feq hr1 pass0) (pv 10) (pv 7) (nomark _)) (pe_cmpR op_eq (pv 3) (pv 9) (nomark _)) (nomark _))
          (pw_or1 (pt_cmpR (Vx.op_cmpAny (op := .Eq) (fun _ _ => rfl) Z.eq Z.fnq Z.Feq hr1 pass0) (pv 7) (pe_tup (pa_cons (pv 2) (pa_cons (pv 3) pa_nil))) (nomark _)))))) (pss_one ps_never) pss_nil)
      (pss_cons (ps_if (PW.pt (pw_or (pt_cmpR op_ne (pe_cmpR (Vx.op_cmpAny (op := .Eq) (fun _ _ => rfl) Z.eq Z.fnq Z.Feq hr1 pass0) (pv 7) (pe_make Z.Z.mkR Z.Z.F hr6 (by rfl) Z.Z.gR Z.Z.b2 .nil passL (pa_cons (pv 9) (pa_cons (pv 3) pa_nil))) (nomark _)) (pe_cmpR op_eq (pv 2) (pv 9) (nomark _)) (nomark _))
          (pw_or1 (pt_cmpR op_ne (pe_cmpR (Vx.op_cmpAny (op := .Eq) (fun _ _ => rfl) Z.eq Z.fnq Z.Feq hr1 pass0) (pe_make Z.Z.mkR Z.Z.F hr6 (by rfl) Z.Z.gR Z.Z.b2 .nil passL (pa_cons (pv 9) (pa_cons (pv 3) pa_nil))) (pv 7) (nomark _)) (pe_cmpR op_eq (pv 2) (pv 9) (nomark _)) (nomark _))))) (pss_one ps_never) pss_nil)
      (pss_cons (ps_if (PW.pt (pw_or (pt_cmpR op_notN (pe_prop (Vx.pe_smeth0 (pe_glob (v := .ref R) (by rfl) Z.Z.gR rfl) Z.rdR Z.anR Z.Fan hr7 pass0) Z.T.cl Z.prB Z.FB hr2 Z.bB .nil pass0 rfl) pe_non (nomark _))
          (pw_or (pt_cmpR op_notN (pe_prop (Vx.pe_smeth0 (pe_glob (v := .ref R) (by rfl) Z.Z.gR rfl) Z.rdR Z.anR Z.Fan hr7 pass0) Z.T.cl Z.prE Z.FEn hr2 Z.bEn .nil pass0 rfl) pe_non (nomark _))
          (pw_or1 (pt_not (pt_val (pe_meth (Vx.pe_smeth0 (pe_glob (v := .ref R) (by rfl) Z.Z.gR rfl) Z.rdR Z.anR Z.Fan hr7 pass0) Z.T.cl Z.mS Z.FS hr5 Z.bS .nil pass0 (pa_cons (pv 6) pa_nil)))))))) (pss_one ps_never) pss_nil)
      (pss_cons (ps_set (i := 11) nd rfl (Or.inl rfl) (pe_call Z.odd.G hr2 (by rfl) Z.odd.g Z.odd.k Z.odd.b .nil pass0 (pa_cons (pv 1) pa_nil)))
      (pss_cons (ps_set (i := 12) nd rfl (Or.inl rfl) (pe_call Z.odd.G hr2 (by rfl) Z.odd.g Z.odd.k Z.odd.b .nil pass0 (pa_cons (pv 1) pa_nil)))
      (pss_cons (ps_if (PW.pt (pw_or (pt_cmpR op_ne (pe_call Z.note.G hr (by rfl) Z.note.g Z.note.k Z.note.b .nil pass0 (pa_cons (pv 7) (pa_cons (pv 11) pa_nil))) pe_str (nomark _))
          (pw_or1 (pt_cmpR op_ne (pe_call Z.note.G hr (by rfl) Z.note.g Z.note.k Z.note.b .nil pass0 (pa_cons (pv 7) (pa_cons pe_non pa_nil))) pe_str (nomark _))))) (pss_one ps_never) pss_nil)
      (pss_cons (ps_if (pt_not (pt_val (pe_call Z.all.G hr (by rfl) Z.all.g Z.all.k Z.all.b .nil pass0 (pa_cons (pe_lst (pa_cons (pe_tup (pa_cons (pv 11) (pa_cons (pv 3) pa_nil))) (pa_cons (pe_tup (pa_cons (pv 2) (pa_cons (pv 11) pa_nil))) (pa_cons (pe_tup (pa_cons (pv 11) (pa_cons (pv 12) pa_nil))) (pa_cons (pe_tup (pa_cons (pv 12) (pa_cons pe_non pa_nil))) pa_nil))))) pa_nil)))) (pss_one ps_never) pss_nil)
      (pss_one (ps_ret (pe_and (pe_cmpR op_eq (pe_meth (pv 7) Z.T.cl Z.mS Z.FS hr5 Z.bS .nil pass0 (pa_cons (Vx.pe_makeZ Z.mkC Z.FC hr5 (by rfl) Z.gC pass0) pa_nil)) (pe_cmpR op_isN (pv 2) pe_non (nomark _)) (nomark _))
        (pe_one (pe_cmpR (Vx.op_cmpAny (op := .Eq) (fun _ _ => rfl) Z.eq Z.fnq Z.Feq hr1 pass0) (pv 7) (pe_make Z.Z.mkR Z.Z.F hr6 (by rfl) Z.Z.gR Z.Z.b2 .nil passL (pa_cons (pv 2) (pa_cons (pv 3) pa_nil))) (nomark _)))))))))))))))))))))))))), ?_⟩
    refine ⟨_, rfl, a, ns, rfl, hS, hlen, fun H1 p c s1 p0 c0 P1 => ?_⟩
    refine ⟨_, rfl, p, c, rfl, P1, fun H2 f P2 K2 hf => ?_⟩
    refine ⟨fun σ' H' => ∃ l, fok l ∧ σ' = [some (.ref a), some (.ref p), some (fv f), some (fv l), none, none, none, none, none, none, none, none, none] ∧ Pot H' p c, ?_, ?_⟩
    · exact ⟨_, rfl, p, c, 4, rfl, P2, by decide, by decide, fun H3 d P3 K3 d0 d1 => ⟨d, 0, rfl, rfl, _, rfl, ite2 (fun _ => ⟨_, rfl, p, c, rfl, P3, fun H4 l P4 K4 hl => ⟨l, hl, rfl, P4⟩⟩) (fun _ => ⟨_, rfl, f, hf, rfl, P3⟩)⟩⟩
    rintro σ' H3 ⟨l, hl, rfl, P3⟩
    refine ⟨_, rfl, p, c, 2147483648, rfl, P3, by decide, by decide, fun H4 d P4 K4 d0 d1 => ?_⟩
    obtain ⟨n, rfl⟩ := Int.eq_ofNat_of_zero_le d0
    have hn : n < 2147483648 := by omega
    refine ⟨_, rfl, n, rfl, hn, fun H5 lb s5 nb e5 => ?_⟩
    refine ⟨rfl, _, rfl, n, rfl, hn, fun H6 m s6 nm hm => ?_⟩
    refine ⟨_, rfl, _, rfl, ?_⟩
    intro r dr nr ndr ner
    refine row_goodP (NV.fv f) (NV.fv l) (okf_fv hf) (okf_fv hl) nr ndr fun H7 s7 hr7 => ?_
    obtain ⟨dx, hr7⟩ := hr7
    have P5 := P4.same s5
    have P6 := P5.same s6
    have W7 : Wd R C p c lb m r dx n f l H7 := ⟨P6.same s7, s7 _ _ (s6 _ _ e5), hm.same s7, hr7, off P4 nb, off P5 nm, off P6 nr⟩
    refine ⟨fun σ' H' => ∃ x, x = sees f l n ∧ σ' = [some (.ref a), some (.ref p), some (fv f), some (fv l), some (vi n), some (.ref lb), some (.ref m), some (.ref r), some (.bl x), none, none, none, none] ∧ H' = H7, ?_, ?_⟩
    · refine ⟨_, rfl, rfl, _, rfl, ?_⟩
      cases f with
      | none =>
        refine iteT ⟨true, rfl, iteT ⟨_, rfl, rfl, _, rfl, ?_⟩⟩
        cases l with
        | none => exact iteT ⟨_, rfl, rfl, rfl⟩
        | some j => exact iteF ⟨_, rfl, _, rfl, lb, _, rfl, .inl (SqL.of W7.eb), rfl, flat_vi _, _, (by rw [if_pos rfl, ibit2 (hl j rfl)]; rfl), rfl, rfl⟩
      | some k =>
        refine iteF ⟨_, rfl, _, rfl, lb, _, rfl, .inl (SqL.of W7.eb), rfl, flat_vi _, n.testBit k, congrArg V.bl (by rw [if_neg Bool.false_ne_true, ibit2 (hf k rfl)]), ?_⟩
        cases hb : n.testBit k with
        | false => exact iteF ⟨_, by simp [sees, hb], rfl, rfl⟩
        | true =>
          refine iteT ⟨_, rfl, rfl, _, rfl, ?_⟩
          cases l with
          | none => exact iteT ⟨_, by simp [sees, hb], rfl, rfl⟩
          | some j => exact iteF ⟨_, rfl, _, rfl, lb, _, rfl, .inl (SqL.of W7.eb), rfl, flat_vi _, _, (by rw [if_pos rfl, ibit2 (hl j rfl)]; simp [sees, hb]), rfl, rfl⟩
    rintro σ' H' ⟨x, rfl, rfl, rfl⟩
    -- the row as it is
    refine ⟨_, rfl, r, dx, _, rfl, W7.er, rfl, _, rfl, r, m, n, f, l, rfl, ⟨dx, W7.er⟩, hf, hl, W7.em, _, rfl, rfl, _, rfl, iteNS rfl ?_⟩
    refine ⟨_, rfl, r, dx, _, rfl, W7.er, r, dx, _, _, rfl, W7.er, rfl, _, rfl, scal_fv _ _, _, rfl, iteNS rfl ?_⟩
    refine ⟨_, rfl, r, dx, _, rfl, W7.er, r, dx, _, _, rfl, W7.er, rfl, _, rfl, scal_fv _ _, _, rfl, iteNS rfl ?_⟩
    refine ⟨_, rfl, ?_⟩
    intro r8 dr8 n8 ndr8 ner8
    refine row_goodP (NV.fv f) NV.non (okf_fv hf) rfl n8 ndr8 fun H8 s8 h8 => ?_
    obtain ⟨d8, e8⟩ := h8
    refine ⟨r8, d8, _, rfl, e8, r8, d8, _, _, rfl, e8, rfl, rfl, _, rfl, iteNS rfl ?_⟩
    refine ⟨_, rfl, rfl, rfl, ?_⟩
    intro r9 dr9 n9 ndr9 ner9
    refine row_goodP NV.non (NV.fv l) rfl (okf_fv hl) n9 ndr9 fun H9 s9 h9 => ?_
    obtain ⟨d9, e9⟩ := h9
    refine ⟨r9, d9, _, rfl, e9, r9, d9, _, _, rfl, e9, rfl, rfl, _, rfl, iteNS rfl ?_⟩
    refine ⟨_, rfl, ?_⟩
    intro ra dra nA ndra nera
    refine row_goodP (NV.fv f) NV.non (okf_fv hf) rfl nA ndra fun HA sA hA => ?_
    obtain ⟨dA, eA⟩ := hA
    refine ⟨ra, dA, _, rfl, eA, ra, dA, _, _, rfl, eA, rfl, _, rfl, scal_fv _ _, _, rfl, iteNS rfl ?_⟩
    have WA := W7.same (s8.trans (s9.trans sA))
    -- ended
    refine ⟨_, rfl, p, c, 31, rfl, WA.P, by decide, by decide, fun HB d PB KB d0 d1 => ?_⟩
    obtain ⟨v, rfl⟩ := Int.eq_ofNat_of_zero_le d0
    have hv : v ≤ 30 := by omega
    have fv30 : fok (some v) := fun k z => by cases z; exact hv
    have WB := WA.kept KB PB
    have bv : btw (some (v : Int)) 0 30 = true := decide_eq_true (show (0 : Int) ≤ (v : Int) ∧ (v : Int) ≤ 30 by omega)
    refine ⟨_, rfl, r, dx, _, rfl, WB.er, rfl, _, rfl, r, fv f, fv l, vi v, nv f, some v, rfl, ⟨dx, WB.er⟩, NV.fv f, okf_fv hf, NV.int _, fun _ HC r2 sC nC hC => ?_, fun z => absurd (bv.symm.trans z) (by decide)⟩
    have WC := WB.same sC
    have oC := off PB nC
    obtain ⟨d2, e2⟩ := hC
    refine ⟨_, rfl, r2, d2, _, rfl, e2, r2, d2, _, _, rfl, e2, rfl, _, rfl, scal_fv _ _, _, rfl, iteNS rfl ?_⟩
    refine ⟨_, rfl, r2, d2, _, rfl, e2, r2, d2, _, _, rfl, e2, rfl, _, rfl, scal_fv (some v) (some v), _, rfl, iteNS rfl ?_⟩
    refine ⟨_, rfl, r, dx, _, rfl, WC.er, r, dx, _, _, rfl, WC.er, rfl, _, rfl, scal_fv _ _, _, rfl, iteNS rfl ?_⟩
    refine ⟨_, rfl, r, dx, _, rfl, WC.er, rfl, _, rfl, r, m, n, f, l, rfl, ⟨dx, WC.er⟩, hf, hl, WC.em, _, rfl, rfl, _, rfl, iteNS rfl ?_⟩
    refine ⟨fun σ' H' => σ' = [some (.ref a), some (.ref p), some (fv f), some (fv l), some (vi n), some (.ref lb), some (.ref m), some (.ref r), some (.bl (sees f l n)), some (vi v), some (.ref r2), none, none] ∧ H' = HC, ?_, ?_⟩
    · refine ⟨_, rfl, r2, d2, _, rfl, e2, rfl, _, rfl, r2, m, n, f, some v, rfl, ⟨d2, e2⟩, hf, fv30, WC.em, ?_⟩
      refine ⟨_, rfl, rfl, _, rfl, ?_⟩
      cases f with
      | none => exact iteT ⟨true, rfl, iteT ⟨_, rfl, _, rfl, lb, _, rfl, .inl (SqL.of WC.eb), rfl, flat_vi _, rfl, _, rfl, iteNS (congrArg V.bl (by rw [if_pos rfl]; exact (congrArg Bool.not (ibit hv)).symm)) ⟨rfl, rfl⟩⟩⟩
      | some k =>
        refine iteF ⟨_, rfl, _, rfl, lb, _, rfl, .inl (SqL.of WC.eb), rfl, flat_vi _, n.testBit k, congrArg V.bl (by rw [if_neg Bool.false_ne_true, ibit2 (hf k rfl)]), ?_⟩
        cases hb : n.testBit k with
        | false => exact iteF ⟨rfl, _, rfl, iteNS (congrArg V.bl (by simp [sees, hb])) ⟨rfl, rfl⟩⟩
        | true => exact iteT ⟨_, rfl, _, rfl, lb, _, rfl, .inl (SqL.of WC.eb), rfl, flat_vi _, rfl, _, rfl, iteNS (congrArg V.bl (by show sees (some k) (some v) n = !inV (vi v) ((bits n).map vi); rw [ibit hv]; simp [sees, hb])) ⟨rfl, rfl⟩⟩
    rintro σ' H' ⟨rfl, rfl⟩
    -- rows compared
    refine ⟨_, rfl, _, rfl, ⟨r, dx, _, rfl, WC.er⟩, ⟨.ref R, Z.T.ty ⟨d2, e2⟩, Z.nfR⟩, r, .ref r2, f, l, rfl, ⟨dx, WC.er⟩, .inl ⟨r2, f, some v, rfl, ⟨d2, e2⟩, _, rfl, _, rfl, scal_fv l (some v), rfl, _, rfl, iteNS (eqv1 f l v) ?_⟩⟩
    refine ⟨_, rfl, _, rfl, ⟨r2, d2, _, rfl, e2⟩, ⟨.ref R, Z.T.ty ⟨dx, WC.er⟩, Z.nfR⟩, r2, .ref r, f, some v, rfl, ⟨d2, e2⟩, .inl ⟨r, f, l, rfl, ⟨dx, WC.er⟩, _, rfl, _, rfl, scal_fv l (some v), rfl, _, rfl, iteNS (eqv2 f l v) ?_⟩⟩
    refine ⟨_, rfl, _, rfl, _, rfl, (by show 2 ≤ sizeLine; decide), fun t nt => ?_⟩
    have WD := WC.same (same_upd (o := .tup [fv f, fv l]) nt)
    refine ⟨⟨r, dx, _, rfl, WD.er⟩, ⟨.type "tuple", .base (.tup upd_same), Z.nfT⟩, r, .ref t, f, l, rfl, ⟨dx, WD.er⟩, .inr ⟨.type "tuple", .base (.tup upd_same), Z.ktR, _, rfl, iteF ?_⟩⟩
    refine ⟨_, rfl, _, rfl, _, rfl, ?_⟩
    intro x1 dx1 n1 nd1 ne1
    refine row_goodP (NV.fv (some v)) (NV.fv l) (okf_fv fv30) (okf_fv hl) n1 nd1 fun HE sE hE => ?_
    have WE := WD.same sE
    refine ⟨⟨r, dx, _, rfl, WE.er⟩, ⟨.ref R, Z.T.ty hE, Z.nfR⟩, r, .ref x1, f, l, rfl, ⟨dx, WE.er⟩, .inl ⟨x1, some v, l, rfl, hE, _, rfl, _, rfl, scal_fv f (some v), rfl, _, rfl, iteNS (eqv3 f l v) ?_⟩⟩
    refine ⟨_, rfl, _, rfl, ?_⟩
    intro x2 dx2 n2 nd2 ne2
    refine row_goodP (NV.fv (some v)) (NV.fv l) (okf_fv fv30) (okf_fv hl) n2 nd2 fun HF sF hF => ?_
    have WF := WE.same sF
    obtain ⟨dF, eF⟩ := id hF
    refine ⟨_, rfl, ⟨x2, dF, _, rfl, eF⟩, ⟨.ref R, Z.T.ty ⟨dx, WF.er⟩, Z.nfR⟩, x2, .ref r, some v, l, rfl, hF, .inl ⟨r, f, l, rfl, ⟨dx, WF.er⟩, _, rfl, _, rfl, scal_fv f (some v), rfl, _, rfl, iteNS (eqv4 f l v) ?_⟩⟩
    -- ancient rows
    refine ⟨rfl, rfl, fun HG g1 sG ng1 hG => ?_⟩
    obtain ⟨dG, eG⟩ := hG
    have WG := WF.same sG
    refine ⟨g1, dG, _, rfl, eG, g1, dG, _, _, rfl, eG, rfl, rfl, _, rfl, iteNS rfl ?_⟩
    refine ⟨rfl, rfl, fun HH g2 sH ng2 hH => ?_⟩
    obtain ⟨dH, eH⟩ := hH
    have WH := WG.same sH
    refine ⟨g2, dH, _, rfl, eH, g2, dH, _, _, rfl, eH, rfl, rfl, _, rfl, iteNS rfl ?_⟩
    refine ⟨rfl, rfl, fun HI g3 sI ng3 hI => ?_⟩
    obtain ⟨dI, eI⟩ := id hI
    have WI := WH.same sI
    refine ⟨g3, dI, _, rfl, eI, rfl, _, rfl, g3, m, n, none, none, rfl, hI, (fun k z => nomatch z), (fun k z => nomatch z), WI.em, true, rfl, iteF ?_⟩
    -- odd values
    refine ⟨_, rfl, p, c, rfl, WI.P, fun HJ bad PJ KJ hbad => ?_⟩
    have WJ := WI.kept KJ PJ
    refine ⟨_, rfl, p, c, rfl, PJ, fun HK worse PK KK hworse => ?_⟩
    have WK := WJ.kept KK PK
    obtain ⟨ob, bb, vb⟩ := hbad
    obtain ⟨ow, bw, vw⟩ := hworse
    have vb := vb _ KK
    have vw := vw _ Kept.rfl'
    refine ⟨_, rfl, _, rfl, r, f, l, bad, ob, rfl, ⟨dx, WK.er⟩, hf, vb, bb, fun HL sL => ⟨rfl, _, rfl, iteNS rfl ?_⟩⟩
    have WL := WK.same sL
    refine ⟨_, rfl, r, f, l, .non, none, rfl, ⟨dx, WL.er⟩, hf, NV.non, rfl, fun HM sM => ⟨rfl, _, rfl, iteNS rfl ?_⟩⟩
    have WM := WL.same sM
    have vb2 := vb.same (sL.trans sM)
    have vw2 := vw.same (sL.trans sM)
    refine ⟨_, rfl, _, rfl, (by show 2 ≤ sizeLine; decide), fun t1 m1 => ⟨_, rfl, _, rfl, (by show 2 ≤ sizeLine; decide), fun t2 m2 => ⟨_, rfl, _, rfl, (by show 2 ≤ sizeLine; decide), fun t3 m3 => ⟨_, rfl, (by show 2 ≤ sizeLine; decide), fun t4 m4 => ⟨(by show 4 ≤ sizeLine; decide), fun L mL => ?_⟩⟩⟩⟩⟩
    have u1 := same_upd (o := .tup [bad, fv l]) m1
    have u2 := same_upd (o := .tup [fv f, bad]) m2
    have u3 := same_upd (o := .tup [bad, worse]) m3
    have u4 := same_upd (o := .tup [worse, V.non]) m4
    have u5 := same_upd (o := .lst [V.ref t1, V.ref t2, V.ref t3, V.ref t4]) mL
    have w45 := u4.trans u5
    have w35 := u3.trans w45
    have w25 := u2.trans w35
    have w15 := u1.trans w25
    refine ⟨L, [t1, t2, t3, t4], rfl, upd_same, fun t ht => ?_, fun HN sN => ⟨true, rfl, iteF ?_⟩⟩
    · have vb3 := vb2.same w15
      have vw3 := vw2.same w15
      rcases List.mem_cons.mp ht with rfl | ht
      · exact ⟨bad, fv l, ob, nv l, w25 _ _ upd_same, vb3, NV.fv l⟩
      rcases List.mem_cons.mp ht with rfl | ht
      · exact ⟨fv f, bad, nv f, ob, w35 _ _ upd_same, NV.fv f, vb3⟩
      rcases List.mem_cons.mp ht with rfl | ht
      · exact ⟨bad, worse, ob, ow, w45 _ _ upd_same, vb3, vw3⟩
      rcases List.mem_cons.mp ht with rfl | ht
      · exact ⟨worse, .non, ow, none, u5 _ _ upd_same, vw3, NV.non⟩
      · cases ht
    have WN := WM.same (w15.trans sN)
    refine ⟨_, rfl, r, dx, _, rfl, WN.er, rfl, ?_⟩
    intro x3 dx3 n3 nd3 ne3
    refine ⟨HN, x3, dx3, 0, rfl, by decide, fun b o e => ?_, n3, upd_same, fun HO sO eO => ⟨rfl, ?_⟩⟩
    · rw [upd_ne (ne_of_none e n3), upd_ne (ne_of_none e nd3)]
      exact e
    have WO := WN.same sO
    refine ⟨r, x3, 0, f, l, rfl, ⟨dx, WO.er⟩, hf, hl, ⟨by decide, dx3, eO⟩, ?_⟩
    refine ⟨_, rfl, rfl, rfl, true, congrArg V.bl (sees0 f l), iteT ?_⟩
    refine ⟨_, rfl, _, rfl, _, rfl, ?_⟩
    intro x4 dx4 n4 nd4 ne4
    refine row_goodP (NV.fv f) (NV.fv l) (okf_fv hf) (okf_fv hl) n4 nd4 fun HP sP hP => ?_
    have WP := WO.same sP
    refine ⟨⟨r, dx, _, rfl, WP.er⟩, ⟨.ref R, Z.T.ty hP, Z.nfR⟩, r, .ref x4, f, l, rfl, ⟨dx, WP.er⟩, .inl ⟨x4, f, l, rfl, hP, ?_⟩⟩
    have e : decide (f = f ∧ l = l) = true := by simp
    rw [e]
    exact q HP
end
end Toy
set_option Elab.async false
set_option linter.all false
set_option maxRecDepth 100000
set_option maxHeartbeats 4000000
namespace Toy
open PySem PySem.Spec PyProof.Rows L2
section
variable {P : Program} {w : World} {K : PySem.W.Frag} {mg : Str → Option Value} {base : Heap} {R B f : Addr} {fd : FuncData}
abbrev RowD (K : PySem.W.Frag) (f : Addr) (fd : FuncData) : Prop := FunD K "__init__" "Row.__init__" (defArgs s_Row_init) (defBody s_Row_init) (defScope s_Row_init) [.non, .non] [] f fd
theorem row_b2 (F : RowD K f fd) : L2.Binds K fd ["self", "beginner", "ender"] [] := by
  obtain ⟨ds, hv, hb⟩ := F.binds1 (ps := ["self", "beginner", "ender"]) 3 2 (by simp) rfl (fun T kV doc pm an cdv ct us its hu hi => match us, hu, its, hi with | [_, _, _], _, [_, _], _ => ⟨_, rfl, rfl⟩)
  cases hv
  exact hb
theorem row_b1 (F : RowD K f fd) : ∃ u, RelV .non u ∧ L2.Binds K fd ["self", "beginner", "ender"] [u] := by
  obtain ⟨ds, hv, hb⟩ := F.binds1 (ps := ["self", "beginner", "ender"]) 2 1 (by simp) rfl (fun T kV doc pm an cdv ct us its hu hi => match us, hu, its, hi with | [_, _], _, [_, _], _ => ⟨_, rfl, rfl⟩)
  cases hv with
  | cons r1 r2 =>
    cases r2
    exact ⟨_, r1, hb⟩
theorem row_b0 (F : RowD K f fd) : ∃ u1 u2, RelV .non u1 ∧ RelV .non u2 ∧ L2.Binds K fd ["self", "beginner", "ender"] [u1, u2] := by
  obtain ⟨ds, hv, hb⟩ := F.binds1 (ps := ["self", "beginner", "ender"]) 1 0 (by simp) rfl (fun T kV doc pm an cdv ct us its hu hi => match us, hu, its, hi with | [_], _, [_, _], _ => ⟨_, rfl, rfl⟩)
  cases hv with
  | cons r1 r2 =>
    cases r2 with
    | cons r2 r3 =>
      cases r3
      exact ⟨_, _, r1, r2, hb⟩
theorem row_k2 (F : RowD K f fd) : ∃ g, KBn K fd ["self", "beginner", "ender"] 2 ["ender"] g (fun vs zs => vs ++ zs) := by
  obtain ⟨its, kb⟩ := F.kbindsD (ps := ["self", "beginner", "ender"]) 2 ["ender"] (fun us _ ws => us ++ ws) (by simp) (fun r1 _ r3 => r1.append r3) (fun T kV doc pm an cdv ct us its ws hu hi hw => match us, hu, its, hi, ws, hw with | [_, _], _, [_, _], _, [_], _ => ⟨_, rfl, rfl⟩)
  exact ⟨_, kb⟩
theorem row_k1 (F : RowD K f fd) : ∃ g, KBn K fd ["self", "beginner", "ender"] 1 ["ender"] g (fun vs zs => vs ++ ([.non] ++ zs)) := by
  obtain ⟨its, kb⟩ := F.kbindsD (ps := ["self", "beginner", "ender"]) 1 ["ender"] (fun us ds ws => us ++ (ds.take 1 ++ ws)) (by simp) (fun r1 r2 r3 => r1.append ((r2.take 1).append r3)) (fun T kV doc pm an cdv ct us its ws hu hi hw => match us, hu, its, hi, ws, hw with | [_], _, [_, _], _, [_], _ => ⟨_, rfl, rfl⟩)
  exact ⟨_, kb⟩
end
end Toy
set_option Elab.async false
set_option linter.all false
set_option maxRecDepth 100000
set_option maxHeartbeats 4000000
namespace Toy
open PySem PySem.Spec PyProof.Rows L2
theorem all_mk {l : PySem.W.OpenLaw} {w : World} {K : PySem.W.Frag} {h : Heap} {mg : Str → Option Value} {fa f_is_whole f_is_between f_is_writer_number f_is_field f_law_pot f_law_draw f_law_odd f_law_bits f_law_writer f_law_refused f_law_not_ended f_law_is_wrong f_law_all_refused f_law C R f_mi f_mc p_of f_of f_ri t_dri f_rs f_re f_rq p_an f_an p_pb f_pb p_pe f_pe D W B f_iB : Addr}  (X : K.In h) (G : h.Ns mainGlobals mg) (hfa : mg "law" = some (.ref fa))
    {od_is_whole an_is_whole : Option Addr} {sl_is_whole : Array (Option Value)} {oc_is_whole kV_is_whole dc_is_whole pm_is_whole cd_is_whole ct_is_whole : Value} {od_is_between an_is_between : Option Addr} {sl_is_between : Array (Option Value)} {oc_is_between kV_is_between dc_is_between pm_is_between cd_is_between ct_is_between : Value} {od_is_writer_number an_is_writer_number : Option Addr} {sl_is_writer_number : Array (Option Value)} {oc_is_writer_number kV_is_writer_number dc_is_writer_number pm_is_writer_number cd_is_writer_number ct_is_writer_number : Value} {od_is_field an_is_field : Option Addr} {sl_is_field : Array (Option Value)} {oc_is_field kV_is_field dc_is_field pm_is_field cd_is_field ct_is_field : Value} {od_law_pot an_law_pot : Option Addr} {sl_law_pot : Array (Option Value)} {oc_law_pot kV_law_pot dc_law_pot pm_law_pot cd_law_pot ct_law_pot : Value} {od_law_draw an_law_draw : Option Addr} {sl_law_draw : Array (Option Value)} {oc_law_draw kV_law_draw dc_law_draw pm_law_draw cd_law_draw ct_law_draw : Value} {od_law_odd an_law_odd : Option Addr} {sl_law_odd : Array (Option Value)} {oc_law_odd kV_law_odd dc_law_odd pm_law_odd cd_law_odd ct_law_odd : Value} {od_law_bits an_law_bits : Option Addr} {sl_law_bits : Array (Option Value)} {oc_law_bits kV_law_bits dc_law_bits pm_law_bits cd_law_bits ct_law_bits : Value} {od_law_writer an_law_writer : Option Addr} {sl_law_writer : Array (Option Value)} {oc_law_writer kV_law_writer dc_law_writer pm_law_writer cd_law_writer ct_law_writer : Value} {od_law_refused an_law_refused : Option Addr} {sl_law_refused : Array (Option Value)} {oc_law_refused kV_law_refused dc_law_refused pm_law_refused cd_law_refused ct_law_refused : Value} {od_law_not_ended an_law_not_ended : Option Addr} {sl_law_not_ended : Array (Option Value)} {oc_law_not_ended kV_law_not_ended dc_law_not_ended pm_law_not_ended cd_law_not_ended ct_law_not_ended : Value} {od_law_is_wrong an_law_is_wrong : Option Addr} {sl_law_is_wrong : Array (Option Value)} {oc_law_is_wrong kV_law_is_wrong dc_law_is_wrong pm_law_is_wrong cd_law_is_wrong ct_law_is_wrong : Value} {od_law_all_refused an_law_all_refused : Option Addr} {sl_law_all_refused : Array (Option Value)} {oc_law_all_refused kV_law_all_refused dc_law_all_refused pm_law_all_refused cd_law_all_refused ct_law_all_refused : Value} {od_law an_law : Option Addr} {sl_law : Array (Option Value)} {oc_law kV_law dc_law pm_law cd_law ct_law : Value} {od_mi an_mi : Option Addr} {sl_mi : Array (Option Value)} {oc_mi kV_mi dc_mi pm_mi cd_mi ct_mi : Value} {od_mc an_mc : Option Addr} {sl_mc : Array (Option Value)} {oc_mc kV_mc dc_mc pm_mc cd_mc ct_mc : Value} {rest_of : List Value} {od_of an_of : Option Addr} {sl_of : Array (Option Value)} {oc_of kV_of dc_of pm_of cd_of ct_of : Value} {od_ri an_ri : Option Addr} {sl_ri : Array (Option Value)} {oc_ri kV_ri dc_ri pm_ri cd_ri ct_ri dV_ri : Value} {tc_dri : Value} {to_dri : Option Addr} {ti_dri : Array Value} {tn_dri : Nat} {ts_dri : Array (Option Value)} {od_rs an_rs : Option Addr} {sl_rs : Array (Option Value)} {oc_rs kV_rs dc_rs pm_rs cd_rs ct_rs : Value} {od_re an_re : Option Addr} {sl_re : Array (Option Value)} {oc_re kV_re dc_re pm_re cd_re ct_re : Value} {od_rq an_rq : Option Addr} {sl_rq : Array (Option Value)} {oc_rq kV_rq dc_rq pm_rq cd_rq ct_rq : Value} {rest_an : List Value} {od_an an_an : Option Addr} {sl_an : Array (Option Value)} {oc_an kV_an dc_an pm_an cd_an ct_an : Value} {rest_pb : List Value} {od_pb an_pb : Option Addr} {sl_pb : Array (Option Value)} {oc_pb kV_pb dc_pb pm_pb cd_pb ct_pb : Value} {rest_pe : List Value} {od_pe an_pe : Option Addr} {sl_pe : Array (Option Value)} {oc_pe kV_pe dc_pe pm_pe cd_pe ct_pe : Value} {nm_B qn_B : Str} {ns_B : Addr} {bs_B bm_B : List Value} {sn_B : List Str} {sb_B : List Value} {ab_B : Bool} {co_B : Option Bool} {dd_B : Option Addr} {m0_B m1_B m2_B m3_B m5_B : Option Value} {od_iB an_iB : Option Addr} {sl_iB : Array (Option Value)} {oc_iB kV_iB dc_iB pm_iB cd_iB ct_iB : Value} {tw tl : Tok}
    (a_is_whole : PySem.W.nsIn K mainGlobals "is_whole" = some (some (.ref f_is_whole)))
    (l_is_whole : K.lookup f_is_whole = some ⟨oc_is_whole, od_is_whole, .func (PySem.W.fnOf "is_whole" "is_whole" (defArgs s_is_whole) (defBody s_is_whole) (defScope s_is_whole) .none kV_is_whole dc_is_whole pm_is_whole an_is_whole cd_is_whole ct_is_whole), sl_is_whole⟩)
    (c_is_whole : PySem.W.codeIn K cd_is_whole "is_whole" = true)
    (k_is_whole : PySem.W.keepIn K (.ref f_is_whole) = true)
    (a_is_between : PySem.W.nsIn K mainGlobals "is_between" = some (some (.ref f_is_between)))
    (l_is_between : K.lookup f_is_between = some ⟨oc_is_between, od_is_between, .func (PySem.W.fnOf "is_between" "is_between" (defArgs s_is_between) (defBody s_is_between) (defScope s_is_between) .none kV_is_between dc_is_between pm_is_between an_is_between cd_is_between ct_is_between), sl_is_between⟩)
    (c_is_between : PySem.W.codeIn K cd_is_between "is_between" = true)
    (k_is_between : PySem.W.keepIn K (.ref f_is_between) = true)
    (a_is_writer_number : PySem.W.nsIn K mainGlobals "is_writer_number" = some (some (.ref f_is_writer_number)))
    (l_is_writer_number : K.lookup f_is_writer_number = some ⟨oc_is_writer_number, od_is_writer_number, .func (PySem.W.fnOf "is_writer_number" "is_writer_number" (defArgs s_is_writer_number) (defBody s_is_writer_number) (defScope s_is_writer_number) .none kV_is_writer_number dc_is_writer_number pm_is_writer_number an_is_writer_number cd_is_writer_number ct_is_writer_number), sl_is_writer_number⟩)
    (c_is_writer_number : PySem.W.codeIn K cd_is_writer_number "is_writer_number" = true)
    (k_is_writer_number : PySem.W.keepIn K (.ref f_is_writer_number) = true)
    (a_is_field : PySem.W.nsIn K mainGlobals "_is_field" = some (some (.ref f_is_field)))
    (l_is_field : K.lookup f_is_field = some ⟨oc_is_field, od_is_field, .func (PySem.W.fnOf "_is_field" "_is_field" (defArgs s_is_field) (defBody s_is_field) (defScope s_is_field) .none kV_is_field dc_is_field pm_is_field an_is_field cd_is_field ct_is_field), sl_is_field⟩)
    (c_is_field : PySem.W.codeIn K cd_is_field "_is_field" = true)
    (k_is_field : PySem.W.keepIn K (.ref f_is_field) = true)
    (a_law_pot : PySem.W.nsIn K mainGlobals "_law_pot" = some (some (.ref f_law_pot)))
    (l_law_pot : K.lookup f_law_pot = some ⟨oc_law_pot, od_law_pot, .func (PySem.W.fnOf "_law_pot" "_law_pot" (defArgs s_law_pot) (defBody s_law_pot) (defScope s_law_pot) .none kV_law_pot dc_law_pot pm_law_pot an_law_pot cd_law_pot ct_law_pot), sl_law_pot⟩)
    (c_law_pot : PySem.W.codeIn K cd_law_pot "_law_pot" = true)
    (k_law_pot : PySem.W.keepIn K (.ref f_law_pot) = true)
    (a_law_draw : PySem.W.nsIn K mainGlobals "_law_draw" = some (some (.ref f_law_draw)))
    (l_law_draw : K.lookup f_law_draw = some ⟨oc_law_draw, od_law_draw, .func (PySem.W.fnOf "_law_draw" "_law_draw" (defArgs s_law_draw) (defBody s_law_draw) (defScope s_law_draw) .none kV_law_draw dc_law_draw pm_law_draw an_law_draw cd_law_draw ct_law_draw), sl_law_draw⟩)
    (c_law_draw : PySem.W.codeIn K cd_law_draw "_law_draw" = true)
    (k_law_draw : PySem.W.keepIn K (.ref f_law_draw) = true)
    (a_law_odd : PySem.W.nsIn K mainGlobals "_law_odd" = some (some (.ref f_law_odd)))
    (l_law_odd : K.lookup f_law_odd = some ⟨oc_law_odd, od_law_odd, .func (PySem.W.fnOf "_law_odd" "_law_odd" (defArgs s_law_odd) (defBody s_law_odd) (defScope s_law_odd) .none kV_law_odd dc_law_odd pm_law_odd an_law_odd cd_law_odd ct_law_odd), sl_law_odd⟩)
    (c_law_odd : PySem.W.codeIn K cd_law_odd "_law_odd" = true)
    (k_law_odd : PySem.W.keepIn K (.ref f_law_odd) = true)
    (a_law_bits : PySem.W.nsIn K mainGlobals "_law_bits" = some (some (.ref f_law_bits)))
    (l_law_bits : K.lookup f_law_bits = some ⟨oc_law_bits, od_law_bits, .func (PySem.W.fnOf "_law_bits" "_law_bits" (defArgs s_law_bits) (defBody s_law_bits) (defScope s_law_bits) .none kV_law_bits dc_law_bits pm_law_bits an_law_bits cd_law_bits ct_law_bits), sl_law_bits⟩)
    (c_law_bits : PySem.W.codeIn K cd_law_bits "_law_bits" = true)
    (k_law_bits : PySem.W.keepIn K (.ref f_law_bits) = true)
    (a_law_writer : PySem.W.nsIn K mainGlobals "_law_writer" = some (some (.ref f_law_writer)))
    (l_law_writer : K.lookup f_law_writer = some ⟨oc_law_writer, od_law_writer, .func (PySem.W.fnOf "_law_writer" "_law_writer" (defArgs s_law_writer) (defBody s_law_writer) (defScope s_law_writer) .none kV_law_writer dc_law_writer pm_law_writer an_law_writer cd_law_writer ct_law_writer), sl_law_writer⟩)
    (c_law_writer : PySem.W.codeIn K cd_law_writer "_law_writer" = true)
    (k_law_writer : PySem.W.keepIn K (.ref f_law_writer) = true)
    (a_law_refused : PySem.W.nsIn K mainGlobals "_law_refused" = some (some (.ref f_law_refused)))
    (l_law_refused : K.lookup f_law_refused = some ⟨oc_law_refused, od_law_refused, .func (PySem.W.fnOf "_law_refused" "_law_refused" (defArgs s_law_refused) (defBody s_law_refused) (defScope s_law_refused) .none kV_law_refused dc_law_refused pm_law_refused an_law_refused cd_law_refused ct_law_refused), sl_law_refused⟩)
    (c_law_refused : PySem.W.codeIn K cd_law_refused "_law_refused" = true)
    (k_law_refused : PySem.W.keepIn K (.ref f_law_refused) = true)
    (a_law_not_ended : PySem.W.nsIn K mainGlobals "_law_not_ended" = some (some (.ref f_law_not_ended)))
    (l_law_not_ended : K.lookup f_law_not_ended = some ⟨oc_law_not_ended, od_law_not_ended, .func (PySem.W.fnOf "_law_not_ended" "_law_not_ended" (defArgs s_law_not_ended) (defBody s_law_not_ended) (defScope s_law_not_ended) .none kV_law_not_ended dc_law_not_ended pm_law_not_ended an_law_not_ended cd_law_not_ended ct_law_not_ended), sl_law_not_ended⟩)
    (c_law_not_ended : PySem.W.codeIn K cd_law_not_ended "_law_not_ended" = true)
    (k_law_not_ended : PySem.W.keepIn K (.ref f_law_not_ended) = true)
    (a_law_is_wrong : PySem.W.nsIn K mainGlobals "_law_is_wrong" = some (some (.ref f_law_is_wrong)))
    (l_law_is_wrong : K.lookup f_law_is_wrong = some ⟨oc_law_is_wrong, od_law_is_wrong, .func (PySem.W.fnOf "_law_is_wrong" "_law_is_wrong" (defArgs s_law_is_wrong) (defBody s_law_is_wrong) (defScope s_law_is_wrong) .none kV_law_is_wrong dc_law_is_wrong pm_law_is_wrong an_law_is_wrong cd_law_is_wrong ct_law_is_wrong), sl_law_is_wrong⟩)
    (c_law_is_wrong : PySem.W.codeIn K cd_law_is_wrong "_law_is_wrong" = true)
    (k_law_is_wrong : PySem.W.keepIn K (.ref f_law_is_wrong) = true)
    (a_law_all_refused : PySem.W.nsIn K mainGlobals "_law_all_refused" = some (some (.ref f_law_all_refused)))
    (l_law_all_refused : K.lookup f_law_all_refused = some ⟨oc_law_all_refused, od_law_all_refused, .func (PySem.W.fnOf "_law_all_refused" "_law_all_refused" (defArgs s_law_all_refused) (defBody s_law_all_refused) (defScope s_law_all_refused) .none kV_law_all_refused dc_law_all_refused pm_law_all_refused an_law_all_refused cd_law_all_refused ct_law_all_refused), sl_law_all_refused⟩)
    (c_law_all_refused : PySem.W.codeIn K cd_law_all_refused "_law_all_refused" = true)
    (k_law_all_refused : PySem.W.keepIn K (.ref f_law_all_refused) = true)
    (a_law : PySem.W.nsIn K mainGlobals "law" = some (some (.ref f_law)))
    (l_law : K.lookup f_law = some ⟨oc_law, od_law, .func (PySem.W.fnOf "law" "law" (defArgs s_law) (defBody s_law) (defScope s_law) .none kV_law dc_law pm_law an_law cd_law ct_law), sl_law⟩)
    (c_law : PySem.W.codeIn K cd_law "law" = true)
    (k_law : PySem.W.keepIn K (.ref f_law) = true)
    (a_C : PySem.W.nsIn K mainGlobals "Moment" = some (some (.ref C)))
    (pg_C : PySem.W.plainGet K C Str.empty = true)
    (hd_C : PySem.W.hasDictIn K C = true)
    (po_C : PySem.W.plainOver K C = true)
    (sa_C : PySem.W.findIn K (.ref C) "__setattr__" = some (some (.builtin "object.__setattr__")))
    (mk_C : PySem.W.makesIn K C = true)
    (kc_C : PySem.W.keepIn K (.ref C) = true)
    (cC_C : PySem.W.findIn K (.ref C) "__class__" = some (some (.builtin "object.__class__")))
    (cM_C : PySem.W.mroIn K C (.type "object") = some true)
    (kk_C : PySem.W.kitOne K (.ref C) (.ref C) = some true)
    (n_C__number : PySem.W.findIn K (.ref C) "_number" = some none)
    (a_R : PySem.W.nsIn K mainGlobals "Row" = some (some (.ref R)))
    (pg_R : PySem.W.plainGet K R Str.empty = true)
    (hd_R : PySem.W.hasDictIn K R = true)
    (po_R : PySem.W.plainOver K R = true)
    (sa_R : PySem.W.findIn K (.ref R) "__setattr__" = some (some (.builtin "object.__setattr__")))
    (mk_R : PySem.W.makesIn K R = true)
    (kc_R : PySem.W.keepIn K (.ref R) = true)
    (cC_R : PySem.W.findIn K (.ref R) "__class__" = some (some (.builtin "object.__class__")))
    (cM_R : PySem.W.mroIn K R (.type "object") = some true)
    (kk_R : PySem.W.kitOne K (.ref R) (.ref R) = some true)
    (n_R__beginner : PySem.W.findIn K (.ref R) "_beginner" = some none)
    (n_R__ender : PySem.W.findIn K (.ref R) "_ender" = some none)
    (cG : PySem.W.specialIn K (.builtin "object.__class__") "__get__" = some (some (.builtin "getset_descriptor.__get__")))
    (cT : PySem.W.takesIn K (.builtin "object.__class__") = some true)
    (rd_C : PySem.W.readsIn K C (.type "type") = true)
    (ga_C : PySem.W.specialIn K (.ref C) "__getattribute__" = some (some (.builtin "type.__getattribute__")))
    (rd_R : PySem.W.readsIn K R (.type "type") = true)
    (ga_R : PySem.W.specialIn K (.ref R) "__getattribute__" = some (some (.builtin "type.__getattribute__")))
    (a_mi : PySem.W.findIn K (.ref C) "__init__" = some (some (.ref f_mi)))
    (i_mi : PySem.W.isFn K (.ref f_mi) = true)
    (l_mi : K.lookup f_mi = some ⟨oc_mi, od_mi, .func (PySem.W.fnOf "__init__" "Moment.__init__" (defArgs s_Moment_init) (defBody s_Moment_init) (defScope s_Moment_init) .none kV_mi dc_mi pm_mi an_mi cd_mi ct_mi), sl_mi⟩)
    (c_mi : PySem.W.codeIn K cd_mi "Moment.__init__" = true)
    (k_mi : PySem.W.keepIn K (.ref f_mi) = true)
    (a_mc : PySem.W.findIn K (.ref C) "__contains__" = some (some (.ref f_mc)))
    (i_mc : PySem.W.isFn K (.ref f_mc) = true)
    (l_mc : K.lookup f_mc = some ⟨oc_mc, od_mc, .func (PySem.W.fnOf "__contains__" "Moment.__contains__" (defArgs s_Moment_contains) (defBody s_Moment_contains) (defScope s_Moment_contains) .none kV_mc dc_mc pm_mc an_mc cd_mc ct_mc), sl_mc⟩)
    (c_mc : PySem.W.codeIn K cd_mc "Moment.__contains__" = true)
    (k_mc : PySem.W.keepIn K (.ref f_mc) = true)
    (a_of : PySem.W.findCls K (.ref C) (.type "type") "of" = some (.get (.builtin "staticmethod.__get__") (.ref p_of) .none (.ref C)))
    (r_of : PySem.W.recIn K p_of "staticmethod" = some (.ref f_of :: rest_of))
    (l_of : K.lookup f_of = some ⟨oc_of, od_of, .func (PySem.W.fnOf "of" "Moment.of" (defArgs s_Moment_of) (defBody s_Moment_of) (defScope s_Moment_of) .none kV_of dc_of pm_of an_of cd_of ct_of), sl_of⟩)
    (c_of : PySem.W.codeIn K cd_of "Moment.of" = true)
    (k_of : PySem.W.keepIn K (.ref f_of) = true)
    (a_ri : PySem.W.findIn K (.ref R) "__init__" = some (some (.ref f_ri)))
    (i_ri : PySem.W.isFn K (.ref f_ri) = true)
    (l_ri : K.lookup f_ri = some ⟨oc_ri, od_ri, .func (PySem.W.fnOf "__init__" "Row.__init__" (defArgs s_Row_init) (defBody s_Row_init) (defScope s_Row_init) dV_ri kV_ri dc_ri pm_ri an_ri cd_ri ct_ri), sl_ri⟩)
    (c_ri : PySem.W.codeIn K cd_ri "Row.__init__" = true)
    (k_ri : PySem.W.keepIn K (.ref f_ri) = true)
    (dv_ri : dV_ri = .ref t_dri)
    (lk_dri : K.lookup t_dri = some ⟨tc_dri, to_dri, .seq ti_dri tn_dri, ts_dri⟩)
    (cl_dri : tc_dri = .type "tuple")
    (sz_dri : ti_dri.size ≤ sizeLine)
    (vl_dri : Vals [.non, .non] ti_dri.toList)
    (a_rs : PySem.W.findIn K (.ref R) "seen" = some (some (.ref f_rs)))
    (i_rs : PySem.W.isFn K (.ref f_rs) = true)
    (l_rs : K.lookup f_rs = some ⟨oc_rs, od_rs, .func (PySem.W.fnOf "seen" "Row.seen" (defArgs s_Row_seen) (defBody s_Row_seen) (defScope s_Row_seen) .none kV_rs dc_rs pm_rs an_rs cd_rs ct_rs), sl_rs⟩)
    (c_rs : PySem.W.codeIn K cd_rs "Row.seen" = true)
    (k_rs : PySem.W.keepIn K (.ref f_rs) = true)
    (a_re : PySem.W.findIn K (.ref R) "ended" = some (some (.ref f_re)))
    (i_re : PySem.W.isFn K (.ref f_re) = true)
    (l_re : K.lookup f_re = some ⟨oc_re, od_re, .func (PySem.W.fnOf "ended" "Row.ended" (defArgs s_Row_ended) (defBody s_Row_ended) (defScope s_Row_ended) .none kV_re dc_re pm_re an_re cd_re ct_re), sl_re⟩)
    (c_re : PySem.W.codeIn K cd_re "Row.ended" = true)
    (k_re : PySem.W.keepIn K (.ref f_re) = true)
    (a_rq : PySem.W.findIn K (.ref R) "__eq__" = some (some (.ref f_rq)))
    (i_rq : PySem.W.isFn K (.ref f_rq) = true)
    (l_rq : K.lookup f_rq = some ⟨oc_rq, od_rq, .func (PySem.W.fnOf "__eq__" "Row.__eq__" (defArgs s_Row_eq) (defBody s_Row_eq) (defScope s_Row_eq) .none kV_rq dc_rq pm_rq an_rq cd_rq ct_rq), sl_rq⟩)
    (c_rq : PySem.W.codeIn K cd_rq "Row.__eq__" = true)
    (k_rq : PySem.W.keepIn K (.ref f_rq) = true)
    (a_an : PySem.W.findCls K (.ref R) (.type "type") "ancient" = some (.get (.builtin "staticmethod.__get__") (.ref p_an) .none (.ref R)))
    (r_an : PySem.W.recIn K p_an "staticmethod" = some (.ref f_an :: rest_an))
    (l_an : K.lookup f_an = some ⟨oc_an, od_an, .func (PySem.W.fnOf "ancient" "Row.ancient" (defArgs s_Row_ancient) (defBody s_Row_ancient) (defScope s_Row_ancient) .none kV_an dc_an pm_an an_an cd_an ct_an), sl_an⟩)
    (c_an : PySem.W.codeIn K cd_an "Row.ancient" = true)
    (k_an : PySem.W.keepIn K (.ref f_an) = true)
    (a_pb : PySem.W.findIn K (.ref R) "beginner" = some (some (.ref p_pb)))
    (g1_pb : PySem.W.specialIn K (.ref p_pb) "__get__" = some (some (.builtin "property.__get__")))
    (g2_pb : PySem.W.takesIn K (.ref p_pb) = some true)
    (r_pb : PySem.W.recIn K p_pb "property" = some (.ref f_pb :: rest_pb))
    (l_pb : K.lookup f_pb = some ⟨oc_pb, od_pb, .func (PySem.W.fnOf "beginner" "Row.beginner" (defArgs s_Row_beginner) (defBody s_Row_beginner) (defScope s_Row_beginner) .none kV_pb dc_pb pm_pb an_pb cd_pb ct_pb), sl_pb⟩)
    (c_pb : PySem.W.codeIn K cd_pb "Row.beginner" = true)
    (k_pb : PySem.W.keepIn K (.ref f_pb) = true)
    (a_pe : PySem.W.findIn K (.ref R) "ender" = some (some (.ref p_pe)))
    (g1_pe : PySem.W.specialIn K (.ref p_pe) "__get__" = some (some (.builtin "property.__get__")))
    (g2_pe : PySem.W.takesIn K (.ref p_pe) = some true)
    (r_pe : PySem.W.recIn K p_pe "property" = some (.ref f_pe :: rest_pe))
    (l_pe : K.lookup f_pe = some ⟨oc_pe, od_pe, .func (PySem.W.fnOf "ender" "Row.ender" (defArgs s_Row_ender) (defBody s_Row_ender) (defScope s_Row_ender) .none kV_pe dc_pe pm_pe an_pe cd_pe ct_pe), sl_pe⟩)
    (c_pe : PySem.W.codeIn K cd_pe "Row.ender" = true)
    (k_pe : PySem.W.keepIn K (.ref f_pe) = true)
    (a_D : PySem.W.nsIn K mainGlobals "PagesError" = some (some (.ref D)))
    (a_W : PySem.W.nsIn K mainGlobals "BadWriter" = some (some (.ref W)))
    (a_B : PySem.W.nsIn K mainGlobals "BadRow" = some (some (.ref B)))
    (x_B : K.lookup B = some (excClassObj nm_B qn_B B ns_B bs_B bm_B true sn_B sb_B ab_B co_B dd_B m0_B m1_B m2_B m3_B m5_B "ValueError.__new__"))
    (rv_B : PySem.HandSPX.refsVE bm_B = true)
    (sa_B : PySem.W.findIn K (.ref B) "__setattr__" = some (some (.builtin "object.__setattr__")))
    (gt_B : PySem.W.findIn K (.ref B) "__getattribute__" = some (some (.builtin "BaseException.__getattribute__")))
    (gg_B : PySem.W.findIn K (.ref B) "__getattr__" = some none)
    (cC_B : PySem.W.findIn K (.ref B) "__class__" = some (some (.builtin "object.__class__")))
    (no_B : PySem.W.findIn K (.ref B) "field" = some none)
    (ex_B : PySem.W.subIn K (.ref B) (.type "BaseException") = some true)
    (ty_B : PySem.W.typeIn K (.ref B) = some (.type "type"))
    (kc_B : PySem.W.keepIn K (.ref B) = true)
    (hd_B : PySem.W.hasDictIn K B = true)
    (ic_B : (PySem.W.clsIn K B).isSome = true)
    (cM_B : PySem.W.mroIn K B (.type "object") = some true)
    (ss_B : PySem.W.subIn K (.ref B) (.ref B) = some true)
    (in_B : PySem.W.findIn K (.ref B) "__init__" = some (some (.ref f_iB)))
    (it_B : PySem.W.typeIn K (.ref f_iB) = some (.type "function"))
    (l_iB : K.lookup f_iB = some ⟨oc_iB, od_iB, .func (PySem.W.fnOf "__init__" "BadRow.__init__" (defArgs s_BadRow_init) (defBody s_BadRow_init) (defScope s_BadRow_init) .none kV_iB dc_iB pm_iB an_iB cd_iB ct_iB), sl_iB⟩)
    (c_iB : PySem.W.codeIn K cd_iB "BadRow.__init__" = true)
    (k_iB : PySem.W.keepIn K (.ref f_iB) = true)
    (rd_D : PySem.W.readsIn K D (.type "type") = true)
    (ga_D : PySem.W.specialIn K (.ref D) "__getattribute__" = some (some (.builtin "type.__getattribute__")))
    (up_D : PySem.W.findCls K (.ref D) (.type "type") "__init__" = some (.val (.builtin "ValueError.__init__")))
    (kBD : PySem.W.kitOne K (.ref B) (.ref D) = some true)
    (kBV : PySem.W.kitOne K (.ref B) (.type "ValueError") = some true)
    (kBW : PySem.W.kitOne K (.ref B) (.ref W) = some false)
    (kTR : PySem.W.kitOne K (.type "tuple") (.ref R) = some false)
    (kIC : PySem.W.kitOne K (.type "int") (.ref C) = some false)
    (nfR : PySem.W.notFirst K R (.ref R) = true)
    (nfT : PySem.W.notFirst K R (.type "tuple") = true)
    (lw : PySem.W.nsIn K mainGlobals "LAST_WRITER" = some (some (.int 30 tw)))
    (ln : PySem.W.nsIn K mainGlobals "LAST_NUMBER" = some (some (.int 2147483647 tl)))
    (z_len : PySem.W.nsIn K mainGlobals "len" = some none)
    (z_int : PySem.W.nsIn K mainGlobals "int" = some none)
    (z_bool : PySem.W.nsIn K mainGlobals "bool" = some none)
    (z_isinstance : PySem.W.nsIn K mainGlobals "isinstance" = some none)
    (z_range : PySem.W.nsIn K mainGlobals "range" = some none)
    (z_sum : PySem.W.nsIn K mainGlobals "sum" = some none)
    (z_list : PySem.W.nsIn K mainGlobals "list" = some none)
    (z_ValueError : PySem.W.nsIn K mainGlobals "ValueError" = some none) :
    ∃ fd : FuncData, (∀ (s : Shared) (v : Value), BindsTo s fd ⟨[v], []⟩ [("script", v)]) ∧ ∀ base : Heap, K.In base → base.Ns mainGlobals mg → FnOk l.prog w K mg base CX0 9 fa fd ["script"] (spLaw K) := by
  have e := hfa.symm.trans (PySem.W.mg_of X G a_law)
  cases e
  have F_is_whole := fun_mk (st := s_is_whole) l_is_whole c_is_whole k_is_whole
  have b_is_whole := F_is_whole.binds (ps := ["value"]) fun _ _ _ _ _ _ us hl => match us, hl with | [_], _ => rfl
  have F_is_between := fun_mk (st := s_is_between) l_is_between c_is_between k_is_between
  have b_is_between := F_is_between.binds (ps := ["value", "low", "high"]) fun _ _ _ _ _ _ us hl => match us, hl with | [_, _, _], _ => rfl
  have F_is_writer_number := fun_mk (st := s_is_writer_number) l_is_writer_number c_is_writer_number k_is_writer_number
  have b_is_writer_number := F_is_writer_number.binds (ps := ["value"]) fun _ _ _ _ _ _ us hl => match us, hl with | [_], _ => rfl
  have F_is_field := fun_mk (st := s_is_field) l_is_field c_is_field k_is_field
  have b_is_field := F_is_field.binds (ps := ["value"]) fun _ _ _ _ _ _ us hl => match us, hl with | [_], _ => rfl
  have F_law_pot := fun_mk (st := s_law_pot) l_law_pot c_law_pot k_law_pot
  have b_law_pot := F_law_pot.binds (ps := ["script"]) fun _ _ _ _ _ _ us hl => match us, hl with | [_], _ => rfl
  have F_law_draw := fun_mk (st := s_law_draw) l_law_draw c_law_draw k_law_draw
  have b_law_draw := F_law_draw.binds (ps := ["pot", "many"]) fun _ _ _ _ _ _ us hl => match us, hl with | [_, _], _ => rfl
  have F_law_odd := fun_mk (st := s_law_odd) l_law_odd c_law_odd k_law_odd
  have b_law_odd := F_law_odd.binds (ps := ["pot"]) fun _ _ _ _ _ _ us hl => match us, hl with | [_], _ => rfl
  have F_law_bits := fun_mk (st := s_law_bits) l_law_bits c_law_bits k_law_bits
  have b_law_bits := F_law_bits.binds (ps := ["number"]) fun _ _ _ _ _ _ us hl => match us, hl with | [_], _ => rfl
  have F_law_writer := fun_mk (st := s_law_writer) l_law_writer c_law_writer k_law_writer
  have b_law_writer := F_law_writer.binds (ps := ["pot"]) fun _ _ _ _ _ _ us hl => match us, hl with | [_], _ => rfl
  have F_law_refused := fun_mk (st := s_law_refused) l_law_refused c_law_refused k_law_refused
  have b_law_refused := F_law_refused.binds (ps := ["first", "last"]) fun _ _ _ _ _ _ us hl => match us, hl with | [_, _], _ => rfl
  have F_law_not_ended := fun_mk (st := s_law_not_ended) l_law_not_ended c_law_not_ended k_law_not_ended
  have b_law_not_ended := F_law_not_ended.binds (ps := ["row", "writer"]) fun _ _ _ _ _ _ us hl => match us, hl with | [_, _], _ => rfl
  have F_law_is_wrong := fun_mk (st := s_law_is_wrong) l_law_is_wrong c_law_is_wrong k_law_is_wrong
  have b_law_is_wrong := F_law_is_wrong.binds (ps := ["value"]) fun _ _ _ _ _ _ us hl => match us, hl with | [_], _ => rfl
  have F_law_all_refused := fun_mk (st := s_law_all_refused) l_law_all_refused c_law_all_refused k_law_all_refused
  have b_law_all_refused := F_law_all_refused.binds (ps := ["pairs"]) fun _ _ _ _ _ _ us hl => match us, hl with | [_], _ => rfl
  have F_law := fun_mk (st := s_law) l_law c_law k_law
  have F_mc := fun_mk (st := s_Moment_contains) l_mc c_mc k_mc
  have b_mc := F_mc.binds (ps := ["self", "value"]) fun _ _ _ _ _ _ us hl => match us, hl with | [_, _], _ => rfl
  have F_of := fun_mk (st := s_Moment_of) l_of c_of k_of
  have b_of := F_of.binds (ps := ["number"]) fun _ _ _ _ _ _ us hl => match us, hl with | [_], _ => rfl
  have F_rs := fun_mk (st := s_Row_seen) l_rs c_rs k_rs
  have b_rs := F_rs.binds (ps := ["self", "moment"]) fun _ _ _ _ _ _ us hl => match us, hl with | [_, _], _ => rfl
  have F_re := fun_mk (st := s_Row_ended) l_re c_re k_re
  have b_re := F_re.binds (ps := ["self", "writer"]) fun _ _ _ _ _ _ us hl => match us, hl with | [_, _], _ => rfl
  have F_rq := fun_mk (st := s_Row_eq) l_rq c_rq k_rq
  have b_rq := F_rq.binds (ps := ["self", "other"]) fun _ _ _ _ _ _ us hl => match us, hl with | [_, _], _ => rfl
  have F_an := fun_mk (st := s_Row_ancient) l_an c_an k_an
  have b_an := F_an.binds (ps := []) fun _ _ _ _ _ _ us hl => match us, hl with | [], _ => rfl
  have F_pb := fun_mk (st := s_Row_beginner) l_pb c_pb k_pb
  have b_pb := F_pb.binds (ps := ["self"]) fun _ _ _ _ _ _ us hl => match us, hl with | [_], _ => rfl
  have F_pe := fun_mk (st := s_Row_ender) l_pe c_pe k_pe
  have b_pe := F_pe.binds (ps := ["self"]) fun _ _ _ _ _ _ us hl => match us, hl with | [_], _ => rfl
  have F_iB := fun_mk (st := s_BadRow_init) l_iB c_iB k_iB
  have b_iB := F_iB.binds (ps := ["self", "field"]) fun _ _ _ _ _ _ us hl => match us, hl with | [_, _], _ => rfl
  have ox_B : OexC K B := ⟨⟨_, _, _, _, _, _, _, _, _, _, _, _, _, _, _, x_B, rv_B⟩, sa_B, ex_B, ty_B, kc_B⟩
  refine ⟨PySem.W.fnOf "law" "law" (defArgs s_law) (defBody s_law) (defScope s_law) .none kV_law dc_law pm_law an_law cd_law ct_law, fun s v => .of_eq rfl, fun base _ _ => ?_⟩
  have mz : ∀ {n : Str}, PySem.W.nsIn K mainGlobals n = some none → mg n = none := fun z => PySem.W.mg_none_of X G z
  have T : Txt K mg C := ⟨⟨pg_C, hd_C, po_C, sa_C⟩, n_C__number, PySem.W.mg_of X G a_C, mz z_len, mz z_int, mz z_bool, mz z_isinstance, mz z_range, mz z_sum, mz z_list, cC_C, cG, cT, cM_C, kk_C, kIC, ⟨tw, PySem.W.mg_of X G lw⟩, ⟨tl, PySem.W.mg_of X G ln⟩⟩
  have TI : NmI mg := ⟨mz z_isinstance, mz z_int, mz z_bool⟩
  have GW := ok_wholeG (P := l.prog) (w := w) (base := base) F_is_whole TI
  have GB := ok_betwG F_is_between GW k_is_whole b_is_whole (PySem.W.mg_of X G a_is_whole)
  have GI := ok_isWG F_is_writer_number GB k_is_between b_is_between (PySem.W.mg_of X G a_is_between) ⟨tw, PySem.W.mg_of X G lw⟩
  have gI := PySem.W.mg_of X G a_is_writer_number
  have M : Mk K C f_mi := ⟨mk_C, a_mi, i_mi, kc_C⟩
  have GM : FnR l.prog w K mg base CX0 4 f_mi (spMk C) := ok_init l_mi c_mi T (isW_int GI) k_is_writer_number b_is_writer_number gI
  have GO := ok_of F_of T (betw_int GB) k_is_between b_is_between (PySem.W.mg_of X G a_is_between) M GM
  have GC := ok_contains F_mc T.cl T.nN GI k_is_writer_number b_is_writer_number gI
  have ZC : ContF l.prog w K mg base C f_mc := ⟨a_mc, i_mc, Vx.fnR GC b_mc⟩
  have GF := ok_field F_is_field GI k_is_writer_number b_is_writer_number gI
  have er : Err l.prog w K mg base "BadRow" "field" B f_iB _ (spErr K "field") := ⟨ox_B, no_B, PySem.W.mg_of X G a_B, in_B, it_B, ok_BadRow_init F_iB (PySem.W.mg_of X G a_D) ⟨⟨rd_D, ga_D⟩, up_D⟩, b_iB⟩
  have clR : Cls K R := ⟨pg_R, hd_R, po_R, sa_R⟩
  have RT : RowT l.prog w K mg base R B f_is_field f_iB _ _ := ⟨clR, n_R__beginner, n_R__ender, GF, k_is_field, b_is_field, PySem.W.mg_of X G a_is_field, er⟩
  have DR : RowD K f_ri _ := ⟨⟨oc_ri, od_ri, dV_ri, kV_ri, dc_ri, pm_ri, an_ri, cd_ri, ct_ri, sl_ri, rfl, l_ri, c_ri, .inr ⟨by simp, t_dri, _, ti_dri.toList, tn_dri, dv_ri, lk_dri, rfl, vl_dri⟩, .inl rfl⟩, k_ri⟩
  have GR := ok_Row_init (P := l.prog) (w := w) (base := base) DR RT
  have RM : RowM l.prog w K mg base R B f_ri _ := ⟨⟨mk_R, a_ri, i_ri, kc_R⟩, PySem.W.mg_of X G a_R, GR, row_b2 DR, row_b1 DR, row_b0 DR⟩
  have RC : RowC K mg R := ⟨clR, cC_R, cG, cT, cM_R, kk_R⟩
  obtain ⟨g1, kb1⟩ := row_k1 DR
  obtain ⟨g2, kb2⟩ := row_k2 DR
  have SU : Sui K B "field" := ⟨⟨ic_B, gt_B, gg_B, ex_B, cC_B, cG, cT, cM_B⟩, ⟨gt_B, gg_B, ex_B, hd_B⟩, no_B, PySem.W.exm_ref ex_B hd_B ty_B ss_B⟩
  have GD : FnOk l.prog w K mg base CX0 1 f_law_draw _ ["pot", "many"] spDraw := ok_draw F_law_draw T.int T.len
  have DW : Drw l.prog w K mg base f_law_draw _ := ⟨GD, k_law_draw, b_law_draw, PySem.W.mg_of X G a_law_draw⟩
  have GE := ok_ended F_re clR n_R__beginner RM er GI k_is_writer_number b_is_writer_number gI
  have GRf := ok_refd F_law_refused RM kb2 SU ⟨mz z_isinstance, PySem.W.mg_of X G a_B, PySem.W.mg_of X G a_D, PySem.W.mg_of X G a_W, mz z_ValueError, kBD, kBV, kBW⟩
  have GWr := ok_wrong (P := l.prog) (w := w) (base := base) F_law_is_wrong TI
  exact ok_law F_law { pot := ⟨ok_pot F_law_pot T.int, k_law_pot, b_law_pot, PySem.W.mg_of X G a_law_pot⟩, draw := ⟨GD, k_law_draw, b_law_draw, PySem.W.mg_of X G a_law_draw⟩, wtr := ⟨ok_wtr F_law_writer DW, k_law_writer, b_law_writer, PySem.W.mg_of X G a_law_writer⟩, bits := ⟨ok_bits F_law_bits T.int T.range, k_law_bits, b_law_bits, PySem.W.mg_of X G a_law_bits⟩, odd := ⟨ok_odd F_law_odd DW, k_law_odd, b_law_odd, PySem.W.mg_of X G a_law_odd⟩, note := ⟨ok_note F_law_not_ended clR ⟨a_re, i_re, k_re⟩ (Vx.fnR GE b_re) SU (PySem.W.mg_of X G a_B), k_law_not_ended, b_law_not_ended, PySem.W.mg_of X G a_law_not_ended⟩, all := ⟨ok_allr F_law_all_refused GWr k_law_is_wrong b_law_is_wrong (PySem.W.mg_of X G a_law_is_wrong) GRf k_law_refused b_law_refused (PySem.W.mg_of X G a_law_refused), k_law_all_refused, b_law_all_refused, PySem.W.mg_of X G a_law_all_refused⟩, gC := PySem.W.mg_of X G a_C, mkC := M, FC := GM, rdC := ⟨rd_C, ga_C⟩, ofC := ⟨a_of, ⟨_, r_of⟩, k_of⟩, Fof := Vx.fnR GO b_of, Z := RM, T := RC, nB := n_R__beginner, nE := n_R__ender, kb := kb1, mS := ⟨a_rs, i_rs, k_rs⟩, bS := b_rs, FS := ok_seen F_rs clR n_R__beginner n_R__ender ZC, mE := ⟨a_re, i_re, k_re⟩, bE := b_re, FE := GE, prB := ⟨a_pb, g1_pb, g2_pb, ⟨_, r_pb⟩⟩, FB := fn_getter l_pb c_pb sc_Row_beginner rfl rfl clR n_R__beginner, bB := b_pb, prE := ⟨a_pe, g1_pe, g2_pe, ⟨_, r_pe⟩⟩, FEn := fn_getter l_pe c_pe sc_Row_ender rfl rfl clR n_R__ender, bEn := b_pe, rdR := ⟨rd_R, ga_R⟩, anR := ⟨a_an, ⟨_, r_an⟩, k_an⟩, Fan := Vx.fnR (ok_ancient F_an RM) b_an, eq := a_rq, fnq := i_rq, Feq := Vx.fnR (ok_row_eq F_rq RC (PySem.W.mg_of X G a_R) TI.isi n_R__beginner n_R__ender) b_rq, nfR := nfR, nfT := nfT, ktR := kTR }
theorem walk {l : PySem.W.OpenLaw} {q : Program} {loose : List Str} {XP : (Str → Option Value) → Heap → Prop} {YP : World → Heap → Prop} {d : DefRec} {K : Params → PySem.W.Frag} (hn : l.most = some 63) (hdf : d.params.defaults = [])
    (hY : ∀ (w : World) (h : Heap), YP w h → (K w.params).In h)
    (F : ∀ (w : World) (mg : Str → Option Value) (fa : Addr) (h : Heap), (K w.params).In h → h.Ns mainGlobals mg → mg d.name = some (.ref fa) →
      ∃ fd : FuncData, (∀ (s : Shared) (u : Value), BindsTo s fd ⟨[u], []⟩ [("script", u)]) ∧ ∀ base : Heap, (K w.params).In base → base.Ns mainGlobals mg → FnOk l.prog w (K w.params) mg base CX0 9 fa fd ["script"] (spLaw (K w.params))) :
    PySem.W.WalkO q loose XP YP l.row.toRowW d [] (fun f vs => PySem.call f vs) :=
  L2.walk_of (n := 63) (k := 9) (x := "script") (CX := fun _ => CX0) (sp := fun w => spLaw (K w.params)) hn (by decide) hdf ⟨rfl, by decide, by decide⟩ hY F (fun _ _ a ns hl _ hS => ⟨a, ns, rfl, hS, hl, fun _ => rfl⟩) fun _ _ _ _ _ z => z
end Toy
open PySem PySem.W PyProof.Rows in
set_option maxRecDepth 100000 in
set_option maxHeartbeats 0 in
theorem PySem.Challenge.cw_trustedpages_k05_rows_and_who_sees_them_holds : PySem.Challenge.rw_trustedpages_k05_rows_and_who_sees_them.Holds := by
  w_on; o_law; k_head; (case hw => w_witness2)
  k_fill
  refine Toy.walk (l := PySem.Challenge.rw_trustedpages_k05_rows_and_who_sees_them) rfl rfl (fun w h Y => PySem.W.kIn_of Y) ?F
  case F =>
    intro w mg fa h KX G hmg
    refine' Toy.all_mk KX G hmg ?a_is_whole ?l_is_whole ?c_is_whole ?k_is_whole ?a_is_between ?l_is_between ?c_is_between ?k_is_between ?a_is_writer_number ?l_is_writer_number ?c_is_writer_number ?k_is_writer_number ?a_is_field ?l_is_field ?c_is_field ?k_is_field ?a_law_pot ?l_law_pot ?c_law_pot ?k_law_pot ?a_law_draw ?l_law_draw ?c_law_draw ?k_law_draw ?a_law_odd ?l_law_odd ?c_law_odd ?k_law_odd ?a_law_bits ?l_law_bits ?c_law_bits ?k_law_bits ?a_law_writer ?l_law_writer ?c_law_writer ?k_law_writer ?a_law_refused ?l_law_refused ?c_law_refused ?k_law_refused ?a_law_not_ended ?l_law_not_ended ?c_law_not_ended ?k_law_not_ended ?a_law_is_wrong ?l_law_is_wrong ?c_law_is_wrong ?k_law_is_wrong ?a_law_all_refused ?l_law_all_refused ?c_law_all_refused ?k_law_all_refused ?a_law ?l_law ?c_law ?k_law ?a_C ?pg_C ?hd_C ?po_C ?sa_C ?mk_C ?kc_C ?cC_C ?cM_C ?kk_C ?n_C__number ?a_R ?pg_R ?hd_R ?po_R ?sa_R ?mk_R ?kc_R ?cC_R ?cM_R ?kk_R ?n_R__beginner ?n_R__ender ?cG ?cT ?rd_C ?ga_C ?rd_R ?ga_R ?a_mi ?i_mi ?l_mi ?c_mi ?k_mi ?a_mc ?i_mc ?l_mc ?c_mc ?k_mc ?a_of ?r_of ?l_of ?c_of ?k_of ?a_ri ?i_ri ?l_ri ?c_ri ?k_ri ?dv_ri ?lk_dri ?cl_dri ?sz_dri ?vl_dri ?a_rs ?i_rs ?l_rs ?c_rs ?k_rs ?a_re ?i_re ?l_re ?c_re ?k_re ?a_rq ?i_rq ?l_rq ?c_rq ?k_rq ?a_an ?r_an ?l_an ?c_an ?k_an ?a_pb ?g1_pb ?g2_pb ?r_pb ?l_pb ?c_pb ?k_pb ?a_pe ?g1_pe ?g2_pe ?r_pe ?l_pe ?c_pe ?k_pe ?a_D ?a_W ?a_B ?x_B ?rv_B ?sa_B ?gt_B ?gg_B ?cC_B ?no_B ?ex_B ?ty_B ?kc_B ?hd_B ?ic_B ?cM_B ?ss_B ?in_B ?it_B ?l_iB ?c_iB ?k_iB ?rd_D ?ga_D ?up_D ?kBD ?kBV ?kBW ?kTR ?kIC ?nfR ?nfT ?lw ?ln ?z_len ?z_int ?z_bool ?z_isinstance ?z_range ?z_sum ?z_list ?z_ValueError
    (case a_is_whole => k_is)
    (case l_is_whole => k_is)
    (case c_is_whole => k_is)
    (case k_is_whole => k_is)
    (case a_is_between => k_is)
    (case l_is_between => k_is)
    (case c_is_between => k_is)
    (case k_is_between => k_is)
    (case a_is_writer_number => k_is)
    (case l_is_writer_number => k_is)
    (case c_is_writer_number => k_is)
    (case k_is_writer_number => k_is)
    (case a_is_field => k_is)
    (case l_is_field => k_is)
    (case c_is_field => k_is)
    (case k_is_field => k_is)
    (case a_law_pot => k_is)
    (case l_law_pot => k_is)
    (case c_law_pot => k_is)
    (case k_law_pot => k_is)
    (case a_law_draw => k_is)
    (case l_law_draw => k_is)
    (case c_law_draw => k_is)
    (case k_law_draw => k_is)
    (case a_law_odd => k_is)
    (case l_law_odd => k_is)
    (case c_law_odd => k_is)
    (case k_law_odd => k_is)
    (case a_law_bits => k_is)
    (case l_law_bits => k_is)
    (case c_law_bits => k_is)
    (case k_law_bits => k_is)
    (case a_law_writer => k_is)
    (case l_law_writer => k_is)
    (case c_law_writer => k_is)
    (case k_law_writer => k_is)
    (case a_law_refused => k_is)
    (case l_law_refused => k_is)
    (case c_law_refused => k_is)
    (case k_law_refused => k_is)
    (case a_law_not_ended => k_is)
    (case l_law_not_ended => k_is)
    (case c_law_not_ended => k_is)
    (case k_law_not_ended => k_is)
    (case a_law_is_wrong => k_is)
    (case l_law_is_wrong => k_is)
    (case c_law_is_wrong => k_is)
    (case k_law_is_wrong => k_is)
    (case a_law_all_refused => k_is)
    (case l_law_all_refused => k_is)
    (case c_law_all_refused => k_is)
    (case k_law_all_refused => k_is)
    (case a_law => k_is)
    (case l_law => k_is)
    (case c_law => k_is)
    (case k_law => k_is)
    (case a_C => k_is)
    (case pg_C => k_is)
    (case hd_C => k_is)
    (case po_C => k_is)
    (case sa_C => k_is)
    (case mk_C => k_is)
    (case kc_C => k_is)
    (case cC_C => k_is)
    (case cM_C => k_is)
    (case kk_C => exact if_pos (beq_self_eq_true _))
    (case n_C__number => k_is)
    (case a_R => k_is)
    (case pg_R => k_is)
    (case hd_R => k_is)
    (case po_R => k_is)
    (case sa_R => k_is)
    (case mk_R => k_is)
    (case kc_R => k_is)
    (case cC_R => k_is)
    (case cM_R => k_is)
    (case kk_R => exact if_pos (beq_self_eq_true _))
    (case n_R__beginner => k_is)
    (case n_R__ender => k_is)
    (case cG => k_is)
    (case cT => k_is)
    (case rd_C => k_is)
    (case ga_C => k_is)
    (case rd_R => k_is)
    (case ga_R => k_is)
    (case a_mi => k_is)
    (case i_mi => k_is)
    (case l_mi => k_is)
    (case c_mi => k_is)
    (case k_mi => k_is)
    (case a_mc => k_is)
    (case i_mc => k_is)
    (case l_mc => k_is)
    (case c_mc => k_is)
    (case k_mc => k_is)
    (case a_of => k_is)
    (case r_of => k_is)
    (case l_of => k_is)
    (case c_of => k_is)
    (case k_of => k_is)
    (case a_ri => k_is)
    (case i_ri => k_is)
    (case l_ri => k_is)
    (case c_ri => k_is)
    (case k_ri => k_is)
    (case dv_ri => rfl)
    (case lk_dri => k_is)
    (case cl_dri => rfl)
    (case sz_dri => decide)
    (case vl_dri => exact .cons rfl (.cons rfl .nil))
    (case a_rs => k_is)
    (case i_rs => k_is)
    (case l_rs => k_is)
    (case c_rs => k_is)
    (case k_rs => k_is)
    (case a_re => k_is)
    (case i_re => k_is)
    (case l_re => k_is)
    (case c_re => k_is)
    (case k_re => k_is)
    (case a_rq => k_is)
    (case i_rq => k_is)
    (case l_rq => k_is)
    (case c_rq => k_is)
    (case k_rq => k_is)
    (case a_an => k_is)
    (case r_an => k_is)
    (case l_an => k_is)
    (case c_an => k_is)
    (case k_an => k_is)
    (case a_pb => k_is)
    (case g1_pb => k_is)
    (case g2_pb => k_is)
    (case r_pb => k_is)
    (case l_pb => k_is)
    (case c_pb => k_is)
    (case k_pb => k_is)
    (case a_pe => k_is)
    (case g1_pe => k_is)
    (case g2_pe => k_is)
    (case r_pe => k_is)
    (case l_pe => k_is)
    (case c_pe => k_is)
    (case k_pe => k_is)
    (case a_D => k_is)
    (case a_W => k_is)
    (case a_B => k_is)
    (case x_B => k_is)
    (case rv_B => decide +kernel)
    (case sa_B => k_is)
    (case gt_B => k_is)
    (case gg_B => k_is)
    (case cC_B => k_is)
    (case no_B => k_is)
    (case ex_B => k_is)
    (case ty_B => k_is)
    (case kc_B => k_is)
    (case hd_B => k_is)
    (case ic_B => first | rfl | k_is)
    (case cM_B => k_is)
    (case ss_B => first | rfl | k_is)
    (case in_B => k_is)
    (case it_B => k_is)
    (case l_iB => k_is)
    (case c_iB => k_is)
    (case k_iB => k_is)
    (case rd_D => k_is)
    (case ga_D => k_is)
    (case up_D => k_is)
    (case kBD => kit_is)
    (case kBV => kit_is)
    (case kBW => kit_is)
    (case kTR => kit_is)
    (case kIC => kit_is)
    (case nfR => k_is)
    (case nfT => k_is)
    (case lw => k_is)
    (case ln => k_is)
    (case z_len => k_is)
    (case z_int => k_is)
    (case z_bool => k_is)
    (case z_isinstance => k_is)
    (case z_range => k_is)
    (case z_sum => k_is)
    (case z_list => k_is)
    (case z_ValueError => k_is)
