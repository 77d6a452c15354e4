import PyProof.Rows.All
import Wide.All
import OpenK.AllK
import Wide.FinOn
import PyProof.EqAt
import PyProof.EqKinds
import PyProof.TupleCall
import KE.KOpsOwn
import HandS.ForMost
import HandS.OwnEq
import HandS.Star
import HandS.ClsMeth
import HandS.IsInst
import HandS.Codes
import HandS.Flow
import HandS.Wide
import PySem.Challenge.RW_trustedpages_k06_whole_rows_along_growin
import KE.KExcIs
import HandS.ExcInit
import HandS.ExcField
import HandS.ExcIs
import HandS.ExcOwn
import HandS.MakeKw
import HandS.MakeKwOnly
import HandS.Defaults
import HandS.Property
import HandS.WordsExc
import HandS.Walk
import Open.Row
import KE.RegKIsAll
set_option Elab.async false
set_option linter.all false
set_option maxRecDepth 100000
set_option maxHeartbeats 2000000
/-! own operators, static methods, an own class called with a star -/
namespace Vx
open PySem PySem.Spec PyProof.Rows L2
section
variable {P : Program} {w : World} {K : PySem.W.Frag} {mg : Str → Option Value} {base : Heap} {CX : CXT} {k : Nat} {f : Addr} {fd : FuncData} {ps : List Str} {sp : Sp}
theorem fnR (F : FnOk P w K mg base CX k f fd ps sp) (hb : L2.Binds K fd ps []) : FnR P w K mg base CX k f sp := by
  intro A outer s H us vs Q E hr e0 r hsp
  have hl := F.len _ _ _ _ hsp
  have KX : K.In s.heap := e0.mod.kin.keeps fun b o e => (e0.bs b o e).1
  refine F.run A outer s H ⟨us, []⟩ us vs Q E hr e0 ?_ r hsp
  have := hb s us KX (by rw [List.append_nil, ← r.length]; exact hl)
  simpa using this
end
section
variable {X : Cx} {CX : CXT} {k : Nat} {C f : Addr} {sp : Sp} {E : XK} {pins : List (Addr × Obj)} {σ : L2.St} {H : Hp} {s : Shared} {Q : VK}
theorem cmpBack_of {v : Value} {s' : Shared} (h : EP X pins σ Q v s') : PySem.W.CmpBack (EP X pins σ Q) v s' := by
  cases v with
  | notImplemented =>
    obtain ⟨v', H', I', r, q⟩ := h
    cases v' with
    | int i => obtain ⟨t, e⟩ := r; cases e
    | str i => obtain ⟨t, e⟩ := r; cases e
    | byt i => obtain ⟨t, e⟩ := r; cases e
    | flt i => obtain ⟨t, e⟩ := r; cases e
    | non => cases r
    | bl b => cases r
    | ref a => cases r
    | ty n => cases r
  | _ => exact h
theorem call_cmp {us : List Value} {vs : List V} (F : FnR X.prog X.w X.K X.mg X.base CX k f sp) (hr : Room k X.A) (hx : Passes CX X E) (I : L2.Inv X pins σ H s) (r : Vals vs us) (h : sp vs H Q E) :
    wpAny (model X.prog X.w) X.A (call (.ref f) us) (PySem.W.CmpBack (EP X pins σ Q)) X.xe s :=
  wpAny_mono (wpAny_call (run_fnR F hr hx I r h)) (fun _ _ z => cmpBack_of z) fun _ _ z => z
/-- o op y by the own method of o's class; y of the same class, or an int -/
def rOwn (C : Addr) (sp : Sp) (E : XK) : R2 := fun x y H Q => (∃ a dx fs, x = .ref a ∧ H a = some (.ins C dx fs)) ∧ ((∃ b dy gs, y = .ref b ∧ H b = some (.ins C dy gs)) ∨ ∃ i, y = .int i) ∧ sp [x, y] H Q E
/-- what the text says of an operator of the class at C -/
structure OpF (K : PySem.W.Frag) (C f : Addr) (op : Operator) : Prop where
  sf : PySem.W.selfFirst K C = true
  at_ : PySem.W.findIn K (.ref C) (PySem.dunder op.info.2) = some (some (.ref f))
  fn : PySem.W.isFn K (.ref f) = true
  rf : ∃ rc, PySem.W.findIn K (.ref C) (PySem.dunderR op.info.2) = some rc ∧ (rc = none ∨ ∃ g : Addr, rc = some (.ref g))
  i1 : ∃ fo, PySem.W.findIn K (.type "int") (PySem.dunder op.info.2) = some fo
  i2 : ∃ ro, PySem.W.findIn K (.type "int") (PySem.dunderR op.info.2) = some ro
  sub : PySem.W.subIn K (.type "int") (.ref C) = some false
theorem op_own {op : Operator} (O : OpF X.K C f op) (F : FnR X.prog X.w X.K X.mg X.base CX k f sp) (hr : Room k X.A) (hx : Passes CX X E) : OpR X (binaryOp op) (rOwn C sp E) := by
  intro pins s σ H x y v u Q I rx ry hq
  obtain ⟨⟨a, dx, fs, rfl, ha⟩, hy, hsp⟩ := hq
  have ev : v = Value.ref a := rx
  have cl := call_cmp F hr hx I (us := [v, u]) (vs := [V.ref a, y]) (.cons rx (.cons ry .nil)) hsp
  subst ev
  obtain ⟨mA, J, _⟩ := ins_get I.hok ha
  obtain ⟨od, J, _⟩ := J.look
  obtain ⟨m, hF⟩ := I.fr
  rcases hy with ⟨b, dy, gs, rfl, hb⟩ | ⟨i, rfl⟩
  · have eu : u = Value.ref b := ry
    subst eu
    obtain ⟨mB, J', _⟩ := ins_get I.hok hb
    obtain ⟨od', J', _⟩ := J'.look
    exact PySem.W.binop_K hF I.ok.mod.kin J J'.type O.sf O.at_ O.fn cl
  · obtain ⟨t, rfl⟩ := ry
    obtain ⟨rc, r1, r2⟩ := O.rf
    obtain ⟨fo, i1⟩ := O.i1
    obtain ⟨ro, i2⟩ := O.i2
    exact PySem.W.ksp_binT (T := "int") hF I.ok.mod.kin J rfl O.sf O.at_ O.fn r1 r2 i1 i2 O.sub cl
/-- o cmp y by the own method, y of the same class -/
def rCmp (C : Addr) (sp : Sp) (E : XK) : R2 := fun x y H Q => (∃ a dx fs, x = .ref a ∧ H a = some (.ins C dx fs)) ∧ (∃ b dy gs, y = .ref b ∧ H b = some (.ins C dy gs)) ∧ sp [x, y] H Q E
theorem op_cmpOwn {op : CmpOp} (hc : ∀ v u, compareOp op v u = richCompare op v u) (nf : PySem.W.notFirst X.K C (.ref C) = true) (at_ : PySem.W.findIn X.K (.ref C) (cmpInfo op).2.1 = some (some (.ref f))) (fn : PySem.W.isFn X.K (.ref f) = true)
    (F : FnR X.prog X.w X.K X.mg X.base CX k f sp) (hr : Room k X.A) (hx : Passes CX X E) : OpR X (compareOp op) (rCmp C sp E) := by
  intro pins s σ H x y v u Q I rx ry hq
  obtain ⟨⟨a, dx, fs, rfl, ha⟩, ⟨b, dy, gs, rfl, hb⟩, hsp⟩ := hq
  have ev : v = Value.ref a := rx
  have eu : u = Value.ref b := ry
  have cl := call_cmp F hr hx I (us := [v, u]) (vs := [V.ref a, V.ref b]) (.cons rx (.cons ry .nil)) hsp
  subst ev eu
  obtain ⟨mA, J, _⟩ := ins_get I.hok ha
  obtain ⟨od, J, _⟩ := J.look
  obtain ⟨mB, J', _⟩ := ins_get I.hok hb
  obtain ⟨od', J', _⟩ := J'.look
  obtain ⟨m, hF⟩ := I.fr
  rw [hc]
  exact PySem.W.cmp_K hr.units0 hF I.ok.mod.kin J J'.type nf at_ fn cl
/-- x in o by the own method -/
def rInOwn (C : Addr) (sp : Sp) (E : XK) (neg : Bool) : R2 := fun x y H Q => (∃ a dx fs, y = .ref a ∧ H a = some (.ins C dx fs)) ∧ sp [y, x] H (fun v H' => ∃ b, v = .bl b ∧ Q (.bl (if neg then !b else b)) H') E
theorem op_inOwn (at_ : PySem.W.findIn X.K (.ref C) "__contains__" = some (some (.ref f))) (fn : PySem.W.isFn X.K (.ref f) = true)
    (F : FnR X.prog X.w X.K X.mg X.base CX k f sp) (hr : Room k X.A) (hx : Passes CX X E) : OpR X (compareOp .In) (rInOwn C sp E false) := by
  intro pins s σ H x y v u Q I rx ry hq
  obtain ⟨⟨a, dx, fs, rfl, ha⟩, hsp⟩ := hq
  have eu : u = Value.ref a := ry
  have cl := wpAny_call (run_fnR (us := [u, v]) (vs := [V.ref a, x]) F hr hx I (.cons ry (.cons rx .nil)) hsp)
  subst eu
  obtain ⟨mA, J, _⟩ := ins_get I.hok ha
  obtain ⟨od, J, _⟩ := J.look
  obtain ⟨m, hF⟩ := I.fr
  refine PySem.W.in_K hF I.ok.mod.kin J at_ fn (wpAny_mono cl (fun r s' z => ?_) fun _ _ z => z)
  obtain ⟨v', H', I', rv, b, rfl, q⟩ := z
  have er : r = Value.bool b := rv
  subst er
  exact wpAny_truthy_bool ⟨.bl b, H', I', rfl, q⟩
end
/-! static methods -/
structure SMet (K : PySem.W.Frag) (C : Addr) (mc : Value) (m : Str) (p g : Addr) : Prop where
  at_ : PySem.W.findCls K (.ref C) mc m = some (.get (.builtin "staticmethod.__get__") (.ref p) .none (.ref C))
  rc : ∃ rest, PySem.W.recIn K p "staticmethod" = some (.ref g :: rest)
  kp : PySem.W.keepIn K (.ref g) = true
def tSMeth (C : Addr) (sp : Sp) (E : XK) (ta : TE) (t : TA) : TE := fun σ H Q => ta σ H fun x H1 => x = .ref C ∧ t σ H1 fun vs H2 => sp vs H2 Q E
section
variable {X : Cx} {CX : CXT} {k : Nat} {C p g : Addr} {mc : Value} {sp : Sp} {E : XK} {o e : Expr} {es : List Expr} {m : Str} {pos apos : Pos} {ta : TE} {t : TA} {pl : Sem Bool}
theorem pe_smeth (he : PE X o ta) (r : ClX.CRead X.K C mc) (c : SMet X.K C mc m p g) (F : FnR X.prog X.w X.K X.mg X.base CX k g sp) (hr : Room k X.A) (hx : Passes CX X E) (ha : PA X (e :: es) t)
    (hst : starEach (e :: es) X.env = (false, eval e X.env) :: starEach es X.env := by rfl) (hpl : (backTo pos (starEach es X.env)).any (·.1) = false := by rfl)
    (ht : eval (.Call (.Attribute o m apos) (e :: es) [] pos) X.env = (do
      let ov ← eval o X.env
      standAt apos.atName
      let (f, first) ← holding [ov] (getMethod ov m pl)
      callWith pos f first (backTo pos (starEach (e :: es) X.env)) (backToKw pos (keywordEach [] X.env))) := by rfl) :
    PE X (.Call (.Attribute o m apos) (e :: es) [] pos) (tSMeth C sp E ta t) := by
  refine ⟨fun pins s σ H Q I h => ?_⟩
  refine PySem.W.methodCall_KW (pl := pl) (thn (he.run pins s σ H _ I h) fun u s1 ⟨x, H1, I1, rx, ex, q⟩ => ?_) ht
  subst ex
  obtain rfl : u = Value.ref C := rx
  obtain ⟨rest, hp⟩ := c.rc
  refine PySem.W.method_cls I1.kIn r.ga (PySem.W.cls_bind I1.kIn r.rd c.at_ (wpAny_call (PySem.W.sm_get (s := { s1 with toks := s1.toks + 1 }) I1.kIn hp (PySem.W.handed_on rfl ?_))))
  have I2 : L2.Inv X pins σ H1 { s1 with toks := s1.toks + 1 } := I1.tok _
  refine PySem.W.callWith_K (h₀ := X.base) I2.ok.mod.kin c.kp (thn (ha.run pos pins _ σ H1 _ I2 q) fun us s3 ⟨vs, H2, I3, rv, q2⟩ => ⟨I3.kIn, ?_⟩) hst hpl
  exact wpAny_call (run_fnR F hr hx I3 rv q2)
end
/-! C(*xs) -/
section
variable {X : Cx} {CX : CXT} {k : Nat} {f C : Addr} {sp : Sp} {E : XK} {x : Str} {e : Expr} {te : TE} {p pos sp_ : Pos}
def tMakeS (K : PySem.W.Frag) (C : Addr) (sp : Sp) (E : XK) (te : TE) : TE := fun σ H Q => te σ H fun y H1 => ∃ a xs, y = V.ref a ∧ (SqT K H1 a xs ∨ SqL K H1 a xs) ∧ ∀ x dx, H1 x = Option.none → H1 dx = Option.none → dx ≠ x →
  sp (V.ref x :: xs) (upd (upd H1 dx (.own x)) x (.ins C dx [])) (fun v H2 => v = .non ∧ Q (.ref x) H2) E
theorem pe_makeS (M : Mk X.K C f) (F : FnR X.prog X.w X.K X.mg X.base CX k f sp) (hr : Room (k + 1) X.A) (hg : Gl X x) (hm : X.mg x = some (.ref C)) (hx : Passes CX X E) (he : PE X e te) (hd : (x == ("__debug__" : Str)) = false := by decide)
    (hst : starEach [.Starred e sp_] X.env = [(true, eval e X.env)] := by rfl) :
    PE X (.Call (.Name x p) [.Starred e sp_] [] pos) (tMakeS X.K C sp E te) := by
  refine ⟨fun pins s σ H Q I h => ?_⟩
  refine wpAny_Call_Name_kw (ld_glob I hg hm ?_ hd)
  refine PySem.W.callWith_S (h₀ := X.base) I.ok.mod.kin M.kp (thn (he.run pins s σ H _ I h) fun v s1 ⟨y, H1, I1, ry, a, xs, ey, hxs, q⟩ => ?_) hst
  subst ey
  obtain rfl : v = Value.ref a := ry
  exact StX.star_any I1 hxs fun us s2 I2 rv => ⟨I2.kIn, StX.run_makeR M F hr hx I2 rv q⟩
def tMakeZ (C : Addr) (sp : Sp) (E : XK) : TE := fun _ H Q => ∀ x dx, H x = Option.none → H dx = Option.none → dx ≠ x →
  sp [V.ref x] (upd (upd H dx (.own x)) x (.ins C dx [])) (fun v H2 => v = .non ∧ Q (.ref x) H2) E
end
end Vx
set_option Elab.async false
set_option linter.all false
set_option maxRecDepth 100000
namespace Toy
open PySem PySem.Spec PyProof.Rows L2
def topS (i : Nat) : Stmt := PySem.Challenge.pw_trustedpages_k06_whole_rows_along_growin.main.body.getD i (.Pass ⟨0, 0, 0, 0⟩)
abbrev s_wall : Stmt := topS 0
theorem sc_wall : FnScope ["k"] ["k"] (defScope s_wall) := ⟨rfl, rfl, rfl, by decide +kernel, rfl, by decide +kernel, by decide +kernel⟩
-- wall cells []
abbrev s_BadWriter_init : Stmt := inClass (topS 3) 0
theorem sc_BadWriter_init : FnScope ["self", "value"] ["self", "value"] (defScope s_BadWriter_init) := ⟨rfl, rfl, rfl, by decide +kernel, rfl, by decide +kernel, by decide +kernel⟩
-- BadWriter_init cells []
abbrev s_BadRow_init : Stmt := inClass (topS 4) 0
theorem sc_BadRow_init : FnScope ["self", "field"] ["self", "field"] (defScope s_BadRow_init) := ⟨rfl, rfl, rfl, by decide +kernel, rfl, by decide +kernel, by decide +kernel⟩
-- BadRow_init cells []
abbrev s_BadPage_init : Stmt := inClass (topS 5) 0
theorem sc_BadPage_init : FnScope ["self", "at"] ["self", "at"] (defScope s_BadPage_init) := ⟨rfl, rfl, rfl, by decide +kernel, rfl, by decide +kernel, by decide +kernel⟩
-- BadPage_init cells []
abbrev s_BadBytes_init : Stmt := inClass (topS 6) 0
theorem sc_BadBytes_init : FnScope ["self", "at"] ["self", "at"] (defScope s_BadBytes_init) := ⟨rfl, rfl, rfl, by decide +kernel, rfl, by decide +kernel, by decide +kernel⟩
-- BadBytes_init cells []
abbrev s_is_whole : Stmt := topS 8
theorem sc_is_whole : FnScope ["value"] ["value"] (defScope s_is_whole) := ⟨rfl, rfl, rfl, by decide +kernel, rfl, by decide +kernel, by decide +kernel⟩
-- is_whole cells []
abbrev s_is_between : Stmt := topS 9
theorem sc_is_between : FnScope ["value", "low", "high"] ["value", "low", "high"] (defScope s_is_between) := ⟨rfl, rfl, rfl, by decide +kernel, rfl, by decide +kernel, by decide +kernel⟩
-- is_between cells []
abbrev s_is_writer_number : Stmt := topS 13
theorem sc_is_writer_number : FnScope ["value"] ["value"] (defScope s_is_writer_number) := ⟨rfl, rfl, rfl, by decide +kernel, rfl, by decide +kernel, by decide +kernel⟩
-- is_writer_number cells []
abbrev s_number_of : Stmt := topS 14
theorem sc_number_of : FnScope ["value"] ["value"] (defScope s_number_of) := ⟨rfl, rfl, rfl, by decide +kernel, rfl, by decide +kernel, by decide +kernel⟩
-- number_of cells []
abbrev s_Moment_init : Stmt := inClass (topS 15) 0
theorem sc_Moment_init : FnScope ["self", "writers", "writer", "k"] ["self", "writers"] (defScope s_Moment_init) := ⟨rfl, rfl, rfl, by decide +kernel, rfl, by decide +kernel, by decide +kernel⟩
-- Moment_init cells ['writers']
abbrev s_Moment_of : Stmt := inClass (topS 15) 1
theorem sc_Moment_of : FnScope ["number", "writers", "k"] ["number"] (defScope s_Moment_of) := ⟨rfl, rfl, rfl, by decide +kernel, rfl, by decide +kernel, by decide +kernel⟩
-- Moment_of cells ['number']
abbrev s_Moment_number : Stmt := inClass (topS 15) 2
theorem sc_Moment_number : FnScope ["self"] ["self"] (defScope s_Moment_number) := ⟨rfl, rfl, rfl, by decide +kernel, rfl, by decide +kernel, by decide +kernel⟩
-- Moment_number cells []
abbrev s_Moment_writers : Stmt := inClass (topS 15) 3
theorem sc_Moment_writers : FnScope ["self", "k"] ["self"] (defScope s_Moment_writers) := ⟨rfl, rfl, rfl, by decide +kernel, rfl, by decide +kernel, by decide +kernel⟩
-- Moment_writers cells ['self']
abbrev s_Moment_len : Stmt := inClass (topS 15) 4
theorem sc_Moment_len : FnScope ["self"] ["self"] (defScope s_Moment_len) := ⟨rfl, rfl, rfl, by decide +kernel, rfl, by decide +kernel, by decide +kernel⟩
-- Moment_len cells []
abbrev s_Moment_contains : Stmt := inClass (topS 15) 5
theorem sc_Moment_contains : FnScope ["self", "value"] ["self", "value"] (defScope s_Moment_contains) := ⟨rfl, rfl, rfl, by decide +kernel, rfl, by decide +kernel, by decide +kernel⟩
-- Moment_contains cells []
abbrev s_Moment_or : Stmt := inClass (topS 15) 6
theorem sc_Moment_or : FnScope ["self", "other", "number"] ["self", "other"] (defScope s_Moment_or) := ⟨rfl, rfl, rfl, by decide +kernel, rfl, by decide +kernel, by decide +kernel⟩
-- Moment_or cells []
abbrev s_Moment_ror : Stmt := inClass (topS 15) 7
theorem sc_Moment_ror : FnScope ["self", "other"] ["self", "other"] (defScope s_Moment_ror) := ⟨rfl, rfl, rfl, by decide +kernel, rfl, by decide +kernel, by decide +kernel⟩
-- Moment_ror cells []
abbrev s_Moment_and : Stmt := inClass (topS 15) 8
theorem sc_Moment_and : FnScope ["self", "other", "number"] ["self", "other"] (defScope s_Moment_and) := ⟨rfl, rfl, rfl, by decide +kernel, rfl, by decide +kernel, by decide +kernel⟩
-- Moment_and cells []
abbrev s_Moment_rand : Stmt := inClass (topS 15) 9
theorem sc_Moment_rand : FnScope ["self", "other"] ["self", "other"] (defScope s_Moment_rand) := ⟨rfl, rfl, rfl, by decide +kernel, rfl, by decide +kernel, by decide +kernel⟩
-- Moment_rand cells []
abbrev s_Moment_sub : Stmt := inClass (topS 15) 10
theorem sc_Moment_sub : FnScope ["self", "other", "number"] ["self", "other"] (defScope s_Moment_sub) := ⟨rfl, rfl, rfl, by decide +kernel, rfl, by decide +kernel, by decide +kernel⟩
-- Moment_sub cells []
abbrev s_Moment_rsub : Stmt := inClass (topS 15) 11
theorem sc_Moment_rsub : FnScope ["self", "other", "number"] ["self", "other"] (defScope s_Moment_rsub) := ⟨rfl, rfl, rfl, by decide +kernel, rfl, by decide +kernel, by decide +kernel⟩
-- Moment_rsub cells []
abbrev s_Moment_eq : Stmt := inClass (topS 15) 12
theorem sc_Moment_eq : FnScope ["self", "other"] ["self", "other"] (defScope s_Moment_eq) := ⟨rfl, rfl, rfl, by decide +kernel, rfl, by decide +kernel, by decide +kernel⟩
-- Moment_eq cells []
abbrev s_Moment_le : Stmt := inClass (topS 15) 13
theorem sc_Moment_le : FnScope ["self", "other"] ["self", "other"] (defScope s_Moment_le) := ⟨rfl, rfl, rfl, by decide +kernel, rfl, by decide +kernel, by decide +kernel⟩
-- Moment_le cells []
abbrev s_Moment_lt : Stmt := inClass (topS 15) 14
theorem sc_Moment_lt : FnScope ["self", "other"] ["self", "other"] (defScope s_Moment_lt) := ⟨rfl, rfl, rfl, by decide +kernel, rfl, by decide +kernel, by decide +kernel⟩
-- Moment_lt cells []
abbrev s_Moment_ge : Stmt := inClass (topS 15) 15
theorem sc_Moment_ge : FnScope ["self", "other"] ["self", "other"] (defScope s_Moment_ge) := ⟨rfl, rfl, rfl, by decide +kernel, rfl, by decide +kernel, by decide +kernel⟩
-- Moment_ge cells []
abbrev s_Moment_gt : Stmt := inClass (topS 15) 16
theorem sc_Moment_gt : FnScope ["self", "other"] ["self", "other"] (defScope s_Moment_gt) := ⟨rfl, rfl, rfl, by decide +kernel, rfl, by decide +kernel, by decide +kernel⟩
-- Moment_gt cells []
abbrev s_is_field : Stmt := topS 17
theorem sc_is_field : FnScope ["value"] ["value"] (defScope s_is_field) := ⟨rfl, rfl, rfl, by decide +kernel, rfl, by decide +kernel, by decide +kernel⟩
-- is_field cells []
abbrev s_Row_init : Stmt := inClass (topS 18) 0
theorem sc_Row_init : FnScope ["self", "beginner", "ender"] ["self", "beginner", "ender"] (defScope s_Row_init) := ⟨rfl, rfl, rfl, by decide +kernel, rfl, by decide +kernel, by decide +kernel⟩
-- Row_init cells []
abbrev s_Row_ancient : Stmt := inClass (topS 18) 1
theorem sc_Row_ancient : FnScope [] [] (defScope s_Row_ancient) := ⟨rfl, rfl, rfl, by decide +kernel, rfl, by decide +kernel, by decide +kernel⟩
-- Row_ancient cells []
abbrev s_Row_beginner : Stmt := inClass (topS 18) 2
theorem sc_Row_beginner : FnScope ["self"] ["self"] (defScope s_Row_beginner) := ⟨rfl, rfl, rfl, by decide +kernel, rfl, by decide +kernel, by decide +kernel⟩
-- Row_beginner cells []
abbrev s_Row_ender : Stmt := inClass (topS 18) 3
theorem sc_Row_ender : FnScope ["self"] ["self"] (defScope s_Row_ender) := ⟨rfl, rfl, rfl, by decide +kernel, rfl, by decide +kernel, by decide +kernel⟩
-- Row_ender cells []
abbrev s_Row_seen : Stmt := inClass (topS 18) 4
theorem sc_Row_seen : FnScope ["self", "moment", "begun", "over"] ["self", "moment"] (defScope s_Row_seen) := ⟨rfl, rfl, rfl, by decide +kernel, rfl, by decide +kernel, by decide +kernel⟩
-- Row_seen cells []
abbrev s_Row_ended : Stmt := inClass (topS 18) 5
theorem sc_Row_ended : FnScope ["self", "writer"] ["self", "writer"] (defScope s_Row_ended) := ⟨rfl, rfl, rfl, by decide +kernel, rfl, by decide +kernel, by decide +kernel⟩
-- Row_ended cells []
abbrev s_Row_eq : Stmt := inClass (topS 18) 6
theorem sc_Row_eq : FnScope ["self", "other"] ["self", "other"] (defScope s_Row_eq) := ⟨rfl, rfl, rfl, by decide +kernel, rfl, by decide +kernel, by decide +kernel⟩
-- Row_eq cells []
abbrev s_writer : Stmt := topS 21
theorem sc_writer : FnScope ["byte"] ["byte"] (defScope s_writer) := ⟨rfl, rfl, rfl, by decide +kernel, rfl, by decide +kernel, by decide +kernel⟩
-- writer cells []
abbrev s_Page_init : Stmt := inClass (topS 22) 0
theorem sc_Page_init : FnScope ["self", "rows", "at", "row"] ["self", "rows"] (defScope s_Page_init) := ⟨rfl, rfl, rfl, by decide +kernel, rfl, by decide +kernel, by decide +kernel⟩
-- Page_init cells []
abbrev s_Page_read : Stmt := inClass (topS 22) 1
theorem sc_Page_read : FnScope ["data", "last", "at"] ["data"] (defScope s_Page_read) := ⟨rfl, rfl, rfl, by decide +kernel, rfl, by decide +kernel, by decide +kernel⟩
-- Page_read cells ['data']
abbrev s_Page_raw : Stmt := inClass (topS 22) 2
theorem sc_Page_raw : FnScope ["self"] ["self"] (defScope s_Page_raw) := ⟨rfl, rfl, rfl, by decide +kernel, rfl, by decide +kernel, by decide +kernel⟩
-- Page_raw cells []
abbrev s_Page_piece : Stmt := inClass (topS 22) 3
theorem sc_Page_piece : FnScope ["self", "first", "last"] ["self", "first", "last"] (defScope s_Page_piece) := ⟨rfl, rfl, rfl, by decide +kernel, rfl, by decide +kernel, by decide +kernel⟩
-- Page_piece cells []
abbrev s_Page_rows : Stmt := inClass (topS 22) 4
theorem sc_Page_rows : FnScope ["self"] ["self"] (defScope s_Page_rows) := ⟨rfl, rfl, rfl, by decide +kernel, rfl, by decide +kernel, by decide +kernel⟩
-- Page_rows cells []
abbrev s_Page_all_seen : Stmt := inClass (topS 22) 5
theorem sc_Page_all_seen : FnScope ["self", "moment", "row"] ["self", "moment"] (defScope s_Page_all_seen) := ⟨rfl, rfl, rfl, by decide +kernel, rfl, by decide +kernel, by decide +kernel⟩
-- Page_all_seen cells ['moment']
abbrev s_Page_twin : Stmt := inClass (topS 22) 6
theorem sc_Page_twin : FnScope ["self"] ["self"] (defScope s_Page_twin) := ⟨rfl, rfl, rfl, by decide +kernel, rfl, by decide +kernel, by decide +kernel⟩
-- Page_twin cells []
abbrev s_Page_len : Stmt := inClass (topS 22) 7
theorem sc_Page_len : FnScope ["self"] ["self"] (defScope s_Page_len) := ⟨rfl, rfl, rfl, by decide +kernel, rfl, by decide +kernel, by decide +kernel⟩
-- Page_len cells []
abbrev s_Page_iter : Stmt := inClass (topS 22) 8
theorem sc_Page_iter : FnScope ["self"] ["self"] (defScope s_Page_iter) := ⟨rfl, rfl, rfl, by decide +kernel, rfl, by decide +kernel, by decide +kernel⟩
-- Page_iter cells []
abbrev s_Page_getitem : Stmt := inClass (topS 22) 9
theorem sc_Page_getitem : FnScope ["self", "at"] ["self", "at"] (defScope s_Page_getitem) := ⟨rfl, rfl, rfl, by decide +kernel, rfl, by decide +kernel, by decide +kernel⟩
-- Page_getitem cells []
abbrev s_Page_setitem : Stmt := inClass (topS 22) 10
theorem sc_Page_setitem : FnScope ["self", "at", "row"] ["self", "at", "row"] (defScope s_Page_setitem) := ⟨rfl, rfl, rfl, by decide +kernel, rfl, by decide +kernel, by decide +kernel⟩
-- Page_setitem cells []
abbrev s_Page_iadd : Stmt := inClass (topS 22) 11
theorem sc_Page_iadd : FnScope ["self", "row"] ["self", "row"] (defScope s_Page_iadd) := ⟨rfl, rfl, rfl, by decide +kernel, rfl, by decide +kernel, by decide +kernel⟩
-- Page_iadd cells []
abbrev s_Page_contains : Stmt := inClass (topS 22) 12
theorem sc_Page_contains : FnScope ["self", "value"] ["self", "value"] (defScope s_Page_contains) := ⟨rfl, rfl, rfl, by decide +kernel, rfl, by decide +kernel, by decide +kernel⟩
-- Page_contains cells []
abbrev s_Page_eq : Stmt := inClass (topS 22) 13
theorem sc_Page_eq : FnScope ["self", "other"] ["self", "other"] (defScope s_Page_eq) := ⟨rfl, rfl, rfl, by decide +kernel, rfl, by decide +kernel, by decide +kernel⟩
-- Page_eq cells []
abbrev s_law_pot : Stmt := topS 24
theorem sc_law_pot : FnScope ["script", "cell"] ["script"] (defScope s_law_pot) := ⟨rfl, rfl, rfl, by decide +kernel, rfl, by decide +kernel, by decide +kernel⟩
-- law_pot cells []
abbrev s_law_draw : Stmt := topS 25
theorem sc_law_draw : FnScope ["pot", "many", "cells", "at", "cell"] ["pot", "many"] (defScope s_law_draw) := ⟨rfl, rfl, rfl, by decide +kernel, rfl, by decide +kernel, by decide +kernel⟩
-- law_draw cells []
abbrev s_law_writer : Stmt := topS 26
theorem sc_law_writer : FnScope ["pot", "drawn"] ["pot"] (defScope s_law_writer) := ⟨rfl, rfl, rfl, by decide +kernel, rfl, by decide +kernel, by decide +kernel⟩
-- law_writer cells []
abbrev s_law_stretch : Stmt := topS 27
theorem sc_law_stretch : FnScope ["chain", "fields", "first", "last", "at"] ["chain", "fields"] (defScope s_law_stretch) := ⟨rfl, rfl, rfl, by decide +kernel, rfl, by decide +kernel, by decide +kernel⟩
-- law_stretch cells ['first', 'last']
abbrev s_law : Stmt := topS 28
theorem sc_law : FnScope ["script", "pot", "k", "fields", "rows", "page", "chain", "moments", "writer", "stretches", "at", "told", "due", "pair"] ["script"] (defScope s_law) := ⟨rfl, rfl, rfl, by decide +kernel, rfl, by decide +kernel, by decide +kernel⟩
-- law cells ['pot', 'k', 'rows', 'chain', 'moments', 'stretches', 'at']
end Toy
set_option Elab.async false
set_option linter.all false
set_option maxRecDepth 100000
set_option maxHeartbeats 2000000
namespace Toy
open PySem PySem.Spec PyProof.Rows L2
/-! ### heaps -/
theorem same_upd {H : Hp} {p : Addr} {o : HO} (h : H p = none) : Same H (upd H p o) := fun b x e => by
  rw [upd_ne (ne_of_none e h)]
  exact e
/-! ### moments as numbers -/
def mo (n : Nat) : List (Str × V) := [("_number", .int n)]
def MoAt (C : Addr) (H : Hp) (p : Addr) (n : Nat) : Prop := n < 2147483648 ∧ ∃ dx, H p = some (.ins C dx (mo n))
theorem MoAt.same {C : Addr} {H H' : Hp} {p : Addr} {n : Nat} (h : MoAt C H p n) (s : Same H H') : MoAt C H' p n := ⟨h.1, h.2.imp fun _ e => s _ _ e⟩
def vi (k : Nat) : V := .int k
def bits (n : Nat) : List Nat := (List.range 31).filter fun k => n.testBit k
/-- what the text says of the class and the names -/
structure Txt (K : PySem.W.Frag) (mg : Str → Option Value) (C : Addr) : Prop where
  cl : Cls K C
  nN : NoAttr K C "_number"
  mgC : mg "Moment" = some (.ref C)
  len : mg "len" = none
  int : mg "int" = none
  bool : mg "bool" = none
  isi : mg "isinstance" = none
  range : mg "range" = none
  sum : mg "sum" = none
  list : mg "list" = none
  cC : PySem.W.findIn K (.ref C) "__class__" = some (some (.builtin "object.__class__"))
  cG : PySem.W.specialIn K (.builtin "object.__class__") "__get__" = some (some (.builtin "getset_descriptor.__get__"))
  cT : PySem.W.takesIn K (.builtin "object.__class__") = some true
  cM : PySem.W.mroIn K C (.type "object") = some true
  kCC : PySem.W.kitOne K (.ref C) (.ref C) = some true
  kIC : PySem.W.kitOne K (.type "int") (.ref C) = some false
  lw : ∃ t, mg "LAST_WRITER" = some (.int 30 t)
  ln : ∃ t, mg "LAST_NUMBER" = some (.int 2147483647 t)
section
variable {P : Program} {w : World} {K : PySem.W.Frag} {mg : Str → Option Value} {base : Heap} {C : Addr}
/-! ### is_whole -/
def spWhole : Sp := fun vs H Q _ => ∃ i : Int, vs = [.int i] ∧ Q (.bl true) H
theorem ok_is_whole {f : Addr} {fd : FuncData} (F : Fun K "is_whole" "is_whole" s_is_whole f fd) (T : Txt K mg C) : FnOk P w K mg base CX0 1 f fd ["value"] spWhole := by
  refine F.ok sc_is_whole (fun vs H Q E h => ?_) (fun cdv A outer s H vs Q E hr h => ?_)
  · obtain ⟨i, rfl, _⟩ := h
    rfl
  · obtain ⟨i, rfl, q⟩ := h
    refine ⟨_, pss_one (ps_ret (pe_and (pe_callB call_isi (by rfl) T.isi (by decide +kernel) (pa_cons (pv 0) (pa_cons (pe_bltn (v := .ty "int") (by rfl) T.int (by decide +kernel) rfl) pa_nil)))
      (pe_one (pe_not (pe_callB call_isi (by rfl) T.isi (by decide +kernel) (pa_cons (pv 0) (pa_cons (pe_bltn (v := .ty "bool") (by rfl) T.bool (by decide +kernel) rfl) pa_nil))))))), ?_⟩
    refine ⟨_, rfl, .int i, .ty "int", _, _, true, rfl, .ty _, .base (.int i), kit_ty (by decide +kernel), true, rfl, iteT ?_⟩
    exact ⟨_, rfl, .int i, .ty "bool", _, _, false, rfl, .ty _, .base (.int i), kit_ty (by decide +kernel), false, rfl, q⟩
/-! ### is_between -/
def spBetw : Sp := fun vs H Q _ => ∃ i l h : Int, vs = [.int i, .int l, .int h] ∧ Q (.bl (decide (l ≤ i ∧ i ≤ h))) H
theorem ok_is_between {f fW : Addr} {fd fdW : FuncData} (F : Fun K "is_between" "is_between" s_is_between f fd) (T : Txt K mg C) (FW : Fun K "is_whole" "is_whole" s_is_whole fW fdW) (bW : L2.Binds K fdW ["value"] []) (gW : mg "is_whole" = some (.ref fW)) :
    FnOk P w K mg base CX0 2 f fd ["value", "low", "high"] spBetw := by
  have GW : FnOk P w K mg base CX0 1 fW fdW ["value"] spWhole := ok_is_whole FW T
  refine F.ok sc_is_between (fun vs H Q E h => ?_) (fun cdv A outer s H vs Q E hr h => ?_)
  · obtain ⟨i, l, h, rfl, _⟩ := h
    rfl
  · obtain ⟨i, l, u, rfl, q⟩ := h
    refine ⟨_, pss_one (ps_ret (pe_and (pe_call GW hr (by rfl) gW FW.kp bW .nil pass0 (pa_cons (pv 0) pa_nil)) (pe_one (pe_chain op_le op_le (pv 1) (pv 0) (pv 2))))), ?_⟩
    refine ⟨_, rfl, i, rfl, true, rfl, iteT ?_⟩
    refine ⟨_, rfl, _, rfl, l, i, rfl, rfl, decide (l ≤ i), rfl, ?_⟩
    by_cases h1 : l ≤ i
    · rw [decide_eq_true h1]
      refine iteT ⟨_, rfl, i, u, rfl, rfl, ?_⟩
      have e : decide (l ≤ i ∧ i ≤ u) = decide (i ≤ u) := by by_cases h2 : i ≤ u <;> simp [h1, h2]
      rw [e] at q
      exact q
    · rw [decide_eq_false h1]
      have e : decide (l ≤ i ∧ i ≤ u) = false := by simp [h1]
      rw [e] at q
      exact iteF q
end
end Toy
set_option Elab.async false
set_option linter.all false
set_option maxRecDepth 100000
set_option maxHeartbeats 2000000
namespace Toy
open PySem PySem.Spec PyProof.Rows L2
/-! ### the mathematics of bits -/
theorem bits_succ (p : Nat → Bool) (i : Nat) : (List.range (i + 1)).filter p = if p i = true then (List.range i).filter p ++ [i] else (List.range i).filter p := by
  rw [List.range_succ, List.filter_append]
  by_cases h : p i = true
  · rw [if_pos h, List.filter_cons_of_pos h]
    rfl
  · rw [if_neg h, List.filter_cons_of_neg h, List.filter_nil, List.append_nil]
theorem mod_succ (n i : Nat) : n % 2 ^ (i + 1) = n % 2 ^ i + (if n.testBit i = true then 2 ^ i else 0) := by
  rw [Nat.pow_succ, Nat.mod_mul, Nat.testBit_eq_decide_div_mod_eq]
  by_cases h : n / 2 ^ i % 2 = 1
  · rw [h, if_pos (by decide), Nat.mul_one]
  · have h0 : n / 2 ^ i % 2 = 0 := by omega
    rw [h0, if_neg (by decide), Nat.mul_zero]
theorem sum_bits (n : Nat) : ∀ i : Nat, (((List.range i).filter fun k => n.testBit k).map fun k => ((2 ^ k : Nat) : Int)).sum = ((n % 2 ^ i : Nat) : Int)
  | 0 => by simp [Nat.mod_one]
  | i + 1 => by
    have ih := sum_bits n i
    rw [bits_succ, mod_succ]
    by_cases h : n.testBit i = true
    · rw [if_pos h, if_pos h, List.map_append, List.sum_append, ih]
      simp
    · rw [if_neg h, if_neg h, ih]
      simp
theorem mem_bits {n k : Nat} : k ∈ bits n ↔ k < 31 ∧ n.testBit k = true := by
  unfold bits
  rw [List.mem_filter, List.mem_range]
theorem inV_vi (k : Nat) (ws : List Nat) : inV (vi k) (ws.map vi) = decide (k ∈ ws) := by
  unfold inV
  induction ws with
  | nil => rfl
  | cons a r ih =>
    rw [List.map_cons, List.any_cons, ih]
    show ((((a : Nat) : Int) == ((k : Nat) : Int)) || decide (k ∈ r)) = decide (k ∈ a :: r)
    by_cases h : a = k
    · subst h
      simp
    · have h1 : (((a : Nat) : Int) == ((k : Nat) : Int)) = false := by
        simp
        omega
      rw [h1]
      have h2 : k ≠ a := fun e => h e.symm
      simp [h2]
theorem flat_vi (ws : List Nat) : (ws.map vi).all flatV = true := by
  rw [List.all_map]
  simp [Function.comp, vi, flatV]
theorem filter_bits_mem (n : Nat) (i : Nat) (hi : i ≤ 31) : (List.range i).filter (fun k => decide (k ∈ bits n)) = (List.range i).filter (fun k => n.testBit k) := by
  apply List.filter_congr
  intro k hk
  have h : k < 31 := Nat.lt_of_lt_of_le (List.mem_range.mp hk) hi
  by_cases b : n.testBit k = true
  · rw [b]
    exact decide_eq_true (mem_bits.mpr ⟨h, b⟩)
  · have b' : n.testBit k = false := by simpa using b
    rw [b']
    exact decide_eq_false fun z => b (mem_bits.mp z).2
theorem bit_test (n k : Nat) : ((Builtin.bitAnd ((n : Int) / 2 ^ k) 1 : Int) != 0) = n.testBit k := by
  have e : ((n : Int) / 2 ^ k) = ((n / 2 ^ k : Nat) : Int) := by simp
  rw [e, bitAnd_pp (Int.natCast_nonneg _) (by decide), Int.toNat_natCast]
  show (((n / 2 ^ k &&& 1 : Nat) : Int) != 0) = _
  rw [Nat.testBit_eq_decide_div_mod_eq, Nat.and_one_is_mod]
  by_cases h : n / 2 ^ k % 2 = 1
  · rw [h]
    decide
  · have h0 : n / 2 ^ k % 2 = 0 := by omega
    rw [h0]
    decide
section
variable {P : Program} {w : World} {K : PySem.W.Frag} {mg : Str → Option Value} {base : Heap} {C : Addr}
/-! ### is_writer_number -/
def spIsW : Sp := fun vs H Q _ => ∃ i : Int, vs = [.int i] ∧ Q (.bl (decide (0 ≤ i ∧ i ≤ 30))) H
theorem ok_is_writer {f fB : Addr} {fd fdB : FuncData} (F : Fun K "is_writer_number" "is_writer_number" s_is_writer_number f fd) (T : Txt K mg C) (GB : FnOk P w K mg base CX0 2 fB fdB ["value", "low", "high"] spBetw) (kB : PySem.W.keepIn K (.ref fB) = true)
    (bB : L2.Binds K fdB ["value", "low", "high"] []) (gB : mg "is_between" = some (.ref fB)) : FnOk P w K mg base CX0 3 f fd ["value"] spIsW := by
  obtain ⟨t, lw⟩ := T.lw
  refine F.ok sc_is_writer_number (fun vs H Q E h => ?_) (fun cdv A outer s H vs Q E hr h => ?_)
  · obtain ⟨i, rfl, _⟩ := h
    rfl
  · obtain ⟨i, rfl, q⟩ := h
    refine ⟨_, pss_one (ps_ret (pe_call GB hr (by rfl) gB kB bB .nil pass0 (pa_cons (pv 0) (pa_cons pe_int (pa_cons (pe_glob (v := .int 30) (by rfl) lw ⟨_, rfl⟩) pa_nil))))), ?_⟩
    exact ⟨_, rfl, i, 0, 30, rfl, q⟩
/-! ### _number_of -/
/-- what stands on the right: a moment or a writer, with its number -/
def Arg (C : Addr) (H : Hp) (y : V) (m : Nat) : Prop := m < 2147483648 ∧ ((∃ b, y = .ref b ∧ MoAt C H b m) ∨ ∃ k : Nat, y = vi k ∧ k ≤ 30 ∧ m = 2 ^ k)
def spNum (C : Addr) : Sp := fun vs H Q _ => ∃ (v : V) (m : Nat), vs = [v] ∧ Arg C H v m ∧ Q (vi m) H
theorem ok_number_of {f fI : Addr} {fd fdI : FuncData} (F : Fun K "_number_of" "_number_of" s_number_of f fd) (T : Txt K mg C) (GI : FnOk P w K mg base CX0 3 fI fdI ["value"] spIsW) (kI : PySem.W.keepIn K (.ref fI) = true)
    (bI : L2.Binds K fdI ["value"] []) (gI : mg "is_writer_number" = some (.ref fI)) : FnOk P w K mg base CX0 4 f fd ["value"] (spNum C) := by
  refine F.ok sc_number_of (fun vs H Q E h => ?_) (fun cdv A outer s H vs Q E hr h => ?_)
  · obtain ⟨i, m, rfl, _⟩ := h
    rfl
  · obtain ⟨v, m, rfl, ha, q⟩ := h
    refine ⟨_, pss_cons (ps_if (pt_val (pe_callB call_isi (by rfl) T.isi (by decide +kernel) (pa_cons (pv 0) (pa_cons (pe_glob (v := .ref C) (by rfl) T.mgC rfl) pa_nil)))) (pss_one (ps_ret (pe_fld (pv 0) rfl))) pss_nil)
      (pss_cons (ps_if (pt_val (pe_call GI hr (by rfl) gI kI bI .nil pass0 (pa_cons (pv 0) pa_nil))) (pss_one (ps_ret (pe_op op_shl pe_int (pv 0)))) pss_nil) (pss_one (ps_ret pe_non))), ?_⟩
    obtain ⟨hm, ⟨p, rfl, hn, dx, hp⟩ | ⟨k, rfl, hk, rfl⟩⟩ := ha
    · refine ⟨_, rfl, .ref p, .ref C, .ref C, .ref C, true, rfl, .own C, .base (.ins hp T.cl T.cC T.cG T.cT T.cM), T.kCC, true, rfl, iteT ?_⟩
      exact ⟨_, rfl, p, C, dx, _, _, rfl, hp, T.cl, T.nN, rfl, q⟩
    · refine ⟨_, rfl, .int k, .ref C, .type "int", .ref C, false, rfl, .own C, .base (.int k), T.kIC, false, rfl, iteF ?_⟩
      refine ⟨_, rfl, (k : Int), rfl, _, rfl, ?_⟩
      have e : decide ((0 : Int) ≤ (k : Int) ∧ (k : Int) ≤ 30) = true := decide_eq_true ⟨by omega, by omega⟩
      rw [e]
      refine iteT ⟨_, rfl, 1, (k : Int), rfl, rfl, ⟨by omega, by omega, by decide⟩, ?_⟩
      have e2 : ((1 : Int) * 2 ^ ((k : Int)).toNat) = ((2 ^ k : Nat) : Int) := by simp
      show Q (.int (1 * 2 ^ ((k : Int)).toNat)) H
      rw [e2]
      exact q
end
end Toy
set_option Elab.async false
set_option linter.all false
set_option maxRecDepth 100000
set_option maxHeartbeats 2000000
namespace Toy
open PySem PySem.Spec PyProof.Rows L2
theorem not_upd {H : Hp} {p q : Addr} {o : HO} (h : p ≠ q) : (upd H q o) p = H p := upd_ne h
section
variable {P : Program} {w : World} {K : PySem.W.Frag} {mg : Str → Option Value} {base : Heap} {C : Addr}
/-! ### __init__: the body, with its tuple of writers -/
def spInit (C : Addr) : Sp := fun vs H Q _ => ∃ (H0 : Hp) (p dx t : Addr) (n : Nat), vs = [.ref p, .ref t] ∧ n < 2147483648 ∧ Same H0 H ∧ H0 p = none ∧ H p = some (.ins C dx []) ∧ H t = some (.tup ((bits n).map vi)) ∧
  ∀ H', Same H0 H' → H' p = some (.ins C dx (mo n)) → Q .non H'
theorem body_init {A : Around} {outer : List Env} {s : Shared} {H : Hp} {vs : List V} {Q : VK} {E : XK} {f fI : Addr} {fdI : FuncData} {cdv : Value} (T : Txt K mg C) (GI : FnOk P w K mg base CX0 3 fI fdI ["value"] spIsW) (kI : PySem.W.keepIn K (.ref fI) = true)
    (bI : L2.Binds K fdI ["value"] []) (gI : mg "is_writer_number" = some (.ref fI)) (hr : Room 3 (A.deeper (envOfC "Moment.__init__" (defScope s_Moment_init) s.heap.objs.size f cdv))) (h : spInit C vs H Q E) :
    ∃ t, PSs (cxOf CX0 P w K mg base ["self", "writers", "writer", "k"] "Moment.__init__" (defScope s_Moment_init) f cdv A outer s H E) (defBody s_Moment_init) t ∧ t { nx := fun _ H' => Q .non H', rt := Q } (L2.start ["self", "writers", "writer", "k"] vs) H := by
  obtain ⟨tk, lw⟩ := T.lw
  obtain ⟨H0, p, dx, t, n, rfl, hn, s0, p0, hp, ht, q⟩ := h
  refine ⟨_, PSs.nox (pss_cons (ps_for PassesOwn.never rfl (pi_tup (pv 1)) (pg_name (i := 2) sc_Moment_init.nd rfl (Or.inl rfl))
      (pss_one (ps_if (pt_not (pt_val (pe_call GI hr (by rfl) gI kI bI .nil pass0 (pa_cons (pv 2) pa_nil)))) (pss_one ps_never) pss_nil)))
    (pss_one (ps_fld (pv 0) (pe_callB (cr_sum rfl) (by rfl) T.sum (by decide +kernel) (pa_cons
      (pe_lc (own := [("k", 3)]) (g := gName 3) rfl sc_Moment_init.nd (pi_range1 (by rfl) T.range (pa_cons (pe_op op_add (pe_glob (v := .int 30) (by rfl) lw ⟨_, rfl⟩) pe_int) pa_nil))
        (blkOk_by (own := [("k", 3)]) (N := ["self", "writers", "writer", "k"]) (sc := defScope s_Moment_init) (by decide +kernel)) (fun _ _ _ _ _ => pg_name (i := 3) sc_Moment_init.nd rfl (Or.inl rfl))
        (fun _ _ _ _ _ => pts_one (pt_cmpR (show OpR _ (compareOp .In) (rIn K false) from op_in_seq) (pv 3) (pv 1) (by rfl))) (fun _ _ _ _ _ => pe_op op_shl pe_int (pv 3))) pa_nil)) rfl))), ?_⟩
  have hT : SqT K H t ((bits n).map vi) := SqT.of ht
  refine ⟨.ref t, rfl, t, rfl, ⟨_, hT⟩, for_tup (K := K) (a := t) (xs := (bits n).map vi) (fun i σ H' => H' = H ∧ ∃ v, σ = [some (.ref p), some (.ref t), v, none]) ⟨rfl, none, rfl⟩ (fun i σ H' _ e => e.1 ▸ hT) ?_ ?_⟩
  · rintro i x σ H' hi ⟨rfl, v, rfl⟩
    obtain ⟨k, hk, rfl⟩ : ∃ k, k < 31 ∧ x = vi k := by
      obtain ⟨j, hj, e⟩ := List.mem_map.mp (List.mem_of_getElem? hi)
      exact ⟨j, (mem_bits.mp hj).1, e.symm⟩
    refine ⟨_, rfl, (k : Int), rfl, _, rfl, ?_⟩
    have e : decide ((0 : Int) ≤ (k : Int) ∧ (k : Int) ≤ 30) = true := decide_eq_true ⟨by omega, by omega⟩
    rw [e]
    exact iteF ⟨rfl, _, rfl⟩
  · rintro σ H' ⟨rfl, v, rfl⟩
    refine ⟨30, 1, rfl, rfl, 31, rfl, by decide, by decide, fun D hD => ?_⟩
    have sD : ∀ xs, Same H' (upd H' D (.lst xs)) := fun xs => same_upd hD
    refine lc_range (lo := 0) (n := 31) (fun i H2 => Same H' H2 ∧ H2 D = some (.lst (((List.range i).filter fun k => decide (k ∈ bits n)).map fun k => V.int ((2 ^ k : Nat) : Int)))) ⟨sD _, upd_same⟩ ?_ ?_
    · rintro i H2 hi ⟨s2, e2⟩
      refine ⟨rfl, .int (0 + (i : Int)), rfl, .ref t, rfl, t, _, rfl, .inr (SqT.of (s2 _ _ ht)), rfl, flat_vi _, _, rfl, ?_⟩
      have ei : V.int (0 + (i : Int)) = vi i := by rw [Int.zero_add]; rfl
      show if (if false = true then !inV (V.int (0 + (i : Int))) ((bits n).map vi) else inV (V.int (0 + (i : Int))) ((bits n).map vi)) = true then _ else _
      rw [ei, inV_vi]
      by_cases hm : i ∈ bits n
      · refine ite2 (fun _ => ?_) (fun z => absurd (by simpa using hm) z)
        refine ⟨vi i, rfl, 1, (i : Int), rfl, rfl, ⟨by omega, by omega, by decide⟩, _, e2, ?_, fun b o e => ?_, ?_⟩
        · rw [List.length_map]
          exact Nat.lt_of_le_of_lt (Nat.le_trans (List.length_filter_le _ _) (by rw [List.length_range]; exact Nat.le_of_lt hi)) (by decide)
        · rw [upd_ne (ne_of_none e hD)]
          exact s2 _ _ e
        · rw [upd_same, bits_succ, if_pos (decide_eq_true hm), List.map_append]
          have e3 : (1 : Int) * 2 ^ ((i : Int)).toNat = ((2 ^ i : Nat) : Int) := by simp
          show some (HO.lst (_ ++ [V.int (1 * 2 ^ ((i : Int)).toNat)])) = _
          rw [e3]
          rfl
      · refine ite2 (fun z => absurd (by simpa using z) hm) (fun _ => ⟨s2, ?_⟩)
        rw [bits_succ, if_neg (by simpa using hm)]
        exact e2
    · rintro H2 ⟨s2, e2⟩
      refine ⟨D, ((List.range 31).filter fun k => decide (k ∈ bits n)).map fun k => ((2 ^ k : Nat) : Int), rfl, SqL.of (by rw [List.map_map]; exact e2), ?_⟩
      rw [filter_bits_mem n 31 (Nat.le_refl _), sum_bits, Nat.mod_eq_of_lt (show n < 2 ^ 31 from hn)]
      refine ⟨_, rfl, p, C, dx, [], rfl, s2 _ _ hp, T.cl, T.nN, (by decide), ?_⟩
      refine q _ (fun b o e => ?_) upd_same
      have nb : b ≠ p := fun z => by rw [z, p0] at e; cases e
      rw [upd_ne nb]
      exact s2 _ _ (s0 _ _ e)
end
end Toy
set_option Elab.async false
set_option linter.all false
set_option maxRecDepth 100000
set_option maxHeartbeats 2000000
namespace Vx
open PySem PySem.Spec PyProof.Rows L2
theorem pe_fldK {X : Cx} {K : PySem.W.Frag} {e : Expr} {f : Str} {ta : TE} {pos : Pos} (hK : X.K = K) (he : PE X e ta) (hb : attributeBase e f X.env (eval e X.env) = eval e X.env) : PE X (.Attribute e f pos) (tFld K ta f) := hK ▸ pe_fld he hb
theorem op_inK {X : Cx} {K : PySem.W.Frag} (hK : X.K = K) : OpR X (compareOp .In) (rIn K false) := hK ▸ op_in_seq
theorem op_notInK {X : Cx} {K : PySem.W.Frag} (hK : X.K = K) : OpR X (compareOp .NotIn) (rIn K true) := hK ▸ op_notIn_seq
def tTru (K : PySem.W.Frag) (ta : TE) : TT := fun σ H Q => ta σ H fun x H' => ∃ k, TruV K x H' k ∧ Q k H'
theorem pt_truthK {X : Cx} {K : PySem.W.Frag} {a : Expr} {ta : TE} (hK : X.K = K) (ha : PE X a ta) (he : ∀ whole, isTrue a X.env whole = (do let v ← whole; standAt a.pos; holding [v] (truthy v))) :
    PT X a (tTru K ta) := hK ▸ pt_truth ha he
end Vx
namespace Toy
open PySem PySem.Spec PyProof.Rows L2
theorem dec_int (a b : Nat) : decide (V.int (a : Int) = V.int (b : Int)) = decide (a = b) := by
  by_cases h : a = b
  · subst h
    rw [decide_eq_true rfl, decide_eq_true rfl]
  · rw [decide_eq_false h, decide_eq_false fun z => h (by injection z with z; omega)]
theorem and_pp (n m : Nat) : Builtin.bitAnd (n : Int) (m : Int) = ((n &&& m : Nat) : Int) := by
  rw [bitAnd_pp (Int.natCast_nonneg _) (Int.natCast_nonneg _), Int.toNat_natCast, Int.toNat_natCast]
theorem or_pp (n m : Nat) : Builtin.bitOr (n : Int) (m : Int) = ((n ||| m : Nat) : Int) := by
  rw [Bits.bitOr_pp (Int.natCast_nonneg _) (Int.natCast_nonneg _), Int.toNat_natCast, Int.toNat_natCast]
theorem two_pow_lt {k : Nat} (h : k ≤ 30) : 2 ^ k < 2147483648 := Nat.lt_of_le_of_lt (Nat.pow_le_pow_right (by decide) h) (by decide)
/-- a list of the numbers for which p holds, by a comprehension -/
theorem acc_len (p : Nat → Bool) {i : Nat} (hi : i < 31) : (((List.range i).filter p).map vi).length < sizeLine := by
  rw [List.length_map]
  exact Nat.lt_of_le_of_lt (Nat.le_trans (List.length_filter_le _ _) (by rw [List.length_range]; exact Nat.le_of_lt hi)) (by decide)
section
variable {P : Program} {w : World} {K : PySem.W.Frag} {mg : Str → Option Value} {base : Heap} {C : Addr}
/-- Moment's __init__, called with the writers -/
def spMk (C : Addr) : Sp := fun vs H Q _ => ∃ (H0 : Hp) (p dx : Addr) (n : Nat), vs = .ref p :: (bits n).map vi ∧ n < 2147483648 ∧ Same H0 H ∧ H0 p = none ∧ H p = some (.ins C dx []) ∧ ∀ H', Same H0 H' → H' p = some (.ins C dx (mo n)) → Q .non H'
theorem ok_init {f fI : Addr} {fdI : FuncData} {oc kV doc pm cdv ct : Value} {od an : Option Addr} {osl : Array (Option Value)} (lk : K.lookup f = some ⟨oc, od, .func (PySem.W.fnOf "__init__" "Moment.__init__" (defArgs s_Moment_init) (defBody s_Moment_init) (defScope s_Moment_init) .none kV doc pm an cdv ct), osl⟩)
    (hcd : PySem.W.codeIn K cdv "Moment.__init__" = true) (T : Txt K mg C) (GI : FnOk P w K mg base CX0 3 fI fdI ["value"] spIsW) (kI : PySem.W.keepIn K (.ref fI) = true) (bI : L2.Binds K fdI ["value"] []) (gI : mg "is_writer_number" = some (.ref fI)) :
    FnR P w K mg base CX0 4 f (spMk C) := by
  have z : FnR P w K mg base CX0 4 f _ := StX.fn_star (sp := spInit C) (ps := ["self"]) (pv := "writers") lk hcd sc_Moment_init StX.cxUp_none (StX.bind_star1 (B := fun us => bindArgs (PySem.W.fnOf "__init__" "Moment.__init__" (defArgs s_Moment_init) (defBody s_Moment_init) (defScope s_Moment_init) .none kV doc pm an cdv ct) ⟨us, []⟩) (p1 := "self") (pv := "writers") (fun a => by rfl) (fun a r rs => by rfl)) (fun A outer s H vs Q E hr h => body_init T GI kI bI gI hr h)
  refine z.imp fun vs H Q E h => ?_
  obtain ⟨H0, p, dx, n, rfl, hn, s0, p0, hp, q⟩ := h
  refine ⟨[.ref p], (bits n).map vi, rfl, rfl, ?_, fun t ht => ?_⟩
  · rw [List.length_map]
    exact Nat.le_trans (Nat.le_trans (List.length_filter_le _ _) (by rw [List.length_range]; exact Nat.le_refl _)) (by decide : 31 ≤ sizeLine)
  · have npt : p ≠ t := ne_of_none hp ht
    exact ⟨H0, p, dx, t, n, rfl, hn, s0.trans (same_upd ht), p0, by rw [upd_ne npt]; exact hp, upd_same, q⟩
/-! ### of -/
def spOf (C : Addr) : Sp := fun vs H Q _ => ∃ n : Nat, vs = [vi n] ∧ n < 2147483648 ∧ ∀ H' p, Same H H' → H p = none → MoAt C H' p n → Q (.ref p) H'
theorem ok_of {f fB fM : Addr} {fd fdB : FuncData} (F : Fun K "of" "Moment.of" s_Moment_of f fd) (T : Txt K mg C) (GB : FnOk P w K mg base CX0 2 fB fdB ["value", "low", "high"] spBetw) (kB : PySem.W.keepIn K (.ref fB) = true)
    (bB : L2.Binds K fdB ["value", "low", "high"] []) (gB : mg "is_between" = some (.ref fB)) (M : Mk K C fM) (GM : FnR P w K mg base CX0 4 fM (spMk C)) : FnOk P w K mg base CX0 6 f fd ["number"] (spOf C) := by
  obtain ⟨tl, ln⟩ := T.ln
  obtain ⟨tw, lw⟩ := T.lw
  refine F.ok sc_Moment_of (fun vs H Q E h => ?_) (fun cdv A outer s H vs Q E hr h => ?_)
  · obtain ⟨i, rfl, _⟩ := h
    rfl
  · obtain ⟨n, rfl, hn, q⟩ := h
    have hr2 : Room 2 _ := hr.mono (by decide)
    refine ⟨_, pss_cons (ps_if (pt_not (pt_val (pe_call GB hr2 (by rfl) gB kB bB .nil pass0 (pa_cons (pv 0) (pa_cons pe_int (pa_cons (pe_glob (v := .int 2147483647) (by rfl) ln ⟨_, rfl⟩) pa_nil)))))) (pss_one ps_never) pss_nil)
      (pss_cons (ps_setLc (i := 1) (own := [("k", 2)]) (g := gName 2) rfl sc_Moment_of.nd rfl rfl (sw_true rfl rfl rfl (by decide +kernel)) (pi_range1 (by rfl) T.range (pa_cons (pe_op op_add (pe_glob (v := .int 30) (by rfl) lw ⟨_, rfl⟩) pe_int) pa_nil))
        (blkOk_by (own := [("k", 2)]) (N := ["number", "writers", "k"]) (sc := defScope s_Moment_of) (by decide +kernel)) (fun _ _ _ _ _ => pg_name (i := 2) sc_Moment_of.nd rfl (Or.inl rfl))
        (fun _ _ _ _ _ => pts_one (Vx.pt_truthK (K := K) rfl (pe_op op_and (pe_op op_shr (pv 0) (pv 2)) pe_int) (by intro _; rfl))) (fun _ _ _ _ _ => pv 2))
      (pss_one (ps_ret (Vx.pe_makeS M GM hr (by rfl) T.mgC pass0 (pv 1))))), ?_⟩
    refine ⟨_, rfl, (n : Int), 0, 2147483647, rfl, _, rfl, ?_⟩
    have e : decide ((0 : Int) ≤ (n : Int) ∧ (n : Int) ≤ 2147483647) = true := decide_eq_true ⟨by omega, by omega⟩
    rw [e]
    refine iteF ⟨30, 1, rfl, rfl, 31, rfl, by decide, by decide, fun D hD => ?_⟩
    refine lc_range (lo := 0) (n := 31) (fun i H2 => Same H H2 ∧ H2 D = some (.lst (((List.range i).filter fun k => n.testBit k).map vi))) ⟨same_upd hD, upd_same⟩ ?_ ?_
    · rintro i H2 hi ⟨s2, e2⟩
      refine ⟨rfl, vi n, rfl, .int (0 + (i : Int)), rfl, (n : Int), _, rfl, rfl, by omega, _, _, rfl, rfl, (Builtin.bitAnd ((n : Int) / 2 ^ (0 + (i : Int)).toNat) 1 != 0), rfl, ?_⟩
      have ei : (0 + (i : Int)).toNat = i := by omega
      rw [ei, bit_test]
      by_cases hm : n.testBit i = true
      · refine ite2 (fun _ => ?_) (fun z => absurd hm z)
        refine ⟨.int (0 + (i : Int)), rfl, _, e2, acc_len _ hi, fun b o e => ?_, ?_⟩
        · rw [upd_ne (ne_of_none e hD)]
          exact s2 _ _ e
        · rw [upd_same, bits_succ, if_pos hm, List.map_append, Int.zero_add]
          rfl
      · refine ite2 (fun z => absurd z hm) (fun _ => ?_)
        refine ⟨s2, ?_⟩
        rw [bits_succ, if_neg hm]
        exact e2
    · rintro H2 ⟨s2, e2⟩
      refine ⟨.ref D, rfl, D, (bits n).map vi, rfl, .inr (SqL.of e2), fun x dx nx ndx ne => ?_⟩
      refine ⟨H2, x, dx, n, rfl, hn, fun b o e => ?_, nx, upd_same, fun H3 s3 e3 => ⟨rfl, ?_⟩⟩
      · rw [upd_ne (ne_of_none e nx), upd_ne (ne_of_none e ndx)]
        exact e
      · refine q H3 x (s2.trans s3) (s2.free nx) ⟨hn, dx, e3⟩
/-! ### writers -/
def spWri (C : Addr) : Sp := fun vs H Q _ => ∃ (p : Addr) (n : Nat), vs = [.ref p] ∧ MoAt C H p n ∧ ∀ H' l, Same H H' → H l = none → H' l = some (.lst ((bits n).map vi)) → Q (.ref l) H'
theorem ok_writers {f : Addr} {fd : FuncData} (F : Fun K "writers" "Moment.writers" s_Moment_writers f fd) (T : Txt K mg C) : FnOk P w K mg base CX0 1 f fd ["self"] (spWri C) := by
  obtain ⟨tw, lw⟩ := T.lw
  refine F.ok sc_Moment_writers (fun vs H Q E h => ?_) (fun cdv A outer s H vs Q E hr h => ?_)
  · obtain ⟨p, n, rfl, _⟩ := h
    rfl
  · obtain ⟨p, n, rfl, ⟨hn, dx, hp⟩, q⟩ := h
    refine ⟨_, pss_one (ps_ret (pe_lc (own := [("k", 1)]) (g := gName 1) rfl sc_Moment_writers.nd (pi_range1 (by rfl) T.range (pa_cons (pe_op op_add (pe_glob (v := .int 30) (by rfl) lw ⟨_, rfl⟩) pe_int) pa_nil))
        (blkOk_by (own := [("k", 1)]) (N := ["self", "k"]) (sc := defScope s_Moment_writers) (by decide +kernel)) (fun _ _ _ _ _ => pg_name (i := 1) sc_Moment_writers.nd rfl (Or.inl rfl))
        (fun _ _ _ _ _ => pts_one (Vx.pt_truthK (K := K) rfl (pe_op op_and (pe_op op_shr (Vx.pe_fldK (K := K) rfl (pv 0) rfl) (pv 1)) pe_int) (by intro _; rfl))) (fun _ _ _ _ _ => pv 1))), ?_⟩
    refine ⟨30, 1, rfl, rfl, 31, rfl, by decide, by decide, fun D hD => ?_⟩
    refine lc_range (lo := 0) (n := 31) (fun i H2 => Same H H2 ∧ H2 D = some (.lst (((List.range i).filter fun k => n.testBit k).map vi))) ⟨same_upd hD, upd_same⟩ ?_ ?_
    · rintro i H2 hi ⟨s2, e2⟩
      refine ⟨rfl, .ref p, rfl, p, C, dx, _, _, rfl, s2 _ _ hp, T.cl, T.nN, rfl, .int (0 + (i : Int)), rfl, (n : Int), _, rfl, rfl, by omega, _, _, rfl, rfl, (Builtin.bitAnd ((n : Int) / 2 ^ (0 + (i : Int)).toNat) 1 != 0), rfl, ?_⟩
      have ei : (0 + (i : Int)).toNat = i := by omega
      rw [ei, bit_test]
      by_cases hm : n.testBit i = true
      · refine ite2 (fun _ => ?_) (fun z => absurd hm z)
        refine ⟨.int (0 + (i : Int)), rfl, _, e2, acc_len _ hi, fun b o e => ?_, ?_⟩
        · rw [upd_ne (ne_of_none e hD)]
          exact s2 _ _ e
        · rw [upd_same, bits_succ, if_pos hm, List.map_append, Int.zero_add]
          rfl
      · refine ite2 (fun z => absurd z hm) (fun _ => ?_)
        refine ⟨s2, ?_⟩
        rw [bits_succ, if_neg hm]
        exact e2
    · rintro H2 ⟨s2, e2⟩
      exact q H2 D s2 hD e2
end
end Toy
set_option Elab.async false
set_option linter.all false
set_option maxRecDepth 100000
set_option maxHeartbeats 2000000
namespace Toy
open PySem PySem.Spec PyProof.Rows L2
/-- the operators' text -/
structure Ops (K : PySem.W.Frag) (mg : Str → Option Value) (C fN fO pO mcG : Addr) (mc : Value) : Prop where
  gN : mg "_number_of" = some (.ref fN)
  kN : PySem.W.keepIn K (.ref fN) = true
  rd : ClX.CRead K C mc
  sm : Vx.SMet K C mc "of" pO fO
section
variable {P : Program} {w : World} {K : PySem.W.Frag} {mg : Str → Option Value} {base : Heap} {C : Addr}
/-! ### a | b, a & b -/
def spBin (C : Addr) (g : Nat → Nat → Nat) : Sp := fun vs H Q _ => ∃ (p : Addr) (n m : Nat) (y : V), vs = [.ref p, y] ∧ MoAt C H p n ∧ Arg C H y m ∧ ∀ H' q, Same H H' → H q = none → MoAt C H' q (g n m) → Q (.ref q) H'
theorem ok_or {f fN fO pO x : Addr} {mc : Value} {fd fdN : FuncData} (F : Fun K "__or__" "Moment.__or__" s_Moment_or f fd) (T : Txt K mg C) (O : Ops K mg C fN fO pO x mc) (GN : FnOk P w K mg base CX0 4 fN fdN ["value"] (spNum C)) (bN : L2.Binds K fdN ["value"] [])
    (GO : FnR P w K mg base CX0 6 fO (spOf C)) : FnOk P w K mg base CX0 7 f fd ["self", "other"] (spBin C fun n m => n ||| m) := by
  refine F.ok sc_Moment_or (fun vs H Q E h => ?_) (fun cdv A outer s H vs Q E hr h => ?_)
  · obtain ⟨p, n, m, y, rfl, _⟩ := h
    rfl
  · obtain ⟨p, n, m, y, rfl, hp, ha, q⟩ := h
    have hr4 : Room 4 _ := hr.mono (by decide)
    refine ⟨_, pss_cons (ps_set (i := 2) sc_Moment_or.nd rfl (Or.inl rfl) (pe_call GN hr4 (by rfl) O.gN O.kN bN .nil pass0 (pa_cons (pv 1) pa_nil)))
      (pss_cons (ps_if (pt_cmpR op_isN (pv 2) pe_non (nomark _)) (pss_one ps_never) pss_nil)
      (pss_one (ps_ret (Vx.pe_smeth (pe_glob (v := .ref C) (by rfl) T.mgC rfl) O.rd O.sm GO hr pass0 (pa_cons (pe_op op_or (pe_fld (pv 0) rfl) (pv 2)) pa_nil))))), ?_⟩
    refine ⟨_, rfl, y, m, rfl, ha, ?_⟩
    refine ⟨_, rfl, rfl, _, rfl, iteF ?_⟩
    obtain ⟨hn, dx, hp'⟩ := id hp
    refine ⟨rfl, _, rfl, p, C, dx, _, _, rfl, hp', T.cl, T.nN, rfl, _, rfl, (n : Int), (m : Int), rfl, rfl, n ||| m, ?_, Nat.or_lt_two_pow (n := 31) hn ha.1, fun H' r s' hr' hm' => q H' r s' hr' hm'⟩
    show [V.int (Builtin.bitOr (n : Int) (m : Int))] = [vi (n ||| m)]
    rw [or_pp]
    rfl
theorem ok_and {f fN fO pO x : Addr} {mc : Value} {fd fdN : FuncData} (F : Fun K "__and__" "Moment.__and__" s_Moment_and f fd) (T : Txt K mg C) (O : Ops K mg C fN fO pO x mc) (GN : FnOk P w K mg base CX0 4 fN fdN ["value"] (spNum C)) (bN : L2.Binds K fdN ["value"] [])
    (GO : FnR P w K mg base CX0 6 fO (spOf C)) : FnOk P w K mg base CX0 7 f fd ["self", "other"] (spBin C fun n m => n &&& m) := by
  refine F.ok sc_Moment_and (fun vs H Q E h => ?_) (fun cdv A outer s H vs Q E hr h => ?_)
  · obtain ⟨p, n, m, y, rfl, _⟩ := h
    rfl
  · obtain ⟨p, n, m, y, rfl, hp, ha, q⟩ := h
    have hr4 : Room 4 _ := hr.mono (by decide)
    refine ⟨_, pss_cons (ps_set (i := 2) sc_Moment_and.nd rfl (Or.inl rfl) (pe_call GN hr4 (by rfl) O.gN O.kN bN .nil pass0 (pa_cons (pv 1) pa_nil)))
      (pss_cons (ps_if (pt_cmpR op_isN (pv 2) pe_non (nomark _)) (pss_one ps_never) pss_nil)
      (pss_one (ps_ret (Vx.pe_smeth (pe_glob (v := .ref C) (by rfl) T.mgC rfl) O.rd O.sm GO hr pass0 (pa_cons (pe_op op_and (pe_fld (pv 0) rfl) (pv 2)) pa_nil))))), ?_⟩
    refine ⟨_, rfl, y, m, rfl, ha, ?_⟩
    refine ⟨_, rfl, rfl, _, rfl, iteF ?_⟩
    obtain ⟨hn, dx, hp'⟩ := id hp
    refine ⟨rfl, _, rfl, p, C, dx, _, _, rfl, hp', T.cl, T.nN, rfl, _, rfl, (n : Int), (m : Int), rfl, rfl, n &&& m, ?_, Nat.lt_of_le_of_lt Nat.and_le_left hn, fun H' r s' hr' hm' => q H' r s' hr' hm'⟩
    show [V.int (Builtin.bitAnd (n : Int) (m : Int))] = [vi (n &&& m)]
    rw [and_pp]
    rfl
/-! ### comparisons -/
def spCmp (C : Addr) (g : Nat → Nat → Bool) : Sp := fun vs H Q _ => ∃ (p r : Addr) (n m : Nat), vs = [.ref p, .ref r] ∧ MoAt C H p n ∧ MoAt C H r m ∧ Q (.bl (g n m)) H
def gLe (n m : Nat) : Bool := decide (n &&& m = n)
def gGe (n m : Nat) : Bool := decide (n &&& m = m)
def gLt (n m : Nat) : Bool := decide (n &&& m = n) && decide (n ≠ m)
def gGt (n m : Nat) : Bool := decide (n &&& m = m) && decide (n ≠ m)
def gEq (n m : Nat) : Bool := decide (n = m)
theorem isi_mo {p : Addr} {n : Nat} {H : Hp} (T : Txt K mg C) (h : MoAt C H p n) : TyX K H (.ref p) (.ref C) := by
  obtain ⟨_, dx, e⟩ := h
  exact .base (.ins e T.cl T.cC T.cG T.cT T.cM)
theorem ok_le {f : Addr} {fd : FuncData} (F : Fun K "__le__" "Moment.__le__" s_Moment_le f fd) (T : Txt K mg C) : FnOk P w K mg base CX0 1 f fd ["self", "other"] (spCmp C gLe) := by
  refine F.ok sc_Moment_le (fun vs H Q E h => ?_) (fun cdv A outer s H vs Q E hr h => ?_)
  · obtain ⟨p, r, n, m, rfl, _⟩ := h
    rfl
  · obtain ⟨p, r, n, m, rfl, hp, hm, q⟩ := h
    refine ⟨_, pss_cons (ps_if (pt_not (pt_val (pe_callB call_isi (by rfl) T.isi (by decide +kernel) (pa_cons (pv 1) (pa_cons (pe_glob (v := .ref C) (by rfl) T.mgC rfl) pa_nil))))) (pss_one ps_never) pss_nil)
      (pss_one (ps_ret (pe_cmpR op_eq (pe_op op_and (pe_fld (pv 0) rfl) (pe_fld (pv 1) rfl)) (pe_fld (pv 0) rfl) (nomark _)))), ?_⟩
    refine ⟨_, rfl, .ref r, .ref C, .ref C, .ref C, true, rfl, .own C, isi_mo T hm, T.kCC, true, rfl, iteF ?_⟩
    obtain ⟨_, dx, hp'⟩ := hp
    obtain ⟨_, dy, hm'⟩ := hm
    refine ⟨_, rfl, p, C, dx, _, _, rfl, hp', T.cl, T.nN, rfl, _, rfl, r, C, dy, _, _, rfl, hm', T.cl, T.nN, rfl, (n : Int), (m : Int), rfl, rfl, _, rfl, p, C, dx, _, _, rfl, hp', T.cl, T.nN, rfl, rfl, ?_⟩
    show Q (V.bl (decide (V.int (Builtin.bitAnd (n : Int) (m : Int)) = V.int (n : Int)))) H
    rw [and_pp, dec_int]
    exact q
theorem ok_ge {f : Addr} {fd : FuncData} (F : Fun K "__ge__" "Moment.__ge__" s_Moment_ge f fd) (T : Txt K mg C) : FnOk P w K mg base CX0 1 f fd ["self", "other"] (spCmp C gGe) := by
  refine F.ok sc_Moment_ge (fun vs H Q E h => ?_) (fun cdv A outer s H vs Q E hr h => ?_)
  · obtain ⟨p, r, n, m, rfl, _⟩ := h
    rfl
  · obtain ⟨p, r, n, m, rfl, hp, hm, q⟩ := h
    refine ⟨_, pss_cons (ps_if (pt_not (pt_val (pe_callB call_isi (by rfl) T.isi (by decide +kernel) (pa_cons (pv 1) (pa_cons (pe_glob (v := .ref C) (by rfl) T.mgC rfl) pa_nil))))) (pss_one ps_never) pss_nil)
      (pss_one (ps_ret (pe_cmpR op_eq (pe_op op_and (pe_fld (pv 0) rfl) (pe_fld (pv 1) rfl)) (pe_fld (pv 1) rfl) (nomark _)))), ?_⟩
    refine ⟨_, rfl, .ref r, .ref C, .ref C, .ref C, true, rfl, .own C, isi_mo T hm, T.kCC, true, rfl, iteF ?_⟩
    obtain ⟨_, dx, hp'⟩ := hp
    obtain ⟨_, dy, hm'⟩ := hm
    refine ⟨_, rfl, p, C, dx, _, _, rfl, hp', T.cl, T.nN, rfl, _, rfl, r, C, dy, _, _, rfl, hm', T.cl, T.nN, rfl, (n : Int), (m : Int), rfl, rfl, _, rfl, r, C, dy, _, _, rfl, hm', T.cl, T.nN, rfl, rfl, ?_⟩
    show Q (V.bl (decide (V.int (Builtin.bitAnd (n : Int) (m : Int)) = V.int (m : Int)))) H
    rw [and_pp, dec_int]
    exact q
/-- what the text says of a comparison's method -/
structure CmpF (K : PySem.W.Frag) (C f : Addr) (op : CmpOp) : Prop where
  nf : PySem.W.notFirst K C (.ref C) = true
  at_ : PySem.W.findIn K (.ref C) (cmpInfo op).2.1 = some (some (.ref f))
  fn : PySem.W.isFn K (.ref f) = true
theorem ok_lt {f fL : Addr} {fd : FuncData} (F : Fun K "__lt__" "Moment.__lt__" s_Moment_lt f fd) (T : Txt K mg C) (L : CmpF K C fL .LtE) (GL : FnR P w K mg base CX0 1 fL (spCmp C gLe)) : FnOk P w K mg base CX0 2 f fd ["self", "other"] (spCmp C gLt) := by
  refine F.ok sc_Moment_lt (fun vs H Q E h => ?_) (fun cdv A outer s H vs Q E hr h => ?_)
  · obtain ⟨p, r, n, m, rfl, _⟩ := h
    rfl
  · obtain ⟨p, r, n, m, rfl, hp, hm, q⟩ := h
    refine ⟨_, pss_cons (ps_if (pt_not (pt_val (pe_callB call_isi (by rfl) T.isi (by decide +kernel) (pa_cons (pv 1) (pa_cons (pe_glob (v := .ref C) (by rfl) T.mgC rfl) pa_nil))))) (pss_one ps_never) pss_nil)
      (pss_one (ps_ret (pe_and (pe_cmpR (Vx.op_cmpOwn (op := .LtE) (fun _ _ => rfl) L.nf L.at_ L.fn GL hr pass0) (pv 0) (pv 1) (nomark _)) (pe_one (pe_cmpR op_ne (pe_fld (pv 0) rfl) (pe_fld (pv 1) rfl) (nomark _)))))), ?_⟩
    refine ⟨_, rfl, .ref r, .ref C, .ref C, .ref C, true, rfl, .own C, isi_mo T hm, T.kCC, true, rfl, iteF ?_⟩
    obtain ⟨_, dx, hp'⟩ := id hp
    obtain ⟨_, dy, hm'⟩ := id hm
    refine ⟨_, rfl, _, rfl, ⟨p, dx, _, rfl, hp'⟩, ⟨r, dy, _, rfl, hm'⟩, p, r, n, m, rfl, hp, hm, gLe n m, rfl, ?_⟩
    by_cases hl : n &&& m = n
    · have e : gLe n m = true := decide_eq_true hl
      rw [e]
      refine iteT ⟨_, rfl, p, C, dx, _, _, rfl, hp', T.cl, T.nN, rfl, _, rfl, r, C, dy, _, _, rfl, hm', T.cl, T.nN, rfl, rfl, ?_⟩
      show Q (V.bl (!decide (V.int (n : Int) = V.int (m : Int)))) H
      rw [dec_int]
      have e2 : gLt n m = !decide (n = m) := by unfold gLt; rw [decide_eq_true hl]; simp
      rw [e2] at q
      exact q
    · have e : gLe n m = false := decide_eq_false hl
      rw [e]
      have e2 : gLt n m = false := by unfold gLt; rw [decide_eq_false hl]; rfl
      rw [e2] at q
      exact iteF q
theorem ok_gt {f fL : Addr} {fd : FuncData} (F : Fun K "__gt__" "Moment.__gt__" s_Moment_gt f fd) (T : Txt K mg C) (L : CmpF K C fL .GtE) (GL : FnR P w K mg base CX0 1 fL (spCmp C gGe)) : FnOk P w K mg base CX0 2 f fd ["self", "other"] (spCmp C gGt) := by
  refine F.ok sc_Moment_gt (fun vs H Q E h => ?_) (fun cdv A outer s H vs Q E hr h => ?_)
  · obtain ⟨p, r, n, m, rfl, _⟩ := h
    rfl
  · obtain ⟨p, r, n, m, rfl, hp, hm, q⟩ := h
    refine ⟨_, pss_cons (ps_if (pt_not (pt_val (pe_callB call_isi (by rfl) T.isi (by decide +kernel) (pa_cons (pv 1) (pa_cons (pe_glob (v := .ref C) (by rfl) T.mgC rfl) pa_nil))))) (pss_one ps_never) pss_nil)
      (pss_one (ps_ret (pe_and (pe_cmpR (Vx.op_cmpOwn (op := .GtE) (fun _ _ => rfl) L.nf L.at_ L.fn GL hr pass0) (pv 0) (pv 1) (nomark _)) (pe_one (pe_cmpR op_ne (pe_fld (pv 0) rfl) (pe_fld (pv 1) rfl) (nomark _)))))), ?_⟩
    refine ⟨_, rfl, .ref r, .ref C, .ref C, .ref C, true, rfl, .own C, isi_mo T hm, T.kCC, true, rfl, iteF ?_⟩
    obtain ⟨_, dx, hp'⟩ := id hp
    obtain ⟨_, dy, hm'⟩ := id hm
    refine ⟨_, rfl, _, rfl, ⟨p, dx, _, rfl, hp'⟩, ⟨r, dy, _, rfl, hm'⟩, p, r, n, m, rfl, hp, hm, gGe n m, rfl, ?_⟩
    by_cases hl : n &&& m = m
    · have e : gGe n m = true := decide_eq_true hl
      rw [e]
      refine iteT ⟨_, rfl, p, C, dx, _, _, rfl, hp', T.cl, T.nN, rfl, _, rfl, r, C, dy, _, _, rfl, hm', T.cl, T.nN, rfl, rfl, ?_⟩
      show Q (V.bl (!decide (V.int (n : Int) = V.int (m : Int)))) H
      rw [dec_int]
      have e2 : gGt n m = !decide (n = m) := by unfold gGt; rw [decide_eq_true hl]; simp
      rw [e2] at q
      exact q
    · have e : gGe n m = false := decide_eq_false hl
      rw [e]
      have e2 : gGt n m = false := by unfold gGt; rw [decide_eq_false hl]; rfl
      rw [e2] at q
      exact iteF q
theorem ok_eq {f : Addr} {fd : FuncData} (F : Fun K "__eq__" "Moment.__eq__" s_Moment_eq f fd) (T : Txt K mg C) : FnOk P w K mg base CX0 1 f fd ["self", "other"] (spCmp C gEq) := by
  refine F.ok sc_Moment_eq (fun vs H Q E h => ?_) (fun cdv A outer s H vs Q E hr h => ?_)
  · obtain ⟨p, r, n, m, rfl, _⟩ := h
    rfl
  · obtain ⟨p, r, n, m, rfl, hp, hm, q⟩ := h
    refine ⟨_, pss_one (ps_ret (pe_and (pe_callB call_isi (by rfl) T.isi (by decide +kernel) (pa_cons (pv 1) (pa_cons (pe_glob (v := .ref C) (by rfl) T.mgC rfl) pa_nil))) (pe_one (pe_cmpR op_eq (pe_fld (pv 0) rfl) (pe_fld (pv 1) rfl) (nomark _))))), ?_⟩
    refine ⟨_, rfl, .ref r, .ref C, .ref C, .ref C, true, rfl, .own C, isi_mo T hm, T.kCC, true, rfl, iteT ?_⟩
    obtain ⟨_, dx, hp'⟩ := hp
    obtain ⟨_, dy, hm'⟩ := hm
    refine ⟨_, rfl, p, C, dx, _, _, rfl, hp', T.cl, T.nN, rfl, _, rfl, r, C, dy, _, _, rfl, hm', T.cl, T.nN, rfl, rfl, ?_⟩
    show Q (V.bl (decide (V.int (n : Int) = V.int (m : Int)))) H
    rw [dec_int]
    exact q
end
end Toy
set_option Elab.async false
set_option linter.all false
set_option maxRecDepth 100000
set_option maxHeartbeats 2000000
namespace Vx
open PySem PySem.Spec PyProof.Rows L2
section
variable {X : Cx} {CX : CXT} {k : Nat} {C f : Addr} {sp : Sp} {E : XK} {pins : List (Addr × Obj)} {σ : L2.St} {H : Hp} {s : Shared} {Q : VK} {A : Around}
/-- a def called somewhere below the running body -/
theorem run_in {us : List Value} {vs : List V} (sb : Sub X k A) (F : FnR X.prog X.w X.K X.mg X.base CX k f sp) (hx : Passes CX X E) (I : L2.Inv X pins σ H s) (r : Vals vs us) (h : sp vs H Q E) :
    codeAny (model X.prog X.w) A (.call (.ref f) ⟨us, []⟩) (fun r s' => match r with | .ok (.ret v) => EP X pins σ Q v s' | .ok _ => False | .error e => X.xe e s') s := by
  have e0 : Env0 X.prog X.w X.K X.mg X.base A X.stack s H := by
    have e := I.env0
    exact ⟨by rw [sb.fr]; exact e.frames, e.mod, e.bs, e.bsz, e.funs, e.frf, e.hok, e.bare⟩
  refine codeAny_mono (F A X.stack s H us vs Q E sb.room e0 r h) fun r s' hq => ?_
  cases r with
  | error e => exact hx pins σ H s e s' I hq
  | ok fl =>
    cases fl with
    | ret u => exact I.after hq
    | next => exact False.elim hq
    | brk => exact False.elim hq
    | cont => exact False.elim hq
end
section
variable {prog : Program} {w : World} {A : Around} {E : Value → Shared → Prop} {s : Shared} {K : PySem.W.Frag} {x C L f : Addr} {h₀ : Heap} {m : Str → Option Value} {ox : Obj} {od : Option Obj} {b : Value}
open PySem.W in
theorem ne_body (hu : A.units < cLine) (X : K.In s.heap) (I : InstAt s.heap x ox C od) (he : findIn K (.ref C) "__eq__" = some (some (.ref f))) (hf : isFn K (.ref f) = true) {Q : Value → Shared → Prop}
    (h : wpAny (model prog w) A (call (.ref f) [.ref x, b]) (fun v s' => ∃ r, v = .bool r ∧ Q (.bool (!r)) s') E s) :
    wpAny (model prog w) A (Builtin.«object.__ne__» ⟨[.ref x, b], []⟩) (fun fin s' => ∃ v, fin = .done (.ret v) ∧ Q v s') E s := by
  unfold Builtin.«object.__ne__»
  obtain ⟨hh, g, d, t, os⟩ := s
  have st : wpAny (model prog w) A (callSpecialIfBound? (.ref x) "__eq__" [b]) (fun r s' => ∃ v, r = some (.bool v) ∧ Q (.bool (!v)) s') E ⟨hh, g, d, t, os⟩ :=
    ifBound_K X I he hf (wpAny_mono h (fun v s' hv => by obtain ⟨r, rfl, q⟩ := hv; exact ⟨r, rfl, q⟩) fun _ _ z => z)
  repeat (first | with_reducible refine wpAny_cRoomFor hu ?_ | with_reducible refine wpAny_bind (wpAny_mono st (fun r s' hr => ?_) fun _ _ z => z) | wp_step)
  obtain ⟨v, rfl, q⟩ := hr
  refine wpAny_bind (wpAny_truthy_bool ?_)
  exact wpAny_pure ⟨_, rfl, q⟩
open PySem.W in
theorem ne_K {Q : Value → Shared → Prop} {tb : Value} (hu : A.units + 1 < cLine) (F : Fr h₀ L s.heap m) (X₀ : K.In h₀) (I : InstAt s.heap x ox C od) (hb : Looks (model prog w) s.heap (typeOf b) tb) (hn : notFirst K C tb = true)
    (hs : findIn K (.ref C) "__ne__" = some (some (.builtin "object.__ne__"))) (he : findIn K (.ref C) "__eq__" = some (some (.ref f))) (hf : isFn K (.ref f) = true) (ho : mroIn K C (.type "object") = some true)
    (h : wpAny (model prog w) A.in1 (call (.ref f) [.ref x, b]) (fun v s' => ∃ r, v = .bool r ∧ Q (.bool (!r)) s') E s) : wpAny (model prog w) A (richCompare .NotEq (.ref x) b) Q E s := by
  have X := X₀.keeps F.keep
  have hu0 : A.units < cLine := Nat.lt_trans (Nat.lt_succ_self _) hu
  have cb : wpAny (model prog w) A (call (.builtin "object.__ne__") ([.ref x] ++ [b])) (fun v s' => ∃ r, v = .bool r ∧ Q v s') E s := by
    refine wpAny_call (codeAny_call_builtin PySem.F.cmp_object.ne.plain PySem.F.cmpEntry_ne (check_slot PySem.F.cmpKind_ne PySem.F.cmpSplit_ne (I.type.andThen (looks_mroIn X ho)) (PySem.F.cmpArgs_ne _ _) ?_))
    have z : wpAny (model prog w) A.in1 (Builtin.«object.__ne__» ⟨[.ref x, b], []⟩) (fun fin s' => ∃ v, fin = .done (.ret v) ∧ ∃ r, v = .bool r ∧ Q v s') E s :=
      ne_body (Q := fun v s' => ∃ r, v = .bool r ∧ Q v s') (A := A.in1) hu X I he hf (wpAny_mono h (fun v s' hv => by obtain ⟨r, rfl, q⟩ := hv; exact ⟨r, rfl, _, rfl, q⟩) fun _ _ z => z)
    refine wpAny_mono z (fun fin s' hv => ?_) fun _ _ y => y
    obtain ⟨v, rfl, r, rfl, q⟩ := hv
    exact ⟨r, rfl, q⟩
  have one : wpAny (model prog w) A (tryCompare (.ref x) "__ne__" b) (fun r s' => ∃ v, r = some v ∧ Q v s') E s := by
    unfold tryCompare
    refine wpAny_bind ?_
    simp only [callSpecialIfBound?, bindSpecialIfBound?]
    refine wpAny_holding (wpAny_bind (wpAny_bind (wpAny_bind (I.type.here ((looks_findIn X hs).here ?_)))))
    simp only [PySem.F.cmp_object.ne.bind]
    refine wpAny_bind (wpAny_askSetting (wpAny_ite ?_))
    have fin : wpAny (model prog w) A (call (.builtin "object.__ne__") ([.ref x] ++ [b]) >>= fun v => pure (some v)) (fun r s' => ∃ v, r = some (.bool v) ∧ Q (.bool v) s') E s :=
      wpAny_bind (wpAny_mono cb (fun v s' h' => by obtain ⟨r, rfl, q⟩ := h'; exact wpAny_pure ⟨r, rfl, q⟩) fun _ _ h' => h')
    have fin2 := wpAny_mono fin (Q' := fun r s' => wpAny (model prog w) A (match r with | some .notImplemented => pure none | none => pure none | some v => pure (some v)) (fun r s' => ∃ v, r = some v ∧ Q v s') E s') (fun r s' h' => by obtain ⟨v, rfl, q⟩ := h'; exact wpAny_pure ⟨_, rfl, q⟩) fun _ _ z => z
    split
    · exact wpAny_bind (wpAny_pure (wpAny_pure fin2))
    · exact wpAny_tryCatch (wpAny_bind (wpAny_pure (wpAny_pure fin2)))
  unfold richCompare
  simp only [oneThing_ref]
  refine wpAny_holding (wpAny_bind (wpAny_cRoomFor hu0 ?_))
  refine wpAny_bind (I.type.here (wpAny_bind (hb.here ?_)))
  split
  · rename_i q
    have e : subIn K tb (.ref C) = some false := by
      rcases Bool.or_eq_true_iff.mp hn with e | e
      · rw [beq_iff_eq.mp e] at q; simp at q
      · exact beq_iff_eq.mp e
    refine wpAny_bind ((looks_subIn X e).here ?_)
    simp only [Bool.false_eq_true, if_false]
    refine wpAny_bind (wpAny_mono one (fun r s' z => ?_) fun _ _ e => e)
    obtain ⟨v, rfl, hq⟩ := z
    exact wpAny_pure hq
  · refine wpAny_bind (wpAny_pure ?_)
    simp only [Bool.false_eq_true, if_false]
    refine wpAny_bind (wpAny_mono one (fun r s' z => ?_) fun _ _ e => e)
    obtain ⟨v, rfl, hq⟩ := z
    exact wpAny_pure hq
end
section
variable {X : Cx} {CX : CXT} {k : Nat} {C f : Addr} {sp : Sp} {E : XK}
/-- o != y: not o == y, by the own == -/
def rNeOwn (C : Addr) (sp : Sp) (E : XK) : R2 := fun x y H Q => (∃ a dx fs, x = .ref a ∧ H a = some (.ins C dx fs)) ∧ (∃ b dy gs, y = .ref b ∧ H b = some (.ins C dy gs)) ∧ sp [x, y] H (fun v H' => ∃ r, v = .bl r ∧ Q (.bl (!r)) H') E
theorem op_neOwn (nf : PySem.W.notFirst X.K C (.ref C) = true) (hs : PySem.W.findIn X.K (.ref C) "__ne__" = some (some (.builtin "object.__ne__"))) (he : PySem.W.findIn X.K (.ref C) "__eq__" = some (some (.ref f))) (fn : PySem.W.isFn X.K (.ref f) = true)
    (ho : PySem.W.mroIn X.K C (.type "object") = some true) (F : FnR X.prog X.w X.K X.mg X.base CX k f sp) (hr : Room (k + 1) X.A) (hx : Passes CX X E) : OpR X (compareOp .NotEq) (rNeOwn C sp E) := by
  intro pins s σ H x y v u Q I rx ry hq
  obtain ⟨⟨a, dx, fs, rfl, ha⟩, ⟨b, dy, gs, rfl, hb⟩, hsp⟩ := hq
  have ev : v = Value.ref a := rx
  have eu : u = Value.ref b := ry
  have sb : Sub X k X.A.in1 := (⟨hr, rfl⟩ : Sub X (k + 1) X.A).in1
  have cl := wpAny_call (run_in (us := [v, u]) (vs := [V.ref a, V.ref b]) sb F hx I (.cons rx (.cons ry .nil)) hsp)
  subst ev eu
  obtain ⟨mA, J, _⟩ := ins_get I.hok ha
  obtain ⟨od, J, _⟩ := J.look
  obtain ⟨mB, J', _⟩ := ins_get I.hok hb
  obtain ⟨od', J', _⟩ := J'.look
  obtain ⟨m, hF⟩ := I.fr
  show wpAny (model X.prog X.w) X.A (richCompare .NotEq (.ref a) (.ref b)) (EP X pins σ Q) X.xe s
  refine ne_K (hu_of hr) hF I.ok.mod.kin J J'.type nf hs he fn ho (wpAny_mono cl (fun v s' hv => ?_) fun _ _ z => z)
  obtain ⟨v', H', I', rv, r, rfl, q⟩ := hv
  exact ⟨r, rv, .bl (!r), H', I', rfl, q⟩
end
end Vx
set_option Elab.async false
set_option linter.all false
set_option maxRecDepth 100000
set_option maxHeartbeats 2000000
namespace Toy
open PySem PySem.Spec PyProof.Rows L2
/-! ### the pot of drawn numbers -/
def Pot (H : Hp) (p c : Addr) : Prop := ∃ (cs : List Int) (at_ : Nat) (x : Int), H p = some (.lst [.ref c, .int at_, .int x]) ∧ H c = some (.lst (cs.map V.int)) ∧ cs.length ≤ 63 ∧ 0 ≤ x ∧ x < 2147483647
theorem Pot.ne {H : Hp} {p c : Addr} (h : Pot H p c) : p ≠ c := by
  obtain ⟨cs, a, x, h1, h2, _⟩ := h
  intro e
  rw [e, h2] at h1
  injection h1 with h1
  injection h1 with h1
  cases cs with
  | nil => cases h1
  | cons y r => injection h1 with z; cases z
theorem Pot.same {H H' : Hp} {p c : Addr} (h : Pot H p c) (s : Same H H') : Pot H' p c := by
  obtain ⟨cs, a, x, h1, h2, r⟩ := h
  exact ⟨cs, a, x, s _ _ h1, s _ _ h2, r⟩
/-- all but the pot stays -/
def Kept (p c : Addr) (H H' : Hp) : Prop := ∀ b o, b ≠ p → b ≠ c → H b = some o → H' b = some o
theorem Kept.rfl' {p c : Addr} {H : Hp} : Kept p c H H := fun _ _ _ _ e => e
theorem Kept.trans {p c : Addr} {H H1 H2 : Hp} (a : Kept p c H H1) (b : Kept p c H1 H2) : Kept p c H H2 := fun x o n m e => b x o n m (a x o n m e)
theorem Kept.of_same {p c : Addr} {H H' : Hp} (s : Same H H') : Kept p c H H' := fun b o _ _ e => s b o e
theorem ixN_nat {n k : Nat} (h : k < n) : ixN n (k : Int) = some k := by
  unfold ixN
  rw [if_pos (Int.natCast_nonneg _), if_pos (by omega), Int.toNat_natCast]
theorem cut63 {xs : List V} (h : xs.length ≤ 63) : cutV xs none (some 63) = xs := by
  unfold cutV
  rw [HT.sIx_none, show HT.sIx xs.length xs.length (some 63) = min 63 xs.length from HT.sIx_nat xs.length xs.length 63, List.drop_zero, Nat.sub_zero]
  exact List.take_of_length_le (by omega)
section
variable {P : Program} {w : World} {K : PySem.W.Frag} {mg : Str → Option Value} {base : Heap} {C : Addr}
def spPot (K : PySem.W.Frag) : Sp := fun vs H Q _ => ∃ (a : Addr) (ns : List Int), vs = [.ref a] ∧ SqL K H a (ns.map V.int) ∧ ns.length ≤ 63 ∧ ∀ H' p c, Same H H' → H p = none → H c = none → Pot H' p c → Q (.ref p) H'
theorem ok_pot {f : Addr} {fd : FuncData} (F : Fun K "_law_pot" "_law_pot" s_law_pot f fd) (mi : mg "int" = none) : FnOk P w K mg base CX0 1 f fd ["script"] (spPot K) := by
  refine F.ok sc_law_pot (fun vs H Q E h => ?_) (fun cdv A outer s H vs Q E hr h => ?_)
  · obtain ⟨a, ns, rfl, _⟩ := h
    rfl
  · obtain ⟨a, ns, rfl, hS, hn, q⟩ := h
    refine ⟨_, pss_one (ps_ret (pe_lst (pa_cons (pe_lc (own := [("cell", 1)]) (g := gName 1) (tt := tYes) rfl sc_law_pot.nd (pi_list (pe_slice sl_list (pv 0) po_none (po_some pe_int)))
        (blkOk_by (own := [("cell", 1)]) (N := ["script", "cell"]) (sc := defScope s_law_pot) (by decide +kernel)) (fun _ _ _ _ _ => pg_name (i := 1) sc_law_pot.nd rfl (Or.inl rfl))
        (fun _ _ _ _ _ => pts_nil) (fun _ _ _ _ _ => pe_callTy call_int1 (by rfl) mi (by decide +kernel) (pa_cons (pv 1) pa_nil))) (pa_cons pe_int (pa_cons pe_int pa_nil))))), ?_⟩
    refine ⟨.ref a, rfl, 63, rfl, a, _, rfl, hS, fun b nb => ?_⟩
    rw [cut63 (by rw [List.length_map]; exact hn)]
    refine ⟨b, rfl, ⟨_, SqL.of upd_same⟩, fun D hD => ?_⟩
    have hb : (upd H b (.lst (ns.map V.int))) b = some (.lst (ns.map V.int)) := upd_same
    have s1 : Same H (upd H b (.lst (ns.map V.int))) := same_upd nb
    have hD0 : H D = none := s1.free hD
    refine lc_list (K := K) (a := b) (xs := ns.map V.int) (fun i H2 => Same (upd H b (.lst (ns.map V.int))) H2 ∧ H2 D = some (.lst ((ns.take i).map V.int))) ⟨same_upd hD, upd_same⟩ (fun i H2 _ z => SqL.of (z.1 _ _ hb)) ?_ ?_
    · rintro i x H2 hx ⟨s2, e2⟩
      obtain ⟨n, hi, rfl⟩ : ∃ n, ns[i]? = some n ∧ x = V.int n := by
        rw [List.getElem?_map] at hx
        cases e : ns[i]? with
        | none => rw [e] at hx; cases hx
        | some n => rw [e] at hx; exact ⟨n, rfl, (Option.some.inj hx).symm⟩
      refine ⟨rfl, ?_⟩
      refine ⟨_, rfl, .inl ⟨n, rfl, _, e2, ?_, fun d o e => ?_, ?_⟩⟩
      · rw [List.length_map, List.length_take]
        exact Nat.lt_of_le_of_lt (Nat.le_trans (Nat.min_le_right _ _) hn) (by decide)
      · rw [upd_ne (ne_of_none e hD)]
        exact s2 _ _ e
      · rw [upd_same, List.take_add_one, hi, List.map_append]
        rfl
    · rintro H2 ⟨s2, e2⟩
      rw [List.length_map, List.take_length] at e2
      refine ⟨(by show 3 ≤ sizeLine; decide), fun p np => ?_⟩
      have s3 : Same H (upd H2 p (.lst [.ref D, .int 0, .int 7])) := s1.trans (s2.trans (same_upd np))
      have hDp : D ≠ p := ne_of_none e2 np
      refine q _ p D s3 ((s1.trans s2).free np) hD0 ⟨ns, 0, 7, upd_same, by rw [upd_ne hDp]; exact e2, hn, by decide, by decide⟩
/-! ### a draw -/
def spDraw : Sp := fun vs H Q _ => ∃ (p c : Addr) (m : Int), vs = [.ref p, .int m] ∧ Pot H p c ∧ 0 < m ∧ m ≤ 2147483648 ∧ ∀ H' r, Pot H' p c → Kept p c H H' → 0 ≤ r → r < m → Q (.int r) H'
theorem fmod_lt {a m : Int} (h : 0 < m) : 0 ≤ a.fmod m ∧ a.fmod m < m := by
  rw [Int.fmod_eq_emod_of_nonneg _ (Int.le_of_lt h)]
  exact ⟨Int.emod_nonneg _ (by omega), Int.emod_lt_of_pos _ h⟩
def nxt (x cell : Int) : Int := (x * 48271 + cell * 69621 + 11).fmod 2147483647
theorem ok_draw {f : Addr} {fd : FuncData} (F : Fun K "_law_draw" "_law_draw" s_law_draw f fd) (mi : mg "int" = none) (ml : mg "len" = none) : FnOk P w K mg base CX0 1 f fd ["pot", "many"] spDraw := by
  refine F.ok sc_law_draw (fun vs H Q E h => ?_) (fun cdv A outer s H vs Q E hr h => ?_)
  · obtain ⟨p, c, m, rfl, _⟩ := h
    rfl
  · obtain ⟨p, c, m, rfl, hP, hm, hm2, q⟩ := h
    refine ⟨_, pss_cons (ps_set (i := 2) sc_law_draw.nd rfl (Or.inl rfl) (pe_ix ix_list (pv 0) pe_int (fun _ _ => rfl)))
      (pss_cons (ps_set (i := 3) sc_law_draw.nd rfl (Or.inl rfl) (pe_ix ix_list (pv 0) pe_int (fun _ _ => rfl)))
      (pss_cons (ps_set (i := 4) sc_law_draw.nd rfl (Or.inl rfl) pe_int)
      (C8.pss_cut (ps_if (pt_cmpR op_lt (pv 3) (pe_callB call_len_seq (by rfl) ml PySem.boot_len (pa_cons (pv 2) pa_nil)) (nomark _))
        (pss_cons (ps_set (i := 4) sc_law_draw.nd rfl (Or.inl rfl) (pe_ix ix_list (pv 2) (pv 3) (fun _ _ => rfl)))
        (pss_cons (ps_if (pt_cmpR op_ge (pv 4) (pe_op op_pow pe_int pe_int) (nomark _))
          (pss_cons (ps_asg (pe_op op_fdivW (pv 4) (pv 1)) (pg_sub (pv 2) (pv 3) set_list))
          (pss_one (ps_ret (pe_op op_modN (pe_callTy call_int1 (by rfl) mi (by decide +kernel) (pa_cons (pv 4) pa_nil)) (pv 1))))) pss_nil)
        (pss_one (ps_asg (pe_op op_add (pv 3) pe_int) (pg_sub (pv 0) pe_int set_list))))) pss_nil)
      (pss_cons (ps_asg (pe_op op_modN (pe_callTy call_int1 (by rfl) mi (by decide +kernel) (pa_cons (pe_op op_add (pe_op op_add (pe_op op_mul (pe_ix ix_list (pv 0) pe_int (fun _ _ => rfl)) pe_int) (pe_op op_mul (pv 4) pe_int)) pe_int) pa_nil)) pe_int) (pg_sub (pv 0) pe_int set_list))
      (pss_one (ps_ret (pe_op op_modN (pe_callTy call_int1 (by rfl) mi (by decide +kernel) (pa_cons (pe_op op_add (pe_op op_fdivN (pe_op op_mul (pe_ix ix_list (pv 0) pe_int (fun _ _ => rfl)) pe_int) pe_int) (pe_ix ix_list (pv 0) pe_int (fun _ _ => rfl))) pa_nil)) (pv 1)))))))), ?_⟩
    have pc : p ≠ c := hP.ne
    obtain ⟨cs, at_, x, h1, h2, hl, x0, x1⟩ := hP
    refine ⟨_, rfl, p, _, _, _, rfl, rfl, SqL.of h1, rfl, ?_⟩
    refine ⟨_, rfl, p, _, _, _, rfl, rfl, SqL.of h1, rfl, ?_⟩
    refine ⟨fun σ' H' => ∃ (a : Nat) (cell : Int), σ' = [some (.ref p), some (.int m), some (.ref c), some (.int at_), some (.int cell)] ∧ H' p = some (.lst [.ref c, .int a, .int x]) ∧ H' c = some (.lst (cs.map V.int)) ∧ Kept p c H H', ?_, ?_⟩
    · refine ⟨_, rfl, _, rfl, c, _, rfl, .inl (SqL.of h2), _, _, rfl, rfl, _, rfl, ?_⟩
      rw [List.length_map]
      refine ite2 (fun hlt => ?_) (fun _ => ⟨at_, 0, rfl, h1, h2, Kept.rfl'⟩)
      have hi : at_ < cs.length := by have := of_decide_eq_true hlt; omega
      have hg : (cs.map V.int)[at_]? = some (.int cs[at_]) := by rw [List.getElem?_map, List.getElem?_eq_getElem hi]; rfl
      refine ⟨_, rfl, _, rfl, c, _, _, _, rfl, rfl, SqL.of h2, atI_nat hg, ?_⟩
      refine ⟨_, rfl, 10, 18, rfl, rfl, ⟨by decide, by decide, by decide⟩, _, _, rfl, rfl, _, rfl, ?_⟩
      refine ite2 (fun _ => ?_) (fun _ => ?_)
      · refine ⟨_, rfl, _, rfl, _, _, rfl, rfl, wide_div (b := 32) hm (by omega) (by decide) (by decide), _, rfl, _, rfl, c, _, _, at_, rfl, rfl, h2, ixN_nat (by rw [List.length_map]; exact hi), ?_⟩
        refine ⟨_, rfl, .inl ⟨_, rfl, _, rfl, _, _, rfl, rfl, by omega, ?_⟩⟩
        have f := fmod_lt (a := cs[at_]) hm
        refine q _ _ ⟨cs.set at_ (cs[at_] / m), at_, x, by rw [upd_ne pc]; exact h1, ?_, by rw [List.length_set]; exact hl, x0, x1⟩ (fun b o n1 n2 e => ?_) f.1 f.2
        · rw [upd_same, List.map_set]
        · rw [upd_ne n2]
          exact e
      · refine ⟨_, rfl, _, _, rfl, rfl, _, rfl, p, _, _, 1, rfl, rfl, h1, rfl, ?_⟩
        refine ⟨at_ + 1, cs[at_], rfl, ?_, by rw [upd_ne pc.symm]; exact h2, fun b o n1 n2 e => ?_⟩
        · rw [upd_same]
          rfl
        · rw [upd_ne n1]
          exact e
    · rintro σ' H1 ⟨a, cell, rfl, g1, g2, kp⟩
      refine ⟨_, rfl, p, _, _, _, rfl, rfl, SqL.of g1, rfl, _, _, rfl, rfl, .inl ⟨by omega, by omega⟩, _, rfl, _, _, rfl, rfl, .inr ⟨by decide, by decide⟩, _, _, rfl, rfl, _, _, rfl, rfl, .inl ⟨_, rfl, _, _, rfl, rfl, (show (2147483647 : Int) ≠ 0 by decide), _, rfl, p, _, _, 2, rfl, rfl, g1, rfl, ?_⟩⟩
      have fy : 0 ≤ nxt x cell ∧ nxt x cell < 2147483647 := fmod_lt (by decide)
      have g3 : (upd H1 p (.lst ([V.ref c, V.int a, V.int x].set 2 (V.int (nxt x cell))))) p = some (.lst [V.ref c, V.int a, V.int (nxt x cell)]) := upd_same
      refine ⟨_, rfl, p, _, _, _, rfl, rfl, SqL.of g3, rfl, _, _, rfl, rfl, .inl ⟨by omega, by omega⟩, _, _, rfl, rfl, ⟨by decide, by decide⟩, _, rfl, p, _, _, _, rfl, rfl, SqL.of g3, rfl, _, _, rfl, rfl, .inl ⟨_, rfl, _, rfl, _, _, rfl, rfl, by omega, ?_⟩⟩
      have f := fmod_lt (a := (nxt x cell * 16807).fdiv 128 + nxt x cell) hm
      refine q _ _ ⟨cs, a, nxt x cell, g3, by rw [upd_ne pc.symm]; exact g2, hl, fy.1, fy.2⟩ (fun b o n1 n2 e => ?_) f.1 f.2
      rw [upd_ne n1]
      exact kp b o n1 n2 e
end
end Toy
set_option Elab.async false
set_option linter.all false
set_option maxRecDepth 100000
set_option maxHeartbeats 2000000
/-! own errors: a base's __init__ said by the base's name; isinstance of what was caught; makings that may raise, within a try -/
namespace Vx
open PySem PySem.Spec PyProof.Rows L2
/-- the class at D, above an own error, whose __init__ is ValueError's -/
structure UpC (K : PySem.W.Frag) (D : Addr) (mc : Value) : Prop where
  rd : ClX.CRead K D mc
  ini : PySem.W.findCls K (.ref D) mc "__init__" = some (.val (.builtin "ValueError.__init__"))
def tUp (K : PySem.W.Frag) (D : Addr) (ta : TE) (t : TA) : TE := fun σ H Q => ta σ H fun x H1 => x = .ref D ∧ tVeI K t σ H1 Q
section
variable {X : Cx} {D : Addr} {mc : Value} {o e : Expr} {es : List Expr} {pos apos : Pos} {ta : TE} {t : TA} {pl : Sem Bool}
theorem pe_up (hO : PE X o ta) (U : UpC X.K D mc) (hA : PA X (e :: es) t) (h1 : starEach (e :: es) X.env = (false, eval e X.env) :: starEach es X.env := by rfl) (h2 : (backTo pos (starEach es X.env)).any (·.1) = false := by rfl)
    (hW : eval (.Call (.Attribute o "__init__" apos) (e :: es) [] pos) X.env = (do
      let ov ← eval o X.env
      standAt apos.atName
      let (f, first) ← holding [ov] (getMethod ov "__init__" pl)
      callWith pos f first (backTo pos (starEach (e :: es) X.env)) (backToKw pos (keywordEach [] X.env))) := by rfl) : PE X (.Call (.Attribute o "__init__" apos) (e :: es) [] pos) (tUp X.K D ta t) := by
  refine ⟨fun pn s σ H Q I h => PySem.W.methodCall_KW (pl := pl) (thn (hO.run pn s σ H _ I h) fun u s1 hh => ?_) hW⟩
  obtain ⟨x, H1, I1, rx, ex, q⟩ := hh
  subst ex
  obtain rfl : u = Value.ref D := rx
  refine PySem.W.method_cls I1.kIn U.rd.ga (PySem.W.cls_value I1.kIn U.rd.rd U.ini rfl ?_)
  refine PyProof.Rows.callWith_method1 (thn (hA.run pos pn _ σ H1 _ (I1.tok _) q) fun us s2 hh => ?_) h1 h2
  obtain ⟨vs, H2, I2, r2, a, C, ws, ev, hl, T, ea, q2⟩ := hh
  subst ev
  cases r2 with
  | @cons _ u0 _ ur ra rb =>
    obtain rfl : u0 = Value.ref a := ra
    exact oinit_ok T I2 ea (by rw [← Paired.length rb, sizeLine_eq]; omega) fun s3 J => ⟨.non, H2, J, rfl, q2⟩
end
/-! isinstance(e, c), e a caught error with its dict -/
structure ExcX (K : PySem.W.Frag) (C : Addr) : Prop where
  cl : (PySem.W.clsIn K C).isSome = true
  ga : PySem.W.findIn K (.ref C) "__getattribute__" = some (some (.builtin "BaseException.__getattribute__"))
  gt : PySem.W.findIn K (.ref C) "__getattr__" = some none
  sb : PySem.W.subIn K (.ref C) (.type "BaseException") = some true
  ac : PySem.W.findIn K (.ref C) "__class__" = some (some (.builtin "object.__class__"))
  gn : PySem.W.specialIn K (.builtin "object.__class__") "__get__" = some (some (.builtin "getset_descriptor.__get__"))
  tk : PySem.W.takesIn K (.builtin "object.__class__") = some true
  mo : PySem.W.mroIn K C (.type "object") = some true
def rIsX (K : PySem.W.Frag) (C a : Addr) (cls : Value) (d : Option Addr) : List V → Hp → VK → Prop := fun xs H Q => cls = .ref C ∧ ∃ (dd : Addr) (fs : List (Str × V)) (c : V) (cv : Value) (b : Bool), d = some dd ∧ H dd = some (.xd fs) ∧ xs = [.ref a, c] ∧ (∀ u, RelV c u → u = cv) ∧ PySem.W.kitOne K (.ref C) cv = some b ∧ Q (.bl b) H
theorem call_isX {X : Cx} {a C : Addr} {oe : Obj} {cls : Value} {d : Option Addr} {pn : List (Addr × Obj)} (T : ExcX X.K C) (hz : Zc cls d oe) (hf : ∃ vs, oe.data = .fields vs) : CallR (X.suite a ((a, oe) :: pn)) (.builtin "isinstance") (rIsX X.K C a cls d) := by
  intro pins s σ H xs us Q I r h
  obtain ⟨ec, dd, fs, c, cv, b, ed, hd, ex, hcv, e, q⟩ := h
  subst ec ed ex
  cases r with
  | cons rx rr =>
    cases rr with
    | cons rt rn =>
      cases rn
      cases rx
      obtain rfl := hcv _ rt
      obtain ⟨hget, _⟩ := I.pin (a, oe) (List.mem_append.mpr (.inl List.mem_cons_self))
      obtain ⟨vs, hv⟩ := hf
      have hx : ObjOk X.prog X.w H s.heap dd (.xd fs) := I.hok dd _ hd
      obtain ⟨mA, hns, _⟩ := hx
      obtain ⟨od, ho, _⟩ := lookIn_ns hns
      have J : PySem.W.InstAt s.heap a oe C (some od) := ⟨hget, hz.1, by unfold PySem.W.notCls; rw [hv] <;> rfl, by rw [hz.2]; exact ho⟩
      exact PySem.W.kia_one (PySem.W.kitx_exc T.cl T.ga T.gt T.sb T.ac T.gn T.tk T.mo) I.kIn J e (fun z => nomatch z) fun tk => ⟨.bl b, H, I.kept (t' := tk) fun _ _ z => z, rfl, q⟩
/-! makings and static calls that may raise, the wish at the caller's slots -/
section
variable {X : Cx} {CX : CXT} {k n : Nat} {f C : Addr} {fd : FuncData} {ps ks : List Str} {sp : Sp} {E : L2.St → XK} {x : Str} {p pos : Pos} {e : Expr} {es : List Expr} {kws : List Keyword} {t tk : TA} {g : List Value → List Value → List Value} {gV : List V → List V → List V}
def tMakeNS (C : Addr) (n m : Nat) (sp : Sp) (gV : List V → List V → List V) (E : L2.St → XK) (t tk : TA) : TE := fun σ H Q => t σ H fun vs H1 => tk σ H1 fun zs H2 => vs.length = n ∧ zs.length = m ∧
  ∀ y dy, H2 y = none → H2 dy = none → dy ≠ y → sp (gV (.ref y :: vs) zs) (upd (upd H2 dy (.own y)) y (.ins C dy [])) (fun v H3 => v = .non ∧ Q (.ref y) H3) (E σ)
theorem run_makeNS {pn : List (Addr × Obj)} {σ : L2.St} {H : Hp} {s : Shared} {Q : VK} {us ws : List Value} {vs zs : List V} (M : Mk X.K C f) (F : FnOk X.prog X.w X.K X.mg X.base CX k f fd ps sp) (hr : Room (k + 1) X.A) (hb : KBn X.K fd ps (n + 1) ks g gV)
    (hx : PassesAt CX X σ (E σ)) (I : L2.Inv X pn σ H s) (ru : Vals vs us) (rw_ : Vals zs ws) (e1 : vs.length = n) (e2 : zs.length = ks.length)
    (h : ∀ y dy, H y = none → H dy = none → dy ≠ y → sp (gV (.ref y :: vs) zs) (upd (upd H dy (.own y)) y (.ins C dy [])) (fun v H3 => v = .non ∧ Q (.ref y) H3) (E σ)) : wpAny (model X.prog X.w) X.A (call (.ref C) us (ks.zip ws)) (EP X pn σ Q) X.xe s := by
  have J : L2.Inv X pn σ _ _ := L2.Inv.made (C := C) I
  have r1 : Vals (V.ref (s.heap.objs.size + 1) :: vs) (Value.ref (s.heap.objs.size + 1) :: us) := Paired.cons rfl ru
  have z1 : (Value.ref (s.heap.objs.size + 1) :: us).length = n + 1 := r1.length.symm.trans (congrArg (· + 1) e1)
  have z2 : ws.length = ks.length := rw_.length.symm.trans e2
  have hq := h (s.heap.objs.size + 1) s.heap.objs.size (I.hok.fresh (Nat.le_succ _)) (I.hok.fresh Nat.le.refl) (Nat.ne_of_lt (Nat.lt_succ_self _))
  have run := F.run _ X.stack _ _ ⟨Value.ref (s.heap.objs.size + 1) :: us, ks.zip ws⟩ (g (Value.ref (s.heap.objs.size + 1) :: us) ws) _ _ (E σ) (hr.make C us (ks.zip ws)) (J.env0.make C us (ks.zip ws)) (hb.to _ _ ws J.kIn z1 z2) (hb.rel r1 rw_) hq
  refine wpAny_call (make_map (f := f) I.kIn M.makes M.init (beq_iff_eq.mp M.fn) (codeAny_mono run fun r s2 z => ?_))
  match r, z with
  | .error er, z => exact hx pn _ _ er s2 J z
  | .ok (.ret u), z =>
    obtain ⟨v, H3, J3, rv, ev, q⟩ := J.after z
    subst ev
    exact ⟨rv, .ref (s.heap.objs.size + 1), H3, J3, rfl, q⟩
theorem pe_makeNS (M : Mk X.K C f) (F : FnOk X.prog X.w X.K X.mg X.base CX k f fd ps sp) (hr : Room (k + 1) X.A) (hg : Gl X x) (hm : X.mg x = some (.ref C)) (hb : KBn X.K fd ps (n + 1) ks g gV) (hx : ∀ σ, PassesAt CX X σ (E σ)) (hA : PA X (e :: es) t) (hK : PK X kws tk)
    (h1 : (backToKw pos (keywordEach kws X.env)).all (·.1.isSome) = true := by rfl) (h2 : (backToKw pos (keywordEach kws X.env)).filterMap (·.1) = ks := by rfl) (h3 : (x == ("__debug__" : Str)) = false := by decide)
    (h4 : starEach (e :: es) X.env = (false, eval e X.env) :: starEach es X.env := by rfl) (h5 : ((backTo pos (starEach (e :: es) X.env)).any (·.1) || (backToKw pos (keywordEach kws X.env)).any (·.1.isNone)) = false := by rfl) :
    PE X (.Call (.Name x p) (e :: es) kws pos) (tMakeNS C n ks.length sp gV E t tk) := by
  refine ⟨fun pn s σ H Q I h => wpAny_Call_Name_kw (ld_glob I hg hm ?_ h3)⟩
  refine PySem.W.callWith_KW (h₀ := X.base) I.ok.mod.kin M.kp h1 (thn (hA.run pos pn s σ H _ I h) fun us s1 hh => ?_) h5 h4
  obtain ⟨vs, H1, I1, r1, q⟩ := hh
  refine thn (hK.run pos pn s1 σ H1 _ I1 q) fun ws s2 hh => ?_
  obtain ⟨zs, H2, I2, r2, l1, l2, q2⟩ := hh
  refine ⟨I2.kIn, ?_⟩
  rw [h2]
  exact run_makeNS M F hr hb (hx σ) I2 r1 r2 l1 l2 q2
end
section
variable {X : Cx} {CX : CXT} {k : Nat} {f C : Addr} {sp : Sp} {E : L2.St → XK}
theorem run_fnRS {pn : List (Addr × Obj)} {σ : L2.St} {H : Hp} {s : Shared} {Q : VK} {us : List Value} {vs : List V} (F : FnR X.prog X.w X.K X.mg X.base CX k f sp) (hr : Room k X.A) (hx : PassesAt CX X σ (E σ)) (I : L2.Inv X pn σ H s) (r : Vals vs us) (h : sp vs H Q (E σ)) :
    wpAny (model X.prog X.w) X.A (call (.ref f) us) (EP X pn σ Q) X.xe s := by
  refine wpAny_call (codeAny_mono (F X.A X.stack s H us vs Q (E σ) hr I.env0 r h) fun z s2 y => ?_)
  match z, y with
  | .error er, y => exact hx pn H s er s2 I y
  | .ok (.ret u), y => exact I.after y
theorem run_makeRS {pn : List (Addr × Obj)} {σ : L2.St} {H : Hp} {s : Shared} {Q : VK} {us : List Value} {vs : List V} (M : Mk X.K C f) (F : FnR X.prog X.w X.K X.mg X.base CX k f sp) (hr : Room (k + 1) X.A) (hx : PassesAt CX X σ (E σ)) (I : L2.Inv X pn σ H s) (r : Vals vs us)
    (h : ∀ y dy, H y = Option.none → H dy = Option.none → dy ≠ y → sp (V.ref y :: vs) (upd (upd H dy (.own y)) y (.ins C dy [])) (fun v H2 => v = .non ∧ Q (.ref y) H2) (E σ)) : wpAny (model X.prog X.w) X.A (call (.ref C) us) (EP X pn σ Q) X.xe s := by
  have J : L2.Inv X pn σ _ _ := L2.Inv.made (C := C) I
  have r1 : Vals (V.ref (s.heap.objs.size + 1) :: vs) (Value.ref (s.heap.objs.size + 1) :: us) := Paired.cons rfl r
  have hq := h (s.heap.objs.size + 1) s.heap.objs.size (I.hok.fresh (Nat.le_succ _)) (I.hok.fresh Nat.le.refl) (Nat.ne_of_lt (Nat.lt_succ_self _))
  refine wpAny_call (make_map (f := f) I.kIn M.makes M.init (beq_iff_eq.mp M.fn) (codeAny_mono (F _ X.stack _ _ (Value.ref (s.heap.objs.size + 1) :: us) _ _ (E σ) (hr.make C us []) (J.env0.make C us []) r1 hq) fun z s2 y => ?_))
  match z, y with
  | .error er, y => exact hx pn _ _ er s2 J y
  | .ok (.ret u), y =>
    obtain ⟨v, H3, J3, rv, ev, q⟩ := J.after y
    subst ev
    exact ⟨rv, .ref (s.heap.objs.size + 1), H3, J3, rfl, q⟩
def tMethE (C : Addr) (m : Str) (sp : Sp) (E : L2.St → XK) (ta : TE) (t : TA) : TE := fun σ H Q => ta σ H fun x H1 => ∃ a dx fs, x = .ref a ∧ H1 a = some (.ins C dx fs) ∧ fs.lookup m = Option.none ∧ t σ H1 fun vs H2 => sp (.ref a :: vs) H2 Q (E σ)
theorem pe_methE {o e : Expr} {es : List Expr} {m : Str} {pos apos : Pos} {ta : TE} {t : TA} {pl : Sem Bool} (hO : PE X o ta) (c : Cls X.K C) (hm : Meth X.K C m f) (F : FnR X.prog X.w X.K X.mg X.base CX k f sp) (hr : Room k X.A) (hx : ∀ σ, PassesAt CX X σ (E σ)) (hA : PA X (e :: es) t)
    (h1 : starEach (e :: es) X.env = (false, eval e X.env) :: starEach es X.env := by rfl) (h2 : (backTo pos (starEach es X.env)).any (·.1) = false := by rfl)
    (hW : eval (.Call (.Attribute o m apos) (e :: es) [] pos) X.env = (do
      let ov ← eval o X.env
      standAt apos.atName
      let (f, first) ← holding [ov] (getMethod ov m pl)
      callWith pos f first (backTo pos (starEach (e :: es) X.env)) (backToKw pos (keywordEach [] X.env))) := by rfl) : PE X (.Call (.Attribute o m apos) (e :: es) [] pos) (tMethE C m sp E ta t) := by
  refine ⟨fun pn s σ H Q I h => PySem.W.methodCall_KW (pl := pl) (thn (hO.run pn s σ H _ I h) fun u s1 hh => ?_) hW⟩
  obtain ⟨x, H1, I1, rx, a, dx, fs, ex, ea, l, q⟩ := hh
  subst ex
  obtain rfl : u = Value.ref a := rx
  refine getmeth_ok I1 ea c hm l (PySem.W.callWith_K (first := [.ref a]) (h₀ := X.base) I.ok.mod.kin hm.kp (thn (hA.run pos pn s1 σ H1 _ I1 q) fun us s2 hh => ?_) h1 h2)
  obtain ⟨vs, H2, I2, r, q2⟩ := hh
  exact ⟨I2.kIn, run_fnRS (us := .ref a :: us) (vs := .ref a :: vs) F hr (hx σ) I2 (.cons rfl r) q2⟩
def tSMethE (C : Addr) (sp : Sp) (E : L2.St → XK) (ta : TE) (t : TA) : TE := fun σ H Q => ta σ H fun x H1 => x = .ref C ∧ t σ H1 fun vs H2 => sp vs H2 Q (E σ)
theorem pe_smethE {o e : Expr} {es : List Expr} {m : Str} {g q : Addr} {mc : Value} {pos apos : Pos} {ta : TE} {t : TA} {pl : Sem Bool} (hO : PE X o ta) (cr : ClX.CRead X.K C mc) (c : SMet X.K C mc m q g) (F : FnR X.prog X.w X.K X.mg X.base CX k g sp) (hr : Room k X.A) (hx : ∀ σ, PassesAt CX X σ (E σ)) (hA : PA X (e :: es) t)
    (h1 : starEach (e :: es) X.env = (false, eval e X.env) :: starEach es X.env := by rfl) (h2 : (backTo pos (starEach es X.env)).any (·.1) = false := by rfl)
    (hW : eval (.Call (.Attribute o m apos) (e :: es) [] pos) X.env = (do
      let ov ← eval o X.env
      standAt apos.atName
      let (f, first) ← holding [ov] (getMethod ov m pl)
      callWith pos f first (backTo pos (starEach (e :: es) X.env)) (backToKw pos (keywordEach [] X.env))) := by rfl) : PE X (.Call (.Attribute o m apos) (e :: es) [] pos) (tSMethE C sp E ta t) := by
  refine ⟨fun pn s σ H Q I h => PySem.W.methodCall_KW (pl := pl) (thn (hO.run pn s σ H _ I h) fun u s1 hh => ?_) hW⟩
  obtain ⟨x, H1, I1, rx, ex, y⟩ := hh
  subst ex
  obtain rfl : u = Value.ref C := rx
  obtain ⟨rest, hp⟩ := c.rc
  refine PySem.W.method_cls I1.kIn cr.ga (PySem.W.cls_bind I1.kIn cr.rd c.at_ (wpAny_call (PySem.W.sm_get (s := { s1 with toks := s1.toks + 1 }) I1.kIn hp (PySem.W.handed_on rfl ?_))))
  have I2 : L2.Inv X pn σ H1 { s1 with toks := s1.toks + 1 } := I1.tok _
  refine PySem.W.callWith_K (h₀ := X.base) I2.ok.mod.kin c.kp (thn (hA.run pos pn _ σ H1 _ I2 y) fun us s3 hh => ?_) h1 h2
  obtain ⟨vs, H2, I3, rv, q2⟩ := hh
  exact ⟨I3.kIn, run_fnRS F hr (hx σ) I3 rv q2⟩
end
end Vx
set_option Elab.async false
set_option linter.all false
set_option maxRecDepth 100000
set_option maxHeartbeats 4000000
namespace L2
open PySem PySem.Spec PyProof.Rows
theorem FnOk.imp' {P : Program} {w : World} {K : PySem.W.Frag} {mg : Str → Option Value} {base : Heap} {CX : CXT} {k : Nat} {f : Addr} {fd : FuncData} {ps : List Str} {sp sp' : Sp} (F : FnOk P w K mg base CX k f fd ps sp) (h : ∀ vs H Q E, sp' vs H Q E → sp vs H Q E) : FnOk P w K mg base CX k f fd ps sp' :=
  ⟨fun vs H Q E z => F.len vs H Q E (h _ _ _ _ z), fun A outer s H args us vs Q E hr e0 b r z => F.run A outer s H args us vs Q E hr e0 b r (h _ _ _ _ z)⟩
end L2
namespace Toy
open PySem PySem.Spec PyProof.Rows L2
theorem TyX.same {K : PySem.W.Frag} {H H' : Hp} {v : V} {t : Value} (h : TyX K H v t) (s : Same H H') : TyX K H' v t := by
  cases h with
  | base h =>
    cases h with
    | non => exact .base .non
    | bl x => exact .base (.bl x)
    | int x => exact .base (.int x)
    | str x => exact .base (.str x)
    | flt x => exact .base (.flt x)
    | lst e => exact .base (.lst (s _ _ e))
    | frz e => exact .base (.frz (s _ _ e))
    | tup e => exact .base (.tup (s _ _ e))
    | dK e => exact .base (.dK (s _ _ e))
    | dT e => exact .base (.dT (s _ _ e))
    | ins e cl a b c d => exact .base (.ins (s _ _ e) cl a b c d)
  | byt b => exact .byt b
  | set e => exact .set (s _ _ e)
  | kList e c => exact .kList e c
  | kTuple e c => exact .kTuple e c
  | kDict e c => exact .kDict e c
  | fTuple e => exact .fTuple (s _ _ e)
  | fDict e => exact .fDict (s _ _ e)
/-- what a value is as a number: a number, or none (a truth value is none) -/
inductive NV (K : PySem.W.Frag) (H : Hp) : V → Option Int → Prop
  | int (i : Int) : NV K H (.int i) (some i)
  | bl (b : Bool) : NV K H (.bl b) none
  | oth {v : V} {t : Value} (h : TyX K H v t) (k : PySem.W.kitOne K t (.type "int") = some false) (kb : PySem.W.kitOne K t (.type "bool") = some false) (n : ∀ i, v ≠ .int i) : NV K H v none
theorem NV.same {K : PySem.W.Frag} {H H' : Hp} {v : V} {o : Option Int} (h : NV K H v o) (s : Same H H') : NV K H' v o := by
  cases h with
  | int i => exact .int i
  | bl b => exact .bl b
  | oth h k kb n => exact .oth (TyX.same h s) k kb n
theorem NV.non {K : PySem.W.Frag} {H : Hp} : NV K H .non none := .oth (t := .type "NoneType") (.base .non) (kit_ty (by decide +kernel)) (kit_ty (by decide +kernel)) (fun _ z => nomatch z)
theorem NV.str {K : PySem.W.Frag} {H : Hp} (z : Str) : NV K H (.str z) none := .oth (t := .type "str") (.base (.str z)) (kit_ty (by decide +kernel)) (kit_ty (by decide +kernel)) (fun _ z => nomatch z)
theorem NV.lst {K : PySem.W.Frag} {H : Hp} {a : Addr} {xs : List V} (h : H a = some (.lst xs)) : NV K H (.ref a) none := .oth (t := .type "list") (.base (.lst h)) (kit_ty (by decide +kernel)) (kit_ty (by decide +kernel)) (fun _ z => nomatch z)
theorem NV.tup {K : PySem.W.Frag} {H : Hp} {a : Addr} {xs : List V} (h : H a = some (.tup xs)) : NV K H (.ref a) none := .oth (t := .type "tuple") (.base (.tup h)) (kit_ty (by decide +kernel)) (kit_ty (by decide +kernel)) (fun _ z => nomatch z)
def btw (o : Option Int) (l h : Int) : Bool := match o with
  | some i => decide (l ≤ i ∧ i ≤ h)
  | none => false
structure NmI (mg : Str → Option Value) : Prop where
  isi : mg "isinstance" = none
  int : mg "int" = none
  bool : mg "bool" = none
section
variable {P : Program} {w : World} {K : PySem.W.Frag} {mg : Str → Option Value} {base : Heap}
def spWholeG (K : PySem.W.Frag) : Sp := fun vs H Q _ => ∃ (v : V) (o : Option Int), vs = [v] ∧ NV K H v o ∧ Q (.bl o.isSome) H
theorem ok_wholeG {f : Addr} {fd : FuncData} (F : Fun K "is_whole" "is_whole" s_is_whole f fd) (T : NmI mg) : FnOk P w K mg base CX0 1 f fd ["value"] (spWholeG K) := by
  refine F.ok sc_is_whole (fun vs H Q E h => ?_) (fun cdv A outer s H vs Q E hr h => ?_)
  · obtain ⟨v, o, rfl, _⟩ := h
    rfl
  · obtain ⟨v, o, rfl, hv, q⟩ := h
    refine ⟨_, pss_one (ps_ret (pe_and (pe_callB call_isi (by rfl) T.isi (by decide +kernel) (pa_cons (pv 0) (pa_cons (pe_bltn (v := .ty "int") (by rfl) T.int (by decide +kernel) rfl) pa_nil)))
      (pe_one (pe_not (pe_callB call_isi (by rfl) T.isi (by decide +kernel) (pa_cons (pv 0) (pa_cons (pe_bltn (v := .ty "bool") (by rfl) T.bool (by decide +kernel) rfl) pa_nil))))))), ?_⟩
    cases hv with
    | int i => exact ⟨_, rfl, .int i, .ty "int", _, _, true, rfl, .ty _, .base (.int i), kit_ty (by decide +kernel), true, rfl, iteT ⟨_, rfl, .int i, .ty "bool", _, _, false, rfl, .ty _, .base (.int i), kit_ty (by decide +kernel), false, rfl, q⟩⟩
    | bl b => exact ⟨_, rfl, .bl b, .ty "int", _, _, true, rfl, .ty _, .base (.bl b), kit_ty (by decide +kernel), true, rfl, iteT ⟨_, rfl, .bl b, .ty "bool", _, _, true, rfl, .ty _, .base (.bl b), kit_ty (by decide +kernel), true, rfl, q⟩⟩
    | oth ht k kb n => exact ⟨_, rfl, v, .ty "int", _, _, false, rfl, .ty _, ht, k, false, rfl, iteF q⟩
def spBetwG (K : PySem.W.Frag) : Sp := fun vs H Q _ => ∃ (v : V) (o : Option Int) (l h : Int), vs = [v, .int l, .int h] ∧ NV K H v o ∧ Q (.bl (btw o l h)) H
theorem NV.some_eq {H : Hp} {v : V} {i : Int} (h : NV K H v (some i)) : v = .int i := by
  cases h
  rfl
theorem ok_betwG {f fW : Addr} {fd fdW : FuncData} (F : Fun K "is_between" "is_between" s_is_between f fd) (GW : FnOk P w K mg base CX0 1 fW fdW ["value"] (spWholeG K)) (kW : PySem.W.keepIn K (.ref fW) = true) (bW : L2.Binds K fdW ["value"] []) (gW : mg "is_whole" = some (.ref fW)) :
    FnOk P w K mg base CX0 2 f fd ["value", "low", "high"] (spBetwG K) := by
  refine F.ok sc_is_between (fun vs H Q E h => ?_) (fun cdv A outer s H vs Q E hr h => ?_)
  · obtain ⟨v, o, l, h, rfl, _⟩ := h
    rfl
  · obtain ⟨v, o, l, u, rfl, hv, q⟩ := h
    refine ⟨_, pss_one (ps_ret (pe_and (pe_call GW hr (by rfl) gW kW bW .nil pass0 (pa_cons (pv 0) pa_nil)) (pe_one (pe_chain op_le op_le (pv 1) (pv 0) (pv 2))))), ?_⟩
    refine ⟨_, rfl, v, o, rfl, hv, o.isSome, rfl, ?_⟩
    cases o with
    | none => exact iteF q
    | some i =>
      obtain rfl := hv.some_eq
      refine iteT ⟨_, rfl, _, rfl, l, i, rfl, rfl, decide (l ≤ i), rfl, ?_⟩
      by_cases h1 : l ≤ i
      · rw [decide_eq_true h1]
        refine iteT ⟨_, rfl, i, u, rfl, rfl, ?_⟩
        have e : btw (some i) l u = decide (i ≤ u) := by by_cases h2 : i ≤ u <;> simp [btw, h1, h2]
        rw [e] at q
        exact q
      · rw [decide_eq_false h1]
        have e : btw (some i) l u = false := by simp [btw, h1]
        rw [e] at q
        exact iteF q
def spIsWG (K : PySem.W.Frag) : Sp := fun vs H Q _ => ∃ (v : V) (o : Option Int), vs = [v] ∧ NV K H v o ∧ Q (.bl (btw o 0 30)) H
theorem ok_isWG {f fB : Addr} {fd fdB : FuncData} (F : Fun K "is_writer_number" "is_writer_number" s_is_writer_number f fd) (GB : FnOk P w K mg base CX0 2 fB fdB ["value", "low", "high"] (spBetwG K)) (kB : PySem.W.keepIn K (.ref fB) = true)
    (bB : L2.Binds K fdB ["value", "low", "high"] []) (gB : mg "is_between" = some (.ref fB)) (lw : ∃ t, mg "LAST_WRITER" = some (.int 30 t)) : FnOk P w K mg base CX0 3 f fd ["value"] (spIsWG K) := by
  obtain ⟨tk, lw⟩ := lw
  refine F.ok sc_is_writer_number (fun vs H Q E h => ?_) (fun cdv A outer s H vs Q E hr h => ?_)
  · obtain ⟨v, o, rfl, _⟩ := h
    rfl
  · obtain ⟨v, o, rfl, hv, q⟩ := h
    refine ⟨_, pss_one (ps_ret (pe_call GB hr (by rfl) gB kB bB .nil pass0 (pa_cons (pv 0) (pa_cons pe_int (pa_cons (pe_glob (v := .int 30) (by rfl) lw ⟨_, rfl⟩) pa_nil))))), ?_⟩
    exact ⟨_, rfl, v, o, 0, 30, rfl, hv, q⟩
theorem whole_int {f : Addr} {fd : FuncData} (F : FnOk P w K mg base CX0 1 f fd ["value"] (spWholeG K)) : FnOk P w K mg base CX0 1 f fd ["value"] spWhole := F.imp' fun vs H Q E h => by
  obtain ⟨i, rfl, q⟩ := h
  exact ⟨_, _, rfl, .int i, q⟩
theorem betw_int {f : Addr} {fd : FuncData} (F : FnOk P w K mg base CX0 2 f fd ["value", "low", "high"] (spBetwG K)) : FnOk P w K mg base CX0 2 f fd ["value", "low", "high"] spBetw := F.imp' fun vs H Q E h => by
  obtain ⟨i, l, u, rfl, q⟩ := h
  exact ⟨_, _, l, u, rfl, .int i, q⟩
theorem isW_int {f : Addr} {fd : FuncData} (F : FnOk P w K mg base CX0 3 f fd ["value"] (spIsWG K)) : FnOk P w K mg base CX0 3 f fd ["value"] spIsW := F.imp' fun vs H Q E h => by
  obtain ⟨i, rfl, q⟩ := h
  exact ⟨_, _, rfl, .int i, q⟩
end
end Toy
set_option Elab.async false
set_option linter.all false
set_option maxRecDepth 100000
set_option maxHeartbeats 4000000
namespace Vx
open PySem PySem.Spec PyProof.Rows L2
/-- o cmp y by the own method; y of any class that does not come first -/
def rCmpA (K : PySem.W.Frag) (C : Addr) (sp : Sp) (E : XK) : R2 := fun x y H Q => (∃ a dx fs, x = .ref a ∧ H a = some (.ins C dx fs)) ∧ (∃ t, TyX K H y t ∧ PySem.W.notFirst K C t = true) ∧ sp [x, y] H Q E
theorem op_cmpAny {X : Cx} {CX : CXT} {k : Nat} {C f : Addr} {sp : Sp} {E : XK} {op : CmpOp} (hc : ∀ v u, compareOp op v u = richCompare op v u) (at_ : PySem.W.findIn X.K (.ref C) (cmpInfo op).2.1 = some (some (.ref f))) (fn : PySem.W.isFn X.K (.ref f) = true)
    (F : FnR X.prog X.w X.K X.mg X.base CX k f sp) (hr : Room k X.A) (hx : Passes CX X E) : OpR X (compareOp op) (rCmpA X.K C sp E) := by
  intro pins s σ H x y v u Q I rx ry hq
  obtain ⟨⟨a, dx, fs, rfl, ha⟩, ⟨t, ty, nf⟩, hsp⟩ := hq
  have ev : v = Value.ref a := rx
  have cl := call_cmp F hr hx I (us := [v, u]) (vs := [V.ref a, y]) (.cons rx (.cons ry .nil)) hsp
  subst ev
  obtain ⟨mA, J, _⟩ := ins_get I.hok ha
  obtain ⟨od, J, _⟩ := J.look
  obtain ⟨m, hF⟩ := I.fr
  obtain ⟨PP, KX, hP, _⟩ := L2.kit_of I ry ty
  rw [hc]
  exact PySem.W.cmp_K hr.units0 hF I.ok.mod.kin J (KX.ty _ _ I.kIn hP) nf at_ fn cl
end Vx
namespace Toy
open PySem PySem.Spec PyProof.Rows L2
/-! ### own errors -/
/-- what the text says of an own error class: its attribute f, its __init__ at fI -/
structure Err (P : Program) (w : World) (K : PySem.W.Frag) (mg : Str → Option Value) (base : Heap) (x f : Str) (C fI : Addr) (fd : FuncData) (sp : Sp) : Prop where
  T : OexC K C
  no : PySem.W.findIn K (.ref C) f = some none
  gC : mg x = some (.ref C)
  iC : PySem.W.findIn K (.ref C) "__init__" = some (some (.ref fI))
  tI : PySem.W.typeIn K (.ref fI) = some (.type "function")
  F : FnOk P w K mg base CX0 1 fI fd ["self", f] sp
  b : L2.Binds K fd ["self", f] []
def spErr (K : PySem.W.Frag) (f : Str) : Sp := fun vs H Q _ => ∃ (a C : Addr) (v : V), vs = [.ref a, v] ∧ OexC K C ∧ PySem.W.findIn K (.ref C) f = some none ∧ H a = some (exo a C none) ∧ ∀ d, H d = none → d ≠ a → Q .non (upd (upd H d (exd d [(f, v)])) a (exo a C (some d)))
theorem err_end {K : PySem.W.Frag} {f : Str} {C a : Addr} {v : V} {H : Hp} {E : XK} (T : OexC K C) (no : PySem.W.findIn K (.ref C) f = some none) (na : H a = none)
    (q : ∀ H' d, Same H H' → H d = none → H' d = some (.xd [(f, v)]) → E (.ref C) (some d) H') :
    spErr K f (.ref a :: ([v] ++ [])) (upd H a (exo a C none)) (fun u H2 => u = .non ∧ ∃ (d : Addr) (fs : List (Str × V)), H2 a = some (exo a C (some d)) ∧ H2 d = some (exd d fs) ∧ H d = none ∧ E (.ref C) (some d) (upd (del H2 a) d (.xd fs))) (fun _ _ _ => False) := by
  refine ⟨a, C, v, rfl, T, no, upd_same, fun d hd ne => ⟨rfl, d, _, upd_same, by rw [upd_ne ne]; exact upd_same, ?_, ?_⟩⟩
  · rw [upd_ne ne] at hd
    exact hd
  · rw [upd_ne ne] at hd
    refine q _ d (fun b o e => ?_) hd upd_same
    have nba : b ≠ a := ne_of_none e na
    have nbd : b ≠ d := ne_of_none e hd
    rw [upd_ne nbd, del_ne nba, upd_ne nba, upd_ne nbd, upd_ne nba]
    exact e
section
variable {P : Program} {w : World} {K : PySem.W.Frag} {mg : Str → Option Value} {base : Heap}
theorem ok_BadRow_init {f D : Addr} {mc : Value} {fd : FuncData} (F : Fun K "__init__" "BadRow.__init__" s_BadRow_init f fd) (gD : mg "PagesError" = some (.ref D)) (U : Vx.UpC K D mc) : FnOk P w K mg base CX0 1 f fd ["self", "field"] (spErr K "field") := by
  refine F.ok sc_BadRow_init (fun vs H Q E h => ?_) (fun cdv A outer s H vs Q E hr h => ?_)
  · obtain ⟨a, C, v, rfl, _⟩ := h
    rfl
  · obtain ⟨a, C, v, rfl, T, no, ha, q⟩ := h
    refine ⟨_, pss_cons (ps_expr (Vx.pe_up (pe_glob (v := .ref D) (by rfl) gD rfl) U (pa_cons (pv 0) (pa_cons pe_str pa_nil)))) (pss_one (ps_ost (pv 0) (pv 1))), ?_⟩
    exact ⟨rfl, _, rfl, a, C, _, rfl, (by decide), T, ha, _, rfl, _, rfl, a, C, rfl, T, no, .inl ⟨ha, fun d nd ne => q d nd ne⟩⟩
/-! ### rows -/
def okf (v : V) (o : Option Int) : Bool := decide (v = .non) || btw o 0 30
def spField (K : PySem.W.Frag) : Sp := fun vs H Q _ => ∃ (v : V) (o : Option Int), vs = [v] ∧ NV K H v o ∧ Q (.bl (okf v o)) H
theorem ok_field {f fI : Addr} {fd fdI : FuncData} (F : Fun K "_is_field" "_is_field" s_is_field f fd) (GI : FnOk P w K mg base CX0 3 fI fdI ["value"] (spIsWG K)) (kI : PySem.W.keepIn K (.ref fI) = true) (bI : L2.Binds K fdI ["value"] []) (gI : mg "is_writer_number" = some (.ref fI)) :
    FnOk P w K mg base CX0 4 f fd ["value"] (spField K) := by
  refine F.ok sc_is_field (fun vs H Q E h => ?_) (fun cdv A outer s H vs Q E hr h => ?_)
  · obtain ⟨v, o, rfl, _⟩ := h
    rfl
  · obtain ⟨v, o, rfl, hv, q⟩ := h
    refine ⟨_, pss_one (ps_ret (pe_or (pe_cmpR op_isN (pv 0) pe_non (nomark _)) (pe_one (pe_call GI hr (by rfl) gI kI bI .nil pass0 (pa_cons (pv 0) pa_nil))))), ?_⟩
    refine ⟨_, rfl, rfl, decide (v = .non), rfl, ?_⟩
    unfold okf at q
    cases h : decide (v = V.non) with
    | true =>
      rw [h] at q
      exact iteT q
    | false =>
      rw [h] at q
      exact iteF ⟨_, rfl, v, o, rfl, hv, q⟩
def ro (b e : V) : List (Str × V) := [("_beginner", b), ("_ender", e)]
/-- Row.__init__: the row's fields, or BadRow (its class at B) with the first wrong one -/
def spRowI (K : PySem.W.Frag) (R B : Addr) : Sp := fun vs H Q E => ∃ (H0 : Hp) (p dx : Addr) (v1 v2 : V) (o1 o2 : Option Int), vs = [.ref p, v1, v2] ∧ Same H0 H ∧ H0 p = none ∧ H p = some (.ins R dx []) ∧ NV K H v1 o1 ∧ NV K H v2 o2 ∧
  ((okf v1 o1 && okf v2 o2) = true → ∀ H', Same H0 H' → H' p = some (.ins R dx (ro v1 v2)) → Q .non H') ∧
  ((okf v1 o1 && okf v2 o2) = false → ∀ H' d, Same H0 H' → H0 d = none → H' d = some (.xd [("field", .str (if okf v1 o1 = true then "ender" else "beginner"))]) → E (.ref B) (some d) H')
structure RowT (P : Program) (w : World) (K : PySem.W.Frag) (mg : Str → Option Value) (base : Heap) (R B fF fI : Addr) (fdF fdI : FuncData) : Prop where
  cl : Cls K R
  nB : NoAttr K R "_beginner"
  nE : NoAttr K R "_ender"
  GF : FnOk P w K mg base CX0 4 fF fdF ["value"] (spField K)
  kF : PySem.W.keepIn K (.ref fF) = true
  bF : L2.Binds K fdF ["value"] []
  gF : mg "_is_field" = some (.ref fF)
  er : Err P w K mg base "BadRow" "field" B fI fdI (spErr K "field")
theorem ok_Row_init {f R B fF fI : Addr} {fd fdF fdI : FuncData} {dvs : List V} {kws : List (Str × V)} (F : FunD K "__init__" "Row.__init__" (defArgs s_Row_init) (defBody s_Row_init) (defScope s_Row_init) dvs kws f fd) (T : RowT P w K mg base R B fF fI fdF fdI) :
    FnOk P w K mg base (L2.CX P w) 5 f fd ["self", "beginner", "ender"] (spRowI K R B) := by
  refine F.ok sc_Row_init (fun vs H Q E h => ?_) (fun cdv A outer s H vs Q E hr h => ?_)
  · obtain ⟨H0, p, dx, v1, v2, o1, o2, rfl, _⟩ := h
    rfl
  · obtain ⟨H0, p, dx, v1, v2, o1, o2, rfl, s0, p0, hp, h1, h2, qg, qb⟩ := h
    have hr2 : Room 2 _ := hr.mono (by decide)
    refine ⟨_, pss_cons (ps_if (pt_not (pt_val (pe_call T.GF hr (by rfl) T.gF T.kF T.bF .nil pass0 (pa_cons (pv 1) pa_nil)))) (pss_one (ps_raise rfl (takes_of rfl rfl rfl rfl) (pmk_oex T.er.T T.er.iC T.er.tI T.er.F hr2 T.er.b .nil pass0 (by rfl) T.er.gC (pa_cons pe_str pa_nil)))) pss_nil)
      (pss_cons (ps_if (pt_not (pt_val (pe_call T.GF hr (by rfl) T.gF T.kF T.bF .nil pass0 (pa_cons (pv 2) pa_nil)))) (pss_one (ps_raise rfl (takes_of rfl rfl rfl rfl) (pmk_oex T.er.T T.er.iC T.er.tI T.er.F hr2 T.er.b .nil pass0 (by rfl) T.er.gC (pa_cons pe_str pa_nil)))) pss_nil)
      (pss_cons (ps_fld (pv 0) (pv 1) rfl) (pss_one (ps_fld (pv 0) (pv 2) rfl)))), ?_⟩
    refine ⟨_, rfl, v1, o1, rfl, h1, okf v1 o1, rfl, ?_⟩
    cases e1 : okf v1 o1 with
    | false =>
      rw [e1] at qb
      refine iteT ⟨by decide, fun a na => err_end T.er.T T.er.no na fun H' d sm nd hd => qb rfl H' d (s0.trans sm) (s0.free nd) hd⟩
    | true =>
      refine iteF ⟨_, rfl, v2, o2, rfl, h2, okf v2 o2, rfl, ?_⟩
      rw [e1] at qb qg
      cases e2 : okf v2 o2 with
      | false =>
        rw [e2] at qb
        refine iteT ⟨by decide, fun a na => err_end T.er.T T.er.no na fun H' d sm nd hd => qb rfl H' d (s0.trans sm) (s0.free nd) hd⟩
      | true =>
        rw [e2] at qg
        refine iteF ⟨_, rfl, _, rfl, p, R, dx, _, rfl, hp, T.cl, T.nB, (by show (0 : Nat) < 1000; decide), ?_⟩
        refine ⟨_, rfl, _, rfl, p, R, dx, _, rfl, upd_same, T.cl, T.nE, (by show (1 : Nat) < 1000; decide), ?_⟩
        refine qg rfl _ (fun b o e => ?_) upd_same
        rw [upd_ne (ne_of_none e p0), upd_ne (ne_of_none e p0)]
        exact s0 _ _ e
end
end Toy
set_option Elab.async false
set_option linter.all false
set_option maxRecDepth 100000
set_option maxHeartbeats 4000000
namespace Toy
open PySem PySem.Spec PyProof.Rows L2
def fv : Option Nat → V
  | none => .non
  | some k => vi k
def fok (o : Option Nat) : Prop := ∀ k, o = some k → k ≤ 30
theorem scal_fv (a b : Option Nat) : scal (fv a) (fv b) = true := by cases a <;> cases b <;> rfl
theorem fv_inj {a b : Option Nat} : fv a = fv b ↔ a = b := by
  constructor
  · intro h
    cases a with
    | none => cases b with
      | none => rfl
      | some k => cases h
    | some j => cases b with
      | none => cases h
      | some k =>
        have z : V.int (j : Int) = V.int (k : Int) := h
        injection z with z
        have : j = k := by omega
        rw [this]
  · intro h
    rw [h]
def nv : Option Nat → Option Int
  | none => none
  | some k => some (k : Int)
theorem NV.fv {K : PySem.W.Frag} {H : Hp} (o : Option Nat) : NV K H (Toy.fv o) (nv o) := by
  cases o with
  | none => exact NV.non
  | some k => exact NV.int _
theorem okf_fv {o : Option Nat} (h : fok o) : okf (Toy.fv o) (nv o) = true := by
  cases o with
  | none => rfl
  | some k =>
    have hk := h k rfl
    show (decide (vi k = V.non) || decide ((0 : Int) ≤ (k : Int) ∧ (k : Int) ≤ 30)) = true
    rw [decide_eq_true (show (0 : Int) ≤ (k : Int) ∧ (k : Int) ≤ 30 by omega), Bool.or_true]
def RowAt (R : Addr) (H : Hp) (p : Addr) (b e : V) : Prop := ∃ dx, H p = some (.ins R dx (ro b e))
theorem RowAt.same {R : Addr} {H H' : Hp} {p : Addr} {b e : V} (h : RowAt R H p b e) (s : Same H H') : RowAt R H' p b e := h.imp fun _ z => s _ _ z
def inm (n : Nat) : Option Int → Bool
  | some i => decide (0 ≤ i ∧ i ≤ 30) && n.testBit i.toNat
  | none => false
section
variable {P : Program} {w : World} {K : PySem.W.Frag} {mg : Str → Option Value} {base : Heap} {C R B : Addr}
/-! ### value in moment -/
def spCont (K : PySem.W.Frag) (C : Addr) : Sp := fun vs H Q _ => ∃ (p : Addr) (n : Nat) (v : V) (o : Option Int), vs = [.ref p, v] ∧ MoAt C H p n ∧ NV K H v o ∧ Q (.bl (inm n o)) H
theorem ok_contains {f fI : Addr} {fd fdI : FuncData} (F : Fun K "__contains__" "Moment.__contains__" s_Moment_contains f fd) (cl : Cls K C) (nN : NoAttr K C "_number") (GI : FnOk P w K mg base CX0 3 fI fdI ["value"] (spIsWG K)) (kI : PySem.W.keepIn K (.ref fI) = true)
    (bI : L2.Binds K fdI ["value"] []) (gI : mg "is_writer_number" = some (.ref fI)) : FnOk P w K mg base CX0 4 f fd ["self", "value"] (spCont K C) := by
  refine F.ok sc_Moment_contains (fun vs H Q E h => ?_) (fun cdv A outer s H vs Q E hr h => ?_)
  · obtain ⟨p, n, v, o, rfl, _⟩ := h
    rfl
  · obtain ⟨p, n, v, o, rfl, ⟨hn, dx, hp⟩, hv, q⟩ := h
    refine ⟨_, pss_one (ps_ret (pe_and (pe_call GI hr (by rfl) gI kI bI .nil pass0 (pa_cons (pv 1) pa_nil)) (pe_one (pe_cmpR op_eq (pe_op op_and (pe_op op_shr (pe_fld (pv 0) rfl) (pv 1)) pe_int) pe_int (nomark _))))), ?_⟩
    refine ⟨_, rfl, v, o, rfl, hv, btw o 0 30, rfl, ?_⟩
    cases o with
    | none => exact iteF q
    | some i =>
      obtain rfl := hv.some_eq
      show if decide ((0 : Int) ≤ i ∧ i ≤ 30) = true then _ else _
      by_cases h : (0 : Int) ≤ i ∧ i ≤ 30
      · rw [decide_eq_true h]
        refine iteT ⟨_, rfl, p, C, dx, _, _, rfl, hp, cl, nN, rfl, _, rfl, _, _, rfl, rfl, h.1, _, _, rfl, rfl, rfl, ?_⟩
        obtain ⟨k, rfl⟩ := Int.eq_ofNat_of_zero_le h.1
        have e : decide (V.int (Builtin.bitAnd ((n : Int) / 2 ^ ((k : Int)).toNat) 1) = V.int 1) = inm n (some (k : Int)) := by
          show _ = (decide ((0 : Int) ≤ (k : Int) ∧ (k : Int) ≤ 30) && n.testBit ((k : Int)).toNat)
          rw [decide_eq_true h, Bool.true_and, Int.toNat_natCast, ← bit_test]
          have e1 : Builtin.bitAnd ((n : Int) / 2 ^ k) 1 = 0 ∨ Builtin.bitAnd ((n : Int) / 2 ^ k) 1 = 1 := by
            have e2 : ((n : Int) / 2 ^ k) = ((n / 2 ^ k : Nat) : Int) := by
              rw [Int.natCast_ediv, Int.natCast_pow]
              rfl
            rw [e2, show (1 : Int) = ((1 : Nat) : Int) from rfl, and_pp, Nat.and_one_is_mod]
            omega
          rcases e1 with z | z <;> rw [z] <;> decide
        show Q (V.bl (decide (V.int (Builtin.bitAnd ((n : Int) / 2 ^ ((k : Int)).toNat) 1) = V.int 1))) H
        rw [e]
        exact q
      · rw [decide_eq_false h]
        have e : inm n (some i) = false := by simp only [inm, decide_eq_false h, Bool.false_and]
        rw [e] at q
        exact iteF q
/-! ### seen -/
def sees (b e : Option Nat) (n : Nat) : Bool := (match b with | none => true | some k => n.testBit k) && !(match e with | none => false | some k => n.testBit k)
theorem inm_nv {k n : Nat} (h : k ≤ 30) : inm n (some (k : Int)) = n.testBit k := by
  show (decide ((0 : Int) ≤ (k : Int) ∧ (k : Int) ≤ 30) && n.testBit ((k : Int)).toNat) = _
  rw [decide_eq_true (show (0 : Int) ≤ (k : Int) ∧ (k : Int) ≤ 30 by omega), Bool.true_and, Int.toNat_natCast]
structure ContF (P : Program) (w : World) (K : PySem.W.Frag) (mg : Str → Option Value) (base : Heap) (C fC : Addr) : Prop where
  at_ : PySem.W.findIn K (.ref C) "__contains__" = some (some (.ref fC))
  fn : PySem.W.isFn K (.ref fC) = true
  F : FnR P w K mg base CX0 4 fC (spCont K C)
def spSeen (R C : Addr) : Sp := fun vs H Q _ => ∃ (p m : Addr) (n : Nat) (b e : Option Nat), vs = [.ref p, .ref m] ∧ RowAt R H p (fv b) (fv e) ∧ fok b ∧ fok e ∧ MoAt C H m n ∧ Q (.bl (sees b e n)) H
theorem ok_seen {f fC : Addr} {fd : FuncData} (F : Fun K "seen" "Row.seen" s_Row_seen f fd) (cl : Cls K R) (nB : NoAttr K R "_beginner") (nE : NoAttr K R "_ender") (Z : ContF P w K mg base C fC) : FnOk P w K mg base CX0 5 f fd ["self", "moment"] (spSeen R C) := by
  refine F.ok sc_Row_seen (fun vs H Q E h => ?_) (fun cdv A outer s H vs Q E hr h => ?_)
  · obtain ⟨p, m, n, b, e, rfl, _⟩ := h
    rfl
  · obtain ⟨p, m, n, b, e, rfl, ⟨dx, hp⟩, hb, he, hm, q⟩ := h
    have ins : ∃ a dy gs, V.ref m = .ref a ∧ H a = some (.ins C dy gs) := by
      obtain ⟨_, dy, z⟩ := hm
      exact ⟨_, dy, _, rfl, z⟩
    refine ⟨_, pss_cons (ps_set (i := 2) sc_Row_seen.nd rfl (Or.inl rfl) (pe_or (pe_cmpR op_isN (pe_fld (pv 0) rfl) pe_non (nomark _)) (pe_one (pe_cmpR (Vx.op_inOwn Z.at_ Z.fn Z.F hr pass0) (pe_fld (pv 0) rfl) (pv 1) (by rfl)))))
      (pss_cons (ps_set (i := 3) sc_Row_seen.nd rfl (Or.inl rfl) (pe_and (pe_cmpR op_notN (pe_fld (pv 0) rfl) pe_non (nomark _)) (pe_one (pe_cmpR (Vx.op_inOwn Z.at_ Z.fn Z.F hr pass0) (pe_fld (pv 0) rfl) (pv 1) (by rfl)))))
      (pss_one (ps_ret (pe_and (pv 2) (pe_one (pe_not (pv 3))))))), ?_⟩
    have sb : ∀ k, sees (some k) e n = (n.testBit k && sees none e n) := fun k => by simp [sees]
    refine ⟨_, rfl, p, R, dx, _, fv b, rfl, hp, cl, nB, rfl, rfl, _, rfl, ?_⟩
    cases b with
    | none =>
      refine iteT ⟨_, rfl, p, R, dx, _, fv e, rfl, hp, cl, nE, rfl, rfl, _, rfl, ?_⟩
      cases e with
      | none => exact iteF ⟨_, rfl, true, rfl, iteT ⟨_, rfl, false, rfl, q⟩⟩
      | some j =>
        refine iteT ⟨_, rfl, p, R, dx, _, _, rfl, hp, cl, nE, rfl, _, rfl, ins, m, n, vi j, some j, rfl, hm, NV.int _, inm n (some j), rfl, ?_⟩
        refine ⟨_, rfl, true, rfl, iteT ⟨_, rfl, inm n (some j), rfl, ?_⟩⟩
        rw [inm_nv (he j rfl)]
        exact q
    | some k =>
      refine iteF ⟨_, rfl, p, R, dx, _, _, rfl, hp, cl, nB, rfl, _, rfl, ins, m, n, vi k, some k, rfl, hm, NV.int _, inm n (some k), rfl, ?_⟩
      refine ⟨_, rfl, p, R, dx, _, fv e, rfl, hp, cl, nE, rfl, rfl, _, rfl, ?_⟩
      rw [sb, ← inm_nv (hb k rfl)] at q
      cases e with
      | none =>
        refine iteF ⟨_, rfl, inm n (some k), rfl, ?_⟩
        cases hx : inm n (some k) with
        | false => rw [hx] at q; exact iteF q
        | true => rw [hx] at q; exact iteT ⟨_, rfl, false, rfl, q⟩
      | some j =>
        refine iteT ⟨_, rfl, p, R, dx, _, _, rfl, hp, cl, nE, rfl, _, rfl, ins, m, n, vi j, some j, rfl, hm, NV.int _, inm n (some j), rfl, ?_⟩
        refine ⟨_, rfl, inm n (some k), rfl, ?_⟩
        cases hx : inm n (some k) with
        | false => rw [hx] at q; exact iteF q
        | true =>
          rw [hx] at q
          refine iteT ⟨_, rfl, inm n (some j), rfl, ?_⟩
          rw [inm_nv (he j rfl)]
          exact q
/-! ### ended -/
structure RowM (P : Program) (w : World) (K : PySem.W.Frag) (mg : Str → Option Value) (base : Heap) (R B fR : Addr) (fdR : FuncData) : Prop where
  mkR : Mk K R fR
  gR : mg "Row" = some (.ref R)
  F : FnOk P w K mg base (L2.CX P w) 5 fR fdR ["self", "beginner", "ender"] (spRowI K R B)
  b2 : L2.Binds K fdR ["self", "beginner", "ender"] []
  b1 : ∃ u, RelV .non u ∧ L2.Binds K fdR ["self", "beginner", "ender"] [u]
  b0 : ∃ u1 u2, RelV .non u1 ∧ RelV .non u2 ∧ L2.Binds K fdR ["self", "beginner", "ender"] [u1, u2]
/-- what a making of a row asks, where the fields are good -/
theorem row_good {H : Hp} {b e : V} {ob oe : Option Int} {Q : VK} {E : XK} (h1 : NV K H b ob) (h2 : NV K H e oe) (o1 : okf b ob = true) (o2 : okf e oe = true) (q : ∀ H' r, Same H H' → H r = none → RowAt R H' r b e → Q (.ref r) H') :
    ∀ x dx, H x = none → H dx = none → dx ≠ x → spRowI K R B [.ref x, b, e] (upd (upd H dx (.own x)) x (.ins R dx [])) (fun v H3 => v = .non ∧ Q (.ref x) H3) E := fun x dx nx nd ne => by
  have s : Same H (upd (upd H dx (.own x)) x (.ins R dx [])) := fun c o y => by
    rw [upd_ne (ne_of_none y nx), upd_ne (ne_of_none y nd)]
    exact y
  refine ⟨H, x, dx, b, e, ob, oe, rfl, s, nx, upd_same, h1.same s, h2.same s, fun _ H' s' e' => ⟨rfl, q H' x s' nx ⟨dx, e'⟩⟩, fun z => ?_⟩
  rw [o1, o2] at z
  cases z
def spEnded (K : PySem.W.Frag) (R B : Addr) : Sp := fun vs H Q E => ∃ (p : Addr) (b e v : V) (ob o : Option Int), vs = [.ref p, v] ∧ RowAt R H p b e ∧ NV K H b ob ∧ okf b ob = true ∧ NV K H v o ∧
  (btw o 0 30 = true → ∀ H' r, Same H H' → H r = none → RowAt R H' r b v → Q (.ref r) H') ∧ (btw o 0 30 = false → ∀ H' d, Same H H' → H d = none → H' d = some (.xd [("field", .str "ender")]) → E (.ref B) (some d) H')
theorem ok_ended {f fI fR fE : Addr} {fd fdI fdR fdE : FuncData} (F : Fun K "ended" "Row.ended" s_Row_ended f fd) (cl : Cls K R) (nB : NoAttr K R "_beginner") (Z : RowM P w K mg base R B fR fdR) (er : Err P w K mg base "BadRow" "field" B fE fdE (spErr K "field"))
    (GI : FnOk P w K mg base CX0 3 fI fdI ["value"] (spIsWG K)) (kI : PySem.W.keepIn K (.ref fI) = true) (bI : L2.Binds K fdI ["value"] []) (gI : mg "is_writer_number" = some (.ref fI)) : FnOk P w K mg base (L2.CX P w) 7 f fd ["self", "writer"] (spEnded K R B) := by
  refine F.okX sc_Row_ended (fun vs H Q E h => ?_) (fun cdv A outer s H vs Q E hr h => ?_)
  · obtain ⟨p, b, e, v, ob, o, rfl, _⟩ := h
    rfl
  · obtain ⟨p, b, e, v, ob, o, rfl, ⟨dx, hp⟩, hb, okb, hv, qg, qb⟩ := h
    refine ⟨_, pss_cons (ps_if (pt_not (pt_val (pe_call GI (hr.mono (by decide)) (by rfl) gI kI bI .nil pass0 (pa_cons (pv 1) pa_nil)))) (pss_one (ps_raise rfl (takes_of rfl rfl rfl rfl) (pmk_oex er.T er.iC er.tI er.F (hr.mono (by decide)) er.b .nil pass0 (by rfl) er.gC (pa_cons pe_str pa_nil)))) pss_nil)
      (pss_one (ps_ret (pe_make Z.mkR Z.F (hr.mono (by decide)) (by rfl) Z.gR Z.b2 .nil passL (pa_cons (pe_fld (pv 0) rfl) (pa_cons (pv 1) pa_nil))))), ?_⟩
    refine ⟨_, rfl, v, o, rfl, hv, btw o 0 30, rfl, ?_⟩
    cases h : btw o 0 30 with
    | false => exact iteT ⟨by decide, fun a na => err_end er.T er.no na (qb h)⟩
    | true =>
      refine iteF ⟨_, rfl, p, R, dx, _, _, rfl, hp, cl, nB, rfl, _, rfl, ?_⟩
      exact row_good hb hv okb (by unfold okf; rw [h, Bool.or_true]) (qg h)
/-! ### == -/
def spRowEq (K : PySem.W.Frag) (R : Addr) : Sp := fun vs H Q _ => ∃ (p : Addr) (y : V) (b e : Option Nat), vs = [.ref p, y] ∧ RowAt R H p (fv b) (fv e) ∧
  ((∃ (r : Addr) (b' e' : Option Nat), y = .ref r ∧ RowAt R H r (fv b') (fv e') ∧ Q (.bl (decide (b = b' ∧ e = e'))) H) ∨ ∃ t, TyX K H y t ∧ PySem.W.kitOne K t (.ref R) = some false ∧ Q (.bl false) H)
structure RowC (K : PySem.W.Frag) (mg : Str → Option Value) (R : Addr) : Prop where
  cl : Cls K R
  cC : PySem.W.findIn K (.ref R) "__class__" = some (some (.builtin "object.__class__"))
  cG : PySem.W.specialIn K (.builtin "object.__class__") "__get__" = some (some (.builtin "getset_descriptor.__get__"))
  cT : PySem.W.takesIn K (.builtin "object.__class__") = some true
  cM : PySem.W.mroIn K R (.type "object") = some true
  kk : PySem.W.kitOne K (.ref R) (.ref R) = some true
theorem RowC.ty {p : Addr} {b e : V} {H : Hp} (T : RowC K mg R) (h : RowAt R H p b e) : TyX K H (.ref p) (.ref R) := by
  obtain ⟨dx, z⟩ := h
  exact .base (.ins z T.cl T.cC T.cG T.cT T.cM)
theorem dec_fv (a b : Option Nat) : decide (fv a = fv b) = decide (a = b) := by
  by_cases h : a = b
  · rw [decide_eq_true h, decide_eq_true (fv_inj.mpr h)]
  · rw [decide_eq_false h, decide_eq_false fun z => h (fv_inj.mp z)]
theorem ok_row_eq {f : Addr} {fd : FuncData} (F : Fun K "__eq__" "Row.__eq__" s_Row_eq f fd) (T : RowC K mg R) (gR : mg "Row" = some (.ref R)) (isi : mg "isinstance" = none) (nB : NoAttr K R "_beginner") (nE : NoAttr K R "_ender") : FnOk P w K mg base CX0 1 f fd ["self", "other"] (spRowEq K R) := by
  refine F.ok sc_Row_eq (fun vs H Q E h => ?_) (fun cdv A outer s H vs Q E hr h => ?_)
  · obtain ⟨p, y, b, e, rfl, _⟩ := h
    rfl
  · obtain ⟨p, y, b, e, rfl, hp, h⟩ := h
    refine ⟨_, pss_one (ps_ret (pe_and (pe_callB call_isi (by rfl) isi (by decide +kernel) (pa_cons (pv 1) (pa_cons (pe_glob (v := .ref R) (by rfl) gR rfl) pa_nil)))
      (pe_and (pe_cmpR op_eq (pe_fld (pv 0) rfl) (pe_fld (pv 1) rfl) (nomark _)) (pe_one (pe_cmpR op_eq (pe_fld (pv 0) rfl) (pe_fld (pv 1) rfl) (nomark _)))))), ?_⟩
    rcases h with ⟨r, b', e', rfl, hy, q⟩ | ⟨t, ty, k, q⟩
    · refine ⟨_, rfl, .ref r, .ref R, .ref R, .ref R, true, rfl, .own R, T.ty hy, T.kk, true, rfl, iteT ?_⟩
      obtain ⟨dx, hp⟩ := hp
      obtain ⟨dy, hy⟩ := hy
      refine ⟨_, rfl, p, R, dx, _, _, rfl, hp, T.cl, nB, rfl, _, rfl, r, R, dy, _, _, rfl, hy, T.cl, nB, rfl, scal_fv _ _, _, rfl, ?_⟩
      rw [dec_fv]
      by_cases h1 : b = b'
      · rw [decide_eq_true h1]
        refine iteT ⟨_, rfl, p, R, dx, _, _, rfl, hp, T.cl, nE, rfl, _, rfl, r, R, dy, _, _, rfl, hy, T.cl, nE, rfl, scal_fv _ _, ?_⟩
        rw [dec_fv]
        have e1 : decide (b = b' ∧ e = e') = decide (e = e') := by simp [h1]
        rw [e1] at q
        exact q
      · rw [decide_eq_false h1]
        have e1 : decide (b = b' ∧ e = e') = false := by simp [h1]
        rw [e1] at q
        exact iteF q
    · exact ⟨_, rfl, y, .ref R, t, .ref R, false, rfl, .own R, ty, k, false, rfl, iteF q⟩
end
end Toy
set_option Elab.async false
set_option linter.all false
set_option maxRecDepth 100000
set_option maxHeartbeats 4000000
namespace L2
open PySem PySem.Spec PyProof.Rows
/-- the same object on both sides -/
def DSame : Eqv := fun x y _ => ∃ a : Addr, x = .ref a ∧ y = .ref a
theorem mon_same : Mon DSame := fun _ _ _ _ _ d => d
theorem eqG_same {X : Cx} : EqG X 0 DSame := by
  intro A pins s σ H x y u v sb I rx ry d
  obtain ⟨a, rfl, rfl⟩ := d
  obtain rfl : u = Value.ref a := rx
  obtain rfl : v = Value.ref a := ry
  unfold eqBool
  refine wpAny_holding ?_
  refine wpAny_ite_split (fun _ => ?_) (fun z => ?_)
  · refine wpAny_bind (wpAny_rule (wpAny_pure ?_))
    exact ⟨rfl, H, I, Ext.rfl'⟩
  · exact absurd (beq_self_eq_true (Value.ref a)) z
end L2
namespace Vx
open PySem PySem.Spec PyProof.Rows L2
section
variable {X : Cx} {CX : CXT} {k : Nat} {C f : Addr} {sp : Sp} {E : XK} {x : Str} {p pos : Pos}
theorem pe_makeZ (M : Mk X.K C f) (F : FnR X.prog X.w X.K X.mg X.base CX k f sp) (hr : Room (k + 1) X.A) (hg : Gl X x) (hm : X.mg x = some (.ref C)) (hx : Passes CX X E) (hd : (x == ("__debug__" : Str)) = false := by decide) :
    PE X (.Call (.Name x p) [] [] pos) (tMakeZ C sp E) :=
  ⟨fun pins s σ H Q I h => wpAny_Call_Name_kw (ld_glob I hg hm (PySem.W.callWith_K0 I.kIn M.kp (StX.run_makeR (us := []) M F hr hx I .nil h)) hd)⟩
end
end Vx
namespace Toy
open PySem PySem.Spec PyProof.Rows L2
/-- all but the objects of S stays -/
def KeepL (S : List Addr) (H H' : Hp) : Prop := ∀ b o, b ∉ S → H b = some o → H' b = some o
theorem KeepL.rfl' {S : List Addr} {H : Hp} : KeepL S H H := fun _ _ _ e => e
theorem KeepL.trans {S : List Addr} {H H1 H2 : Hp} (a : KeepL S H H1) (b : KeepL S H1 H2) : KeepL S H H2 := fun x o n e => b x o n (a x o n e)
theorem KeepL.same {S : List Addr} {H H' : Hp} (s : Same H H') : KeepL S H H' := fun b o _ e => s b o e
theorem KeepL.pot {S : List Addr} {p c : Addr} {H H' : Hp} (hp : p ∈ S) (hc : c ∈ S) (k : Kept p c H H') : KeepL S H H' := fun b o n e => k b o (fun z => n (by rw [z]; exact hp)) (fun z => n (by rw [z]; exact hc)) e
theorem KeepL.put {S : List Addr} {a : Addr} {o : HO} {H : Hp} (ha : a ∈ S) : KeepL S H (upd H a o) := fun b u n e => by
  rw [upd_ne fun z => n (by rw [z]; exact ha)]
  exact e
theorem off {H : Hp} {p c a : Addr} (P : Pot H p c) (n : H a = none) : a ≠ p ∧ a ≠ c := by
  obtain ⟨cs, at_, x, h1, h2, _⟩ := P
  exact ⟨(ne_of_none h1 n).symm, (ne_of_none h2 n).symm⟩
theorem Pot.put {H : Hp} {p c a : Addr} {o : HO} (P : Pot H p c) (h1 : a ≠ p) (h2 : a ≠ c) : Pot (upd H a o) p c := by
  obtain ⟨cs, at_, x, g1, g2, g3⟩ := P
  exact ⟨cs, at_, x, by rw [upd_ne h1.symm]; exact g1, by rw [upd_ne h2.symm]; exact g2, g3⟩
abbrev Fl := Option Nat × Option Nat
def fokP (q : Fl) : Prop := fok q.1 ∧ fok q.2
/-- objects with what they stand for -/
abbrev Obs (α : Type) := List (Addr × α)
def refs {α : Type} (L : Obs α) : List V := L.map fun x => V.ref x.1
theorem refs_append {α : Type} (L M : Obs α) : refs (L ++ M) = refs L ++ refs M := List.map_append
theorem refs_len {α : Type} (L : Obs α) : (refs L).length = L.length := List.length_map _
theorem refs_get {α : Type} {L : Obs α} {i : Nat} {x : V} (h : (refs L)[i]? = some x) : ∃ y, L[i]? = some y ∧ x = .ref y.1 := by
  unfold refs at h
  rw [List.getElem?_map] at h
  cases e : L[i]? with
  | none => rw [e] at h; cases h
  | some k => rw [e] at h; exact ⟨k, rfl, (Option.some.inj h).symm⟩
theorem refs_at {α : Type} {L : Obs α} {i : Nat} {y : Addr × α} (h : L[i]? = some y) : (refs L)[i]? = some (.ref y.1) := by
  unfold refs
  rw [List.getElem?_map, h]
  rfl
section
variable {P : Program} {w : World} {K : PySem.W.Frag} {mg : Str → Option Value} {base : Heap} {C R B : Addr}
structure Drw (P : Program) (w : World) (K : PySem.W.Frag) (mg : Str → Option Value) (base : Heap) (fD : Addr) (fdD : FuncData) : Prop where
  G : FnOk P w K mg base CX0 1 fD fdD ["pot", "many"] spDraw
  k : PySem.W.keepIn K (.ref fD) = true
  b : L2.Binds K fdD ["pot", "many"] []
  g : mg "_law_draw" = some (.ref fD)
structure Cal (P : Program) (w : World) (K : PySem.W.Frag) (mg : Str → Option Value) (base : Heap) (k : Nat) (f : Addr) (fd : FuncData) (x : Str) (ps : List Str) (sp : Sp) : Prop where
  G : FnOk P w K mg base CX0 k f fd ps sp
  k : PySem.W.keepIn K (.ref f) = true
  b : L2.Binds K fd ps []
  g : mg x = some (.ref f)
/-! ### _law_writer -/
def spWtr : Sp := fun vs H Q _ => ∃ (p c : Addr), vs = [.ref p] ∧ Pot H p c ∧ ∀ H' o, Pot H' p c → Kept p c H H' → fok o → Q (fv o) H'
theorem ok_wtr {f fD : Addr} {fd fdD : FuncData} (F : Fun K "_law_writer" "_law_writer" s_law_writer f fd) (D : Drw P w K mg base fD fdD) : FnOk P w K mg base CX0 2 f fd ["pot"] spWtr := by
  refine F.ok sc_law_writer (fun vs H Q E h => ?_) (fun cdv A outer s H vs Q E hr h => ?_)
  · obtain ⟨p, c, rfl, _⟩ := h
    rfl
  · obtain ⟨p, c, rfl, hP, q⟩ := h
    refine ⟨_, pss_cons (ps_set (i := 1) sc_law_writer.nd rfl (Or.inl rfl) (pe_call D.G hr (by rfl) D.g D.k D.b .nil pass0 (pa_cons (pv 0) (pa_cons pe_int pa_nil))))
      (pss_one (ps_ret (pe_ifExp (pt_cmpR op_gt (pv 1) pe_int (nomark _)) pe_non (pv 1)))), ?_⟩
    refine ⟨_, rfl, p, c, 40, rfl, hP, by decide, by decide, fun H1 d P1 K1 d0 d1 => ⟨_, rfl, d, 30, rfl, rfl, _, rfl, ?_⟩⟩
    refine ite2 (fun h => q H1 none P1 K1 (fun k z => nomatch z)) (fun h => ⟨_, rfl, ?_⟩)
    have h30 : ¬ d > 30 := fun z => h (decide_eq_true z)
    obtain ⟨k, rfl⟩ := Int.eq_ofNat_of_zero_le d0
    refine q H1 (some k) P1 K1 (fun j z => ?_)
    cases z
    omega
/-! ### a page -/
theorem none_of {H H' : Hp} {a : Addr} (s : Same H H') (n : H' a = none) : H a = none := by
  cases e : H a with
  | none => rfl
  | some o => rw [s _ _ e] at n; cases n
def PageAt (PC : Addr) (H : Hp) (q : Addr) (L : Obs Fl) : Prop := ∃ dx l, H q = some (.ins PC dx [("_rows", .ref l)]) ∧ H l = some (.lst (refs L))
theorem PageAt.same {PC : Addr} {H H' : Hp} {q : Addr} {L : Obs Fl} (h : PageAt PC H q L) (s : Same H H') : PageAt PC H' q L := by
  obtain ⟨dx, l, h1, h2⟩ := h
  exact ⟨dx, l, s _ _ h1, s _ _ h2⟩
def RowsAt (R : Addr) (H : Hp) (L : Obs Fl) : Prop := ∀ x ∈ L, RowAt R H x.1 (fv x.2.1) (fv x.2.2) ∧ fokP x.2
theorem RowsAt.same {R : Addr} {H H' : Hp} {L : Obs Fl} (h : RowsAt R H L) (s : Same H H') : RowsAt R H' L := fun x hx => ⟨(h x hx).1.same s, (h x hx).2⟩
structure PgT (K : PySem.W.Frag) (mg : Str → Option Value) (PC : Addr) : Prop where
  cl : Cls K PC
  nR : NoAttr K PC "_rows"
  isi : mg "isinstance" = none
  list : mg "list" = none
  len : mg "len" = none
  all : mg "all" = none
  enum : mg "enumerate" = none
  m7 : ∃ t, mg "MOST_ROWS" = some (.int 7 t)
def spPageI (K : PySem.W.Frag) (PC R : Addr) : Sp := fun vs H Q _ => ∃ (H0 : Hp) (q dx a : Addr) (L : Obs Fl), vs = [.ref q, .ref a] ∧ Same H0 H ∧ H0 q = none ∧ H q = some (.ins PC dx []) ∧ SqL K H0 a (refs L) ∧ L.length ≤ 7 ∧ RowsAt R H0 L ∧ ∀ H' l, Same H0 H' → H0 l = none → H' q = some (.ins PC dx [("_rows", .ref l)]) → H' l = some (.lst (refs L)) → Q .non H'
theorem ok_page_init {f PC : Addr} {fd : FuncData} {dvs : List V} (F : FunD K "__init__" "Page.__init__" (defArgs s_Page_init) (defBody s_Page_init) (defScope s_Page_init) dvs [] f fd) (T : PgT K mg PC) (RC : RowC K mg R) (gR : mg "Row" = some (.ref R)) : FnOk P w K mg base CX0 1 f fd ["self", "rows"] (spPageI K PC R) := by
  obtain ⟨t7, g7⟩ := T.m7
  refine F.ok sc_Page_init (fun vs H Q E h => ?_) (fun cdv A outer s H vs Q E hr h => ?_)
  · obtain ⟨H0, q, dx, a, L, rfl, _⟩ := h
    rfl
  · obtain ⟨H0, q, dx, a, L, rfl, s0, q0, hq, ha, hL, hrows, k⟩ := h
    refine ⟨_, PSs.nox (pss_cons (ps_for PassesOwn.never rfl (pi_enum (by rfl) T.enum (pa_cons (pv 1) pa_nil)) (pg_tup rfl (pgs_cons (pg_name (i := 2) sc_Page_init.nd rfl (Or.inl rfl)) (pgs_cons (pg_name (i := 3) sc_Page_init.nd rfl (Or.inl rfl)) pgs_nil)))
        (pss_one (ps_if (PW.pt (pw_or (pt_cmpR op_eq (pv 2) (pe_glob (v := .int 7) (by rfl) g7 ⟨_, rfl⟩) (nomark _)) (pw_or1 (pt_not (pt_val (pe_callB call_isi (by rfl) T.isi (by decide +kernel) (pa_cons (pv 3) (pa_cons (pe_glob (v := .ref R) (by rfl) gR rfl) pa_nil)))))))) (pss_one ps_never) pss_nil)))
      (pss_one (ps_fld (pv 0) (pe_callTy call_list_of (by rfl) T.list (by decide +kernel) (pa_cons (pv 1) pa_nil)) rfl))), ?_⟩
    refine ⟨_, rfl, a, refs L, rfl, s0.seq ha, for_it (walk_enum (K := K) (a := a) (xs := refs L)) (fun i σ H' => ∃ x y, σ = [some (.ref q), some (.ref a), x, y] ∧ Same H H') ⟨none, none, rfl, Same.refl H⟩ (fun i σ H' _ z => ?_) ?_ ?_⟩
    · obtain ⟨_, _, _, s1⟩ := z
      exact (s0.trans s1).seq ha
    · rintro i x σ H' H2 hi ⟨x0, y0, rfl, s1⟩ ⟨t, u, v, rfl, nt, rfl, eu, ev⟩
      obtain ⟨y, hy, rfl⟩ := refs_get ev
      obtain rfl := (Option.some.inj eu).symm
      have s2 := s1.trans (same_upd (o := .tup [V.int (i : Nat), V.ref y.1]) nt)
      have hR := (hrows y (List.mem_of_getElem? hy)).1.same (s0.trans s2)
      refine ⟨t, _, rfl, SqT.of upd_same, rfl, _, _, rfl, _, _, rfl, rfl, ?_⟩
      refine ⟨_, rfl, rfl, _, rfl, ?_⟩
      have hi7 : i < 7 := Nat.lt_of_lt_of_le (by rw [refs_len] at hi; exact hi) hL
      have e7 : decide (V.int (i : Nat) = V.int 7) = false := decide_eq_false fun z => by
        injection z with z
        omega
      rw [e7]
      refine iteF ⟨_, rfl, .ref y.1, .ref R, .ref R, .ref R, true, rfl, .own R, RC.ty hR, RC.kk, true, rfl, iteF ⟨_, _, rfl, s2⟩⟩
    · rintro σ H' ⟨x0, y0, rfl, s1⟩
      have t1 := s0.trans s1
      refine ⟨_, rfl, a, _, rfl, .inl (t1.seq ha), fun l nl => ?_⟩
      have hq1 := s1 _ _ hq
      have qs : q ≠ l := ne_of_none hq1 nl
      refine ⟨_, rfl, q, PC, dx, _, rfl, by rw [upd_ne qs]; exact hq1, T.cl, T.nR, (by show (0 : Nat) < 1000; decide), ?_⟩
      refine k _ l (fun b o e => ?_) (none_of t1 nl) upd_same ?_
      · rw [upd_ne (ne_of_none e q0)]
        exact (t1.trans (same_upd nl)) _ _ e
      · rw [upd_ne qs.symm]
        exact upd_same
def spPgRows (PC : Addr) : Sp := fun vs H Q _ => ∃ (q : Addr) (L : Obs Fl), vs = [.ref q] ∧ PageAt PC H q L ∧ ∀ H' l, Same H H' → H l = none → H' l = some (.lst (refs L)) → Q (.ref l) H'
theorem ok_pg_rows {f PC : Addr} {fd : FuncData} (F : Fun K "rows" "Page.rows" s_Page_rows f fd) (T : PgT K mg PC) : FnOk P w K mg base CX0 1 f fd ["self"] (spPgRows PC) := by
  refine F.ok sc_Page_rows (fun vs H Q E h => ?_) (fun cdv A outer s H vs Q E hr h => ?_)
  · obtain ⟨q, L, rfl, _⟩ := h
    rfl
  · obtain ⟨q, L, rfl, ⟨dx, l, h1, h2⟩, k⟩ := h
    refine ⟨_, pss_one (ps_ret (pe_callTy call_list_of (by rfl) T.list (by decide +kernel) (pa_cons (pe_fld (pv 0) rfl) pa_nil))), ?_⟩
    exact ⟨_, rfl, q, PC, dx, _, _, rfl, h1, T.cl, T.nR, rfl, l, _, rfl, .inl (SqL.of h2), fun m nm => k _ m (same_upd nm) nm upd_same⟩
def spPgLen (PC : Addr) : Sp := fun vs H Q _ => ∃ (q : Addr) (L : Obs Fl), vs = [.ref q] ∧ PageAt PC H q L ∧ Q (.int (L.length : Nat)) H
theorem ok_pg_len {f PC : Addr} {fd : FuncData} (F : Fun K "__len__" "Page.__len__" s_Page_len f fd) (T : PgT K mg PC) : FnOk P w K mg base CX0 1 f fd ["self"] (spPgLen PC) := by
  refine F.ok sc_Page_len (fun vs H Q E h => ?_) (fun cdv A outer s H vs Q E hr h => ?_)
  · obtain ⟨q, L, rfl, _⟩ := h
    rfl
  · obtain ⟨q, L, rfl, ⟨dx, l, h1, h2⟩, k⟩ := h
    refine ⟨_, pss_one (ps_ret (pe_callB call_len_seq (by rfl) T.len PySem.boot_len (pa_cons (pe_fld (pv 0) rfl) pa_nil))), ?_⟩
    refine ⟨_, rfl, q, PC, dx, _, _, rfl, h1, T.cl, T.nR, rfl, l, _, rfl, .inl (SqL.of h2), ?_⟩
    rw [refs_len]
    exact k
/-! ### all_seen -/
def spPgSeen (PC R C : Addr) : Sp := fun vs H Q _ => ∃ (q m : Addr) (n : Nat) (L : Obs Fl), vs = [.ref q, .ref m] ∧ PageAt PC H q L ∧ RowsAt R H L ∧ L.length ≤ 7 ∧ MoAt C H m n ∧ ∀ H', Same H H' → Q (.bl (L.all fun x => sees x.2.1 x.2.2 n)) H'
theorem ok_pg_seen {f PC fS : Addr} {fd fdS : FuncData} (F : Fun K "all_seen" "Page.all_seen" s_Page_all_seen f fd) (T : PgT K mg PC) (clR : Cls K R) (mS : Meth K R "seen" fS) (FS : FnOk P w K mg base CX0 5 fS fdS ["self", "moment"] (spSeen R C)) (bS : L2.Binds K fdS ["self", "moment"] []) :
    FnOk P w K mg base CX0 6 f fd ["self", "moment"] (spPgSeen PC R C) := by
  refine F.ok sc_Page_all_seen (fun vs H Q E h => ?_) (fun cdv A outer s H vs Q E hr h => ?_)
  · obtain ⟨q, m, n, L, rfl, _⟩ := h
    rfl
  · obtain ⟨q, m, n, L, rfl, ⟨dx, l, h1, h2⟩, hR, hL, hm, k⟩ := h
    refine ⟨_, pss_one (ps_ret (pe_callB (cr_all rfl) (by rfl) T.all (by decide +kernel) (pa_cons (pe_lc (own := [("row", 2)]) (g := gName 2) (tt := tYes) rfl sc_Page_all_seen.nd (pi_list (pe_fld (pv 0) rfl))
      (blkOk_by (own := [("row", 2)]) (N := ["self", "moment", "row"]) (sc := defScope s_Page_all_seen) (by decide +kernel)) (fun _ _ _ _ _ => pg_name (i := 2) sc_Page_all_seen.nd rfl (Or.inl rfl)) (fun _ _ _ _ _ => pts_nil)
      (fun _ _ _ _ _ => pe_meth (pv 2) clR mS FS hr bS .nil pass0 (pa_cons (pv 1) pa_nil))) pa_nil))), ?_⟩
    refine ⟨_, rfl, q, PC, dx, _, _, rfl, h1, T.cl, T.nR, rfl, l, rfl, ⟨_, SqL.of h2⟩, fun D hD => ?_⟩
    refine lc_list (K := K) (a := l) (xs := refs L) (fun i H2 => Same H H2 ∧ H2 D = some (.lst (((L.take i).map fun x => sees x.2.1 x.2.2 n).map V.bl))) ⟨same_upd hD, upd_same⟩ (fun i H2 _ z => SqL.of (z.1 _ _ h2)) ?_ ?_
    · rintro i x H2 hx ⟨s2, e2⟩
      obtain ⟨y, hy, rfl⟩ := refs_get hx
      obtain ⟨⟨dy, hr1⟩, hf1, hf2⟩ := hR y (List.mem_of_getElem? hy)
      refine ⟨rfl, _, rfl, y.1, dy, _, rfl, s2 _ _ hr1, rfl, _, rfl, y.1, m, n, y.2.1, y.2.2, rfl, ⟨dy, s2 _ _ hr1⟩, hf1, hf2, hm.same s2, _, e2, ?_, fun b o e => ?_, ?_⟩
      · rw [List.length_map, List.length_map, List.length_take]
        exact Nat.lt_of_le_of_lt (Nat.le_trans (Nat.min_le_right _ _) hL) (by decide)
      · rw [upd_ne (ne_of_none e hD)]
        exact s2 _ _ e
      · rw [upd_same, List.take_add_one, hy, List.map_append, List.map_append]
        rfl
    · rintro H2 ⟨s2, e2⟩
      rw [refs_len, List.take_length] at e2
      refine ⟨D, _, rfl, SqL.of e2, ?_⟩
      have ea : ((L.map fun x => sees x.2.1 x.2.2 n).all id) = L.all fun x => sees x.2.1 x.2.2 n := by rw [List.all_map]; rfl
      rw [ea]
      exact k H2 s2
end
end Toy
set_option Elab.async false
set_option linter.all false
set_option maxRecDepth 100000
set_option maxHeartbeats 4000000
namespace Toy
open PySem PySem.Spec PyProof.Rows L2
/-! ### the mathematics of a stretch -/
def bg (b : Option Nat) (c : List Nat) : Bool := match b with
  | none => true
  | some k => decide (k ∈ c)
def ov (e : Option Nat) (c : List Nat) : Bool := match e with
  | none => false
  | some k => decide (k ∈ c)
/-- the lists of a chain: nothing goes -/
def Grows (cs : List (List Nat)) : Prop := ∀ (i j : Nat) (x y : List Nat), i ≤ j → cs[i]? = some x → cs[j]? = some y → ∀ k ∈ x, k ∈ y
def stretch (b e : Option Nat) (cs : List (List Nat)) : List Nat := (List.range cs.length).filter fun i => bg b (cs.getD i []) && !ov e (cs.getD i [])
theorem bg_mono {cs : List (List Nat)} (g : Grows cs) {b : Option Nat} {i j : Nat} (h : i ≤ j) (hj : j < cs.length) (hb : bg b (cs.getD i []) = true) : bg b (cs.getD j []) = true := by
  cases b with
  | none => rfl
  | some k =>
    have hi : i < cs.length := by omega
    have e1 : cs.getD i [] = cs[i] := by simp [List.getD, hi]
    have e2 : cs.getD j [] = cs[j] := by simp [List.getD, hj]
    rw [e1] at hb
    rw [e2]
    exact decide_eq_true (g i j _ _ h (List.getElem?_eq_getElem hi) (List.getElem?_eq_getElem hj) k (of_decide_eq_true hb))
theorem ov_mono {cs : List (List Nat)} (g : Grows cs) {e : Option Nat} {i j : Nat} (h : i ≤ j) (hj : j < cs.length) (hb : ov e (cs.getD i []) = true) : ov e (cs.getD j []) = true := by
  cases e with
  | none => cases hb
  | some k => exact bg_mono g (b := some k) h hj hb
/-- what the law's two whiles find is the stretch -/
theorem stretch_of {cs : List (List Nat)} (g : Grows cs) {b e : Option Nat} {f l : Nat} (f0 : f ≤ cs.length) (f1 : ∀ i, i < f → bg b (cs.getD i []) = false) (f2 : f < cs.length → bg b (cs.getD f []) = true)
    (l0 : f ≤ l) (l1 : ∀ i, f ≤ i → i < l → ov e (cs.getD i []) = false) (l2 : l < cs.length → ov e (cs.getD l []) = true) :
    (List.range cs.length).filter (fun i => decide (f ≤ i) && decide (i < l)) = stretch b e cs := by
  unfold stretch
  refine List.filter_congr fun i hi => ?_
  have hi := List.mem_range.mp hi
  by_cases h1 : f ≤ i
  · have hb : bg b (cs.getD i []) = true := bg_mono g h1 hi (f2 (by omega))
    rw [hb, decide_eq_true h1]
    by_cases h2 : i < l
    · rw [decide_eq_true h2, l1 i h1 h2]
      rfl
    · have ho : ov e (cs.getD i []) = true := ov_mono g (by omega) hi (l2 (by omega))
      rw [decide_eq_false h2, ho]
      rfl
  · rw [decide_eq_false h1, f1 i (by omega)]
    rfl
theorem filter_range_succ (p : Nat → Bool) (i : Nat) : (List.range (i + 1)).filter p = if p i = true then (List.range i).filter p ++ [i] else (List.range i).filter p := bits_succ p i
theorem filter_range_len (p : Nat → Bool) (i : Nat) : (((List.range i).filter p).map vi).length ≤ i := by
  rw [List.length_map]
  exact Nat.le_trans (List.length_filter_le _ _) (by rw [List.length_range]; exact Nat.le_refl _)
/-- a chain of lists on the heap -/
def ChainAt (H : Hp) (a : Addr) (Cs : Obs (List Nat)) : Prop := H a = some (.lst (refs Cs)) ∧ ∀ x ∈ Cs, H x.1 = some (.lst (x.2.map vi))
theorem ChainAt.same {H H' : Hp} {a : Addr} {Cs : Obs (List Nat)} (h : ChainAt H a Cs) (s : Same H H') : ChainAt H' a Cs := ⟨s _ _ h.1, fun x hx => s _ _ (h.2 x hx)⟩
theorem getD_snd {Cs : Obs (List Nat)} {i : Nat} {y : Addr × List Nat} (h : Cs[i]? = some y) : (Cs.map Prod.snd).getD i [] = y.2 := by simp [List.getD, h]
section
variable {P : Program} {w : World} {K : PySem.W.Frag} {mg : Str → Option Value} {base : Heap} {C R B : Addr}
def spStr (K : PySem.W.Frag) : Sp := fun vs H Q _ => ∃ (a t : Addr) (Cs : Obs (List Nat)) (b e : Option Nat), vs = [.ref a, .ref t] ∧ ChainAt H a Cs ∧ Cs.length ≤ 41 ∧ Grows (Cs.map Prod.snd) ∧ H t = some (.tup [fv b, fv e]) ∧
  ∀ H' l, Same H H' → H l = none → H' l = some (.lst ((stretch b e (Cs.map Prod.snd)).map vi)) → Q (.ref l) H'
theorem ok_stretch {f : Addr} {fd : FuncData} (F : Fun K "_law_stretch" "_law_stretch" s_law_stretch f fd) (ml : mg "len" = none) (mr : mg "range" = none) : FnOk P w K mg base CX0 1 f fd ["chain", "fields"] (spStr K) := by
  refine F.ok sc_law_stretch (fun vs H Q E h => ?_) (fun cdv A outer s H vs Q E hr h => ?_)
  · obtain ⟨a, t, Cs, b, e, rfl, _⟩ := h
    rfl
  · obtain ⟨a, t, Cs, b, e, rfl, hC, hN, g, ht, q⟩ := h
    have nd := sc_law_stretch.nd
    refine ⟨_, pss_cons (ps_set (i := 2) nd rfl (Or.inr rfl) pe_int)
      (C8.pss_cut (ps_while PassesOwn.never (PW.pt (pw_and (pt_cmpR op_lt (pv 2) (pe_callB call_len_seq (by rfl) ml PySem.boot_len (pa_cons (pv 0) pa_nil)) (nomark _)) (pw_and (pt_cmpR op_notN (pe_ix ix_tup (pv 1) pe_int (fun _ _ => rfl)) pe_non (nomark _))
          (pw_and1 (pt_cmpR op_notIn_seq (pe_ix ix_tup (pv 1) pe_int (fun _ _ => rfl)) (pe_ix ix_list (pv 0) (pv 2) (fun _ _ => rfl)) (by rfl)))))) (pss_one (ps_set (i := 2) nd rfl (Or.inr rfl) (pe_op op_add (pv 2) pe_int))))
      (pss_cons (ps_set (i := 3) nd rfl (Or.inr rfl) (pv 2))
      (C8.pss_cut (ps_while PassesOwn.never (PW.pt (pw_and (pt_cmpR op_lt (pv 3) (pe_callB call_len_seq (by rfl) ml PySem.boot_len (pa_cons (pv 0) pa_nil)) (nomark _)) (pw_and1 (PW.pt (pw_or (pt_cmpR op_isN (pe_ix ix_tup (pv 1) pe_int (fun _ _ => rfl)) pe_non (nomark _))
          (pw_or1 (pt_cmpR op_notIn_seq (pe_ix ix_tup (pv 1) pe_int (fun _ _ => rfl)) (pe_ix ix_list (pv 0) (pv 3) (fun _ _ => rfl)) (by rfl)))))))) (pss_one (ps_set (i := 3) nd rfl (Or.inr rfl) (pe_op op_add (pv 3) pe_int))))
      (pss_one (ps_ret (pe_lc (own := [("at", 4)]) (g := gName 4) rfl nd (pi_range1 (by rfl) mr (pa_cons (pe_callB call_len_seq (by rfl) ml PySem.boot_len (pa_cons (pv 0) pa_nil)) pa_nil))
        (blkOk_by (own := [("at", 4)]) (N := ["chain", "fields", "first", "last", "at"]) (sc := defScope s_law_stretch) (by decide +kernel)) (fun _ _ _ _ _ => pg_name (i := 4) nd rfl (Or.inl rfl))
        (fun _ _ _ _ _ => pts_one (pt_chain op_le op_lt (pv 2) (pv 4) (pv 3))) (fun _ _ _ _ _ => pv 4))))))), ?_⟩
    generalize hcs : Cs.map Prod.snd = cs at g q
    have hlen : Cs.length = cs.length := by rw [← hcs, List.length_map]
    have flat : ∀ c : List Nat, (c.map vi).all flatV = true := flat_vi
    have nonb : ∀ k : Nat, decide (fv (some k) = V.non) = false := fun k => decide_eq_false fun z => by cases z
    have getC : ∀ j, j < cs.length → ∃ y, Cs[j]? = some y ∧ cs.getD j [] = y.2 ∧ H y.1 = some (.lst (y.2.map vi)) := fun j hj => by
      have hj' : j < Cs.length := by omega
      refine ⟨Cs[j], List.getElem?_eq_getElem hj', ?_, hC.2 _ (List.getElem_mem hj')⟩
      rw [← hcs]
      exact getD_snd (List.getElem?_eq_getElem hj')
    -- the first while
    refine ⟨fun σ' H' => ∃ f : Nat, σ' = [some (.ref a), some (.ref t), some (.int (f : Nat)), none, none] ∧ H' = H ∧ f ≤ cs.length ∧ (∀ i, i < f → bg b (cs.getD i []) = false) ∧ (f < cs.length → bg b (cs.getD f []) = true), ?_, ?_⟩
    · refine ⟨fun m σ H' => H' = H ∧ ∃ j : Nat, m = cs.length - j ∧ j ≤ cs.length ∧ (∀ i, i < j → bg b (cs.getD i []) = false) ∧ σ = [some (.ref a), some (.ref t), some (.int (j : Nat)), none, none], ⟨_, rfl, 0, rfl, Nat.zero_le _, fun i h => absurd h (Nat.not_lt_zero _), rfl⟩, ?_⟩
      rintro m σ H' ⟨rfl, j, rfl, hj, hb, rfl⟩
      refine ⟨_, rfl, _, rfl, a, _, rfl, .inl (SqL.of hC.1), _, _, rfl, rfl, _, rfl, ?_⟩
      rw [refs_len, hlen]
      by_cases hlt : j < cs.length
      · rw [decide_eq_true (show ((j : Nat) : Int) < ((cs.length : Nat) : Int) by omega)]
        obtain ⟨y, hy, ey, hy2⟩ := getC j hlt
        refine iteT ⟨_, rfl, t, _, _, _, rfl, rfl, SqT.of ht, rfl, rfl, _, rfl, ?_⟩
        cases b with
        | none => exact iteF ⟨j, rfl, rfl, hj, hb, fun _ => rfl⟩
        | some k =>
          rw [nonb]
          refine iteT ⟨_, rfl, t, _, _, _, rfl, rfl, SqT.of ht, rfl, _, rfl, _, rfl, a, _, _, _, rfl, rfl, SqL.of hC.1, atI_nat (refs_at hy), y.1, _, rfl, .inl (SqL.of hy2), rfl, flat _, _, rfl, ?_⟩
          show if (if true = true then !inV (vi k) (y.2.map vi) else inV (vi k) (y.2.map vi)) = true then _ else _
          rw [if_pos rfl, inV_vi]
          by_cases hk : k ∈ y.2
          · rw [decide_eq_true hk]
            exact iteF ⟨j, rfl, rfl, hj, hb, fun _ => by rw [ey]; exact decide_eq_true hk⟩
          · rw [decide_eq_false hk]
            refine iteT ⟨fun σ' H'' => H'' = H' ∧ σ' = [some (.ref a), some (.ref t), some (.int ((j + 1 : Nat) : Int)), none, none], ?_, ?_⟩
            · rintro σ' H'' ⟨rfl, rfl⟩
              refine ⟨cs.length - (j + 1), by omega, rfl, j + 1, rfl, hlt, fun i hi => ?_, rfl⟩
              by_cases hij : i < j
              · exact hb i hij
              · have : i = j := by omega
                rw [this, ey]
                exact decide_eq_false hk
            · exact ⟨_, rfl, _, _, rfl, rfl, rfl, rfl⟩
      · rw [decide_eq_false (show ¬ ((j : Nat) : Int) < ((cs.length : Nat) : Int) by omega)]
        exact iteF ⟨j, rfl, rfl, hj, hb, fun z => absurd z hlt⟩
    rintro σ1 H1 ⟨f, rfl, rfl, f0, f1, f2⟩
    refine ⟨_, rfl, ?_⟩
    -- the second while
    refine ⟨fun σ' H' => ∃ l : Nat, σ' = [some (.ref a), some (.ref t), some (.int (f : Nat)), some (.int (l : Nat)), none] ∧ H' = H1 ∧ f ≤ l ∧ (∀ i, f ≤ i → i < l → ov e (cs.getD i []) = false) ∧ (l < cs.length → ov e (cs.getD l []) = true), ?_, ?_⟩
    · refine ⟨fun m σ H' => H' = H1 ∧ ∃ j : Nat, m = cs.length - j ∧ f ≤ j ∧ j ≤ cs.length ∧ (∀ i, f ≤ i → i < j → ov e (cs.getD i []) = false) ∧ σ = [some (.ref a), some (.ref t), some (.int (f : Nat)), some (.int (j : Nat)), none], ⟨_, rfl, f, rfl, Nat.le_refl _, f0, fun i h1 h2 => absurd h2 (by omega), rfl⟩, ?_⟩
      rintro m σ H' ⟨rfl, j, rfl, hfj, hj, hb, rfl⟩
      refine ⟨_, rfl, _, rfl, a, _, rfl, .inl (SqL.of hC.1), _, _, rfl, rfl, _, rfl, ?_⟩
      rw [refs_len, hlen]
      have go : ov e (cs.getD j []) = false → j < cs.length → (∀ (σ' : L2.St) (H'' : Hp), (H'' = H' ∧ σ' = [some (.ref a), some (.ref t), some (.int (f : Nat)), some (.int ((j + 1 : Nat) : Int)), none]) → ∃ m', m' < cs.length - j ∧ (H'' = H' ∧ ∃ j' : Nat, m' = cs.length - j' ∧ f ≤ j' ∧ j' ≤ cs.length ∧ (∀ i, f ≤ i → i < j' → ov e (cs.getD i []) = false) ∧ σ' = [some (.ref a), some (.ref t), some (.int (f : Nat)), some (.int (j' : Nat)), none])) := by
        rintro ho hlt σ' H'' ⟨rfl, rfl⟩
        refine ⟨cs.length - (j + 1), by omega, rfl, j + 1, rfl, by omega, hlt, fun i h1 hi => ?_, rfl⟩
        by_cases hij : i < j
        · exact hb i h1 hij
        · have : i = j := by omega
          rw [this]
          exact ho
      by_cases hlt : j < cs.length
      · rw [decide_eq_true (show ((j : Nat) : Int) < ((cs.length : Nat) : Int) by omega)]
        obtain ⟨y, hy, ey, hy2⟩ := getC j hlt
        refine iteT ⟨_, rfl, t, _, _, _, rfl, rfl, SqT.of ht, rfl, rfl, _, rfl, ?_⟩
        cases e with
        | none => exact iteT ⟨_, go rfl hlt, ⟨_, rfl, _, _, rfl, rfl, rfl, rfl⟩⟩
        | some k =>
          rw [nonb]
          refine iteF ⟨_, rfl, t, _, _, _, rfl, rfl, SqT.of ht, rfl, _, rfl, _, rfl, a, _, _, _, rfl, rfl, SqL.of hC.1, atI_nat (refs_at hy), y.1, _, rfl, .inl (SqL.of hy2), rfl, flat _, _, rfl, ?_⟩
          show if (if true = true then !inV (vi k) (y.2.map vi) else inV (vi k) (y.2.map vi)) = true then _ else _
          rw [if_pos rfl, inV_vi]
          by_cases hk : k ∈ y.2
          · rw [decide_eq_true hk]
            exact iteF ⟨j, rfl, rfl, hfj, hb, fun _ => by rw [ey]; exact decide_eq_true hk⟩
          · rw [decide_eq_false hk]
            exact iteT ⟨_, go (by rw [ey]; exact decide_eq_false hk) hlt, ⟨_, rfl, _, _, rfl, rfl, rfl, rfl⟩⟩
      · rw [decide_eq_false (show ¬ ((j : Nat) : Int) < ((cs.length : Nat) : Int) by omega)]
        exact iteF ⟨j, rfl, rfl, hfj, hb, fun z => absurd z hlt⟩
    rintro σ2 H2 ⟨l, rfl, rfl, l0, l1, l2⟩
    have es := stretch_of g (b := b) (e := e) f0 f1 f2 l0 l1 l2
    refine ⟨_, rfl, a, _, rfl, .inl (SqL.of hC.1), ?_⟩
    rw [refs_len, hlen]
    refine ⟨((cs.length : Nat) : Int), rfl, by omega, by omega, fun D hD => ?_⟩
    have tn : (((cs.length : Nat) : Int)).toNat = cs.length := Int.toNat_natCast _
    refine lc_range (lo := 0) (n := (((cs.length : Nat) : Int)).toNat) (fun i H' => Same H2 H' ∧ H' D = some (.lst (((List.range i).filter fun i => decide (f ≤ i) && decide (i < l)).map vi))) ⟨same_upd hD, upd_same⟩ ?_ ?_
    · rintro i H' hi ⟨s3, e3⟩
      rw [tn] at hi
      have d1 : decide (((f : Nat) : Int) ≤ 0 + (i : Int)) = decide (f ≤ i) := decide_eq_decide.mpr (by omega)
      have d2 : decide (0 + (i : Int) < ((l : Nat) : Int)) = decide (i < l) := decide_eq_decide.mpr (by omega)
      have ei : V.int (0 + (i : Int)) = vi i := by rw [Int.zero_add]; rfl
      have yes : (decide (f ≤ i) && decide (i < l)) = true → ∀ {G : Hp → Prop}, (∀ H'', Same H2 H'' → H'' D = some (.lst (((List.range (i + 1)).filter fun i => decide (f ≤ i) && decide (i < l)).map vi)) → G H'') → G (upd H' D (.lst (((List.range i).filter fun i => decide (f ≤ i) && decide (i < l)).map vi ++ [V.int (0 + (i : Int))]))) := fun z G gq => gq _ (fun b o eb => by
          rw [upd_ne (ne_of_none eb hD)]
          exact s3 _ _ eb) (by rw [upd_same, filter_range_succ, if_pos z, List.map_append, ei]; rfl)
      have no : (decide (f ≤ i) && decide (i < l)) = false → H' D = some (.lst (((List.range (i + 1)).filter fun i => decide (f ≤ i) && decide (i < l)).map vi)) := fun z => by
        rw [filter_range_succ, if_neg (by rw [z]; exact Bool.false_ne_true)]
        exact e3
      refine ⟨rfl, _, rfl, _, rfl, _, _, rfl, rfl, decide (f ≤ i), congrArg V.bl d1, ?_⟩
      by_cases h1 : f ≤ i
      · rw [decide_eq_true h1]
        refine iteT ⟨_, rfl, _, _, rfl, rfl, _, rfl, ?_⟩
        rw [d2]
        by_cases h2 : i < l
        · rw [decide_eq_true h2]
          refine iteT ⟨_, rfl, _, e3, Nat.lt_of_le_of_lt (filter_range_len _ _) (Nat.lt_of_lt_of_le hi (Nat.le_trans (show cs.length ≤ 41 by omega) (by decide))), ?_⟩
          exact yes (by rw [decide_eq_true h1, decide_eq_true h2]; rfl) (G := fun X => Same H2 X ∧ X D = some (.lst (((List.range (i + 1)).filter fun i => decide (f ≤ i) && decide (i < l)).map vi))) fun X a b => ⟨a, b⟩
        · rw [decide_eq_false h2]
          exact iteF ⟨s3, no (by rw [decide_eq_false h2, Bool.and_false])⟩
      · rw [decide_eq_false h1]
        exact iteF ⟨false, rfl, iteF ⟨s3, no (by rw [decide_eq_false h1, Bool.false_and])⟩⟩
    · rintro H' ⟨s3, e3⟩
      rw [tn, es] at e3
      exact q H' D s3 hD e3
end
end Toy
set_option Elab.async false
set_option linter.all false
set_option maxRecDepth 100000
set_option maxHeartbeats 4000000
namespace Toy
open PySem PySem.Spec PyProof.Rows L2
/-! ### lists of numbers as data -/
def dk (k : Nat) : PyData := .int k
theorem dpAll_vi {K : PySem.W.Frag} {H : Hp} : ∀ ws : List Nat, DpAll K H (ws.map vi) (ws.map dk)
  | [] => .nil
  | k :: r => .cons (.int _) (dpAll_vi r)
theorem dp_vi {K : PySem.W.Frag} {H : Hp} {a : Addr} {ws : List Nat} (h : H a = some (.lst (ws.map vi))) : Dp K H (.ref a) (.list (ws.map dk)) := .lst (SqL.of h) (dpAll_vi ws)
theorem can_dk : ∀ ws : List Nat, PyData.canLayAll0 (ws.map dk) = true
  | [] => rfl
  | k :: r => by
    rw [List.map_cons]
    show (PyData.canLay0 (.int k) && PyData.canLayAll0 (r.map dk)) = true
    rw [can_dk r]
    rfl
theorem dep_dk : ∀ ws : List Nat, PyData.depthAll (ws.map dk) ≤ 1
  | [] => by decide
  | k :: r => by
    have ih := dep_dk r
    rw [List.map_cons]
    have e : PyData.depthAll (dk k :: r.map dk) = max (PyData.depth (dk k)) (PyData.depthAll (r.map dk)) := rfl
    have e2 : PyData.depth (dk k) ≤ 1 := by first | exact Nat.zero_le _ | exact Nat.le_refl _ | (show (0 : Nat) ≤ 1; decide) | (show (1 : Nat) ≤ 1; decide)
    rw [e]
    omega
theorem shp_dk (ws : List Nat) : SeqAt.shaped (.list (ws.map dk)) = true := by
  have h1 := can_dk ws
  have h2 := dep_dk ws
  unfold SeqAt.shaped
  rw [Bool.and_eq_true]
  refine ⟨h1, decide_eq_true ?_⟩
  have e : PyData.depth (.list (ws.map dk)) = PyData.depthAll (ws.map dk) + 1 := rfl
  omega
theorem eqv_dk : ∀ ws us : List Nat, PyData.eqvAll (ws.map dk) (us.map dk) = decide (ws = us)
  | [], [] => rfl
  | [], _ :: _ => rfl
  | _ :: _, [] => rfl
  | a :: r, b :: t => by
    show ((((a : Nat) : Int) == ((b : Nat) : Int)) && PyData.eqvAll (r.map dk) (t.map dk)) = _
    rw [eqv_dk r t]
    by_cases h : a = b
    · subst h
      simp
    · have h1 : (((a : Nat) : Int) == ((b : Nat) : Int)) = false := by simp; omega
      rw [h1]
      simp [h]
/-! ### chains and moments -/
def rel (n : Nat) (c : List Nat) : Prop := n < 2147483648 ∧ (∀ k ∈ c, k ≤ 30) ∧ ∀ k, n.testBit k = decide (k ∈ c)
theorem rel_nil : rel 0 [] := ⟨by decide, fun k h => absurd h List.not_mem_nil, fun k => by simp⟩
theorem rel_snoc {n w : Nat} {c : List Nat} (h : rel n c) (hw : w ≤ 30) : rel (n ||| 2 ^ w) (c ++ [w]) := by
  obtain ⟨h1, h2, h3⟩ := h
  refine ⟨Nat.or_lt_two_pow (n := 31) h1 (two_pow_lt (by omega)), fun k hk => ?_, fun k => ?_⟩
  · rcases List.mem_append.mp hk with z | z
    · exact h2 k z
    · rw [List.mem_singleton.mp z]; exact hw
  · rw [Nat.testBit_or, h3, Nat.testBit_two_pow]
    by_cases e : w = k
    · subst e; simp
    · have e2 : k ≠ w := fun z => e z.symm
      simp [e, e2]
theorem rel_sees {n : Nat} {c : List Nat} (h : rel n c) (b e : Option Nat) : sees b e n = (bg b c && !ov e c) := by
  cases b <;> cases e <;> simp [sees, bg, ov, h.2.2]
theorem rel_le {n m : Nat} {c d : List Nat} (h : rel n c) (g : rel m d) (s : ∀ k ∈ c, k ∈ d) : gLe n m = true := by
  refine decide_eq_true ?_
  apply Nat.eq_of_testBit_eq
  intro k
  rw [Nat.testBit_and, h.2.2, g.2.2]
  by_cases hk : k ∈ c
  · simp [hk, s k hk]
  · simp [hk]
theorem grows_snoc {cs : List (List Nat)} {c d : List Nat} (g : Grows (cs ++ [c])) (h : ∀ k ∈ c, k ∈ d) : Grows (cs ++ [c] ++ [d]) := by
  intro i j x y hij hx hy k hk
  have hlen : (cs ++ [c]).length = cs.length + 1 := by simp
  by_cases hj : j < (cs ++ [c]).length
  · rw [List.getElem?_append_left hj] at hy
    rw [List.getElem?_append_left (by omega)] at hx
    exact g i j x y hij hx hy k hk
  · have hj2 : j = (cs ++ [c]).length := by
      have := (List.getElem?_eq_some_iff.mp hy).1
      simp at this
      simp at hj ⊢
      omega
    subst hj2
    rw [List.getElem?_append_right (Nat.le_refl _), Nat.sub_self] at hy
    cases hy
    by_cases hi : i < (cs ++ [c]).length
    · rw [List.getElem?_append_left hi] at hx
      refine h k (g i cs.length x c (by omega) hx ?_ k hk)
      rw [List.getElem?_append_right (Nat.le_refl _), Nat.sub_self]
      rfl
    · have hi2 : i = (cs ++ [c]).length := by omega
      subst hi2
      rw [List.getElem?_append_right (Nat.le_refl _), Nat.sub_self] at hx
      cases hx
      exact hk
theorem off4 {H : Hp} {p c ch ml a : Addr} {xs ys : HO} (P : Pot H p c) (e1 : H ch = some xs) (e2 : H ml = some ys) (n : H a = none) : a ∉ [p, c, ch, ml] := by
  have o := off P n
  have o1 := ne_of_none e1 n
  have o2 := ne_of_none e2 n
  intro z
  simp only [List.mem_cons, List.not_mem_nil, or_false] at z
  rcases z with z | z | z | z
  · exact o.1 z
  · exact o.2 z
  · exact o1 z.symm
  · exact o2 z.symm
theorem snoc_of {α : Type} {xs : List α} {n : Nat} (h : xs.length = n + 1) : ∃ ys y, xs = ys ++ [y] := by
  rcases List.eq_nil_or_concat xs with z | ⟨ys, y, z⟩
  · rw [z] at h; cases h
  · exact ⟨ys, y, by rw [z]; simp⟩
structure Lp (C : Addr) (H0 H : Hp) (p c ch ml : Addr) (Cs : Obs (List Nat)) (Ms : Obs Nat) (i j : Nat) : Prop where
  pot : Pot H p c
  ne : ch ≠ p ∧ ch ≠ c ∧ ml ≠ p ∧ ml ≠ c ∧ ch ≠ ml
  keep : KeepL [p, c, ch, ml] H0 H
  lenC : Cs.length = i + 1
  lenM : Ms.length = j + 1
  eC : H ch = some (.lst (refs Cs))
  eM : H ml = some (.lst (refs Ms))
  hC : ∀ x ∈ Cs, H x.1 = some (.lst (x.2.map vi)) ∧ x.1 ∉ [p, c, ch, ml] ∧ x.2.length ≤ i
  hM : ∀ x ∈ Ms, MoAt C H x.1 x.2 ∧ x.1 ∉ [p, c, ch, ml]
  rl : ∀ (k : Nat) (x : Addr × List Nat) (y : Addr × Nat), Cs[k]? = some x → Ms[k]? = some y → rel y.2 x.2
  gr : Grows (Cs.map Prod.snd)
section
variable {C p c ch ml : Addr} {H0 H H1 : Hp} {Cs : Obs (List Nat)} {Ms : Obs Nat} {i j : Nat}
theorem MoAt.keepL {S : List Addr} {a : Addr} {n : Nat} (h : MoAt C H a n) (ha : a ∉ S) (k : KeepL S H H1) : MoAt C H1 a n := by
  obtain ⟨h1, dx, h2⟩ := h
  exact ⟨h1, dx, k _ _ ha h2⟩
theorem Lp.move (h : Lp C H0 H p c ch ml Cs Ms i j) (P : Pot H1 p c) (k : KeepL [p, c, ch, ml] H H1) (e1 : H1 ch = H ch) (e2 : H1 ml = H ml) : Lp C H0 H1 p c ch ml Cs Ms i j :=
  { pot := P, ne := h.ne, keep := h.keep.trans k, lenC := h.lenC, lenM := h.lenM, eC := e1.trans h.eC, eM := e2.trans h.eM, hC := fun x hx => ⟨k _ _ (h.hC x hx).2.1 (h.hC x hx).1, (h.hC x hx).2⟩,
    hM := fun x hx => ⟨(h.hM x hx).1.keepL (h.hM x hx).2 k, (h.hM x hx).2⟩, rl := h.rl, gr := h.gr }
theorem Lp.draw (h : Lp C H0 H p c ch ml Cs Ms i j) (P : Pot H1 p c) (k : Kept p c H H1) : Lp C H0 H1 p c ch ml Cs Ms i j :=
  h.move P (KeepL.pot (by simp) (by simp) k) ((k _ _ h.ne.1 h.ne.2.1 h.eC).trans h.eC.symm) ((k _ _ h.ne.2.2.1 h.ne.2.2.2.1 h.eM).trans h.eM.symm)
theorem Lp.same (h : Lp C H0 H p c ch ml Cs Ms i j) (s : Same H H1) : Lp C H0 H1 p c ch ml Cs Ms i j :=
  h.move (h.pot.same s) (KeepL.same s) ((s _ _ h.eC).trans h.eC.symm) ((s _ _ h.eM).trans h.eM.symm)
theorem Lp.pushC (h : Lp C H0 H p c ch ml Cs Ms i j) (hj : j ≤ i) {Cs0 : Obs (List Nat)} {n0 n : Addr} {c0 : List Nat} {w : Nat} (e : Cs = Cs0 ++ [(n0, c0)]) (hn : H n = some (.lst ((c0 ++ [w]).map vi))) (ho : n ∉ [p, c, ch, ml]) :
    Lp C H0 (upd H ch (.lst (refs Cs ++ [.ref n]))) p c ch ml (Cs ++ [(n, c0 ++ [w])]) Ms (i + 1) j := by
  have k : KeepL [p, c, ch, ml] H (upd H ch (.lst (refs Cs ++ [.ref n]))) := KeepL.put (by simp)
  have hc0 := h.hC (n0, c0) (by rw [e]; simp)
  refine { pot := h.pot.put h.ne.1 h.ne.2.1, ne := h.ne, keep := h.keep.trans k, lenC := ?_, lenM := h.lenM, eC := ?_, eM := ?_, hC := ?_, hM := fun x hx => ⟨(h.hM x hx).1.keepL (h.hM x hx).2 k, (h.hM x hx).2⟩, rl := ?_, gr := ?_ }
  · rw [List.length_append, h.lenC]; rfl
  · rw [upd_same, refs_append]; rfl
  · rw [upd_ne h.ne.2.2.2.2.symm]; exact h.eM
  · intro x hx
    rcases List.mem_append.mp hx with z | z
    · exact ⟨k _ _ (h.hC x z).2.1 (h.hC x z).1, (h.hC x z).2.1, Nat.le_succ_of_le (h.hC x z).2.2⟩
    · rw [List.mem_singleton.mp z]
      refine ⟨k _ _ ho hn, ho, ?_⟩
      rw [List.length_append]
      exact Nat.succ_le_succ hc0.2.2
  · intro q x y hx hy
    have hq : q < Ms.length := (List.getElem?_eq_some_iff.mp hy).1
    rw [List.getElem?_append_left (by rw [h.lenC]; rw [h.lenM] at hq; omega)] at hx
    exact h.rl q x y hx hy
  · have g := h.gr
    rw [e, List.map_append] at g
    rw [e, List.map_append, List.map_append]
    exact grows_snoc g fun k hk => List.mem_append_left _ hk
theorem Lp.pushM (h : Lp C H0 H p c ch ml Cs Ms (j + 1) j) {n : Addr} {m : Nat} {x : Addr × List Nat} (hx : Cs[j + 1]? = some x) (hr : rel m x.2) (hn : MoAt C H n m) (ho : n ∉ [p, c, ch, ml]) :
    Lp C H0 (upd H ml (.lst (refs Ms ++ [.ref n]))) p c ch ml Cs (Ms ++ [(n, m)]) (j + 1) (j + 1) := by
  have k : KeepL [p, c, ch, ml] H (upd H ml (.lst (refs Ms ++ [.ref n]))) := KeepL.put (by simp)
  refine { pot := h.pot.put h.ne.2.2.1 h.ne.2.2.2.1, ne := h.ne, keep := h.keep.trans k, lenC := h.lenC, lenM := ?_, eC := ?_, eM := ?_, hC := fun x hx => ⟨k _ _ (h.hC x hx).2.1 (h.hC x hx).1, (h.hC x hx).2⟩, hM := ?_, rl := ?_, gr := h.gr }
  · rw [List.length_append, h.lenM]; rfl
  · rw [upd_ne h.ne.2.2.2.2]; exact h.eC
  · rw [upd_same, refs_append]; rfl
  · intro y hy
    rcases List.mem_append.mp hy with z | z
    · exact ⟨(h.hM y z).1.keepL (h.hM y z).2 k, (h.hM y z).2⟩
    · rw [List.mem_singleton.mp z]
      exact ⟨hn.keepL ho k, ho⟩
  · intro q u y hu hy
    by_cases hq : q < Ms.length
    · rw [List.getElem?_append_left hq] at hy
      exact h.rl q u y hu hy
    · have hq2 : q = Ms.length := by
        have := (List.getElem?_eq_some_iff.mp hy).1
        simp at this
        omega
      subst hq2
      rw [List.getElem?_append_right (Nat.le_refl _), Nat.sub_self] at hy
      cases hy
      rw [h.lenM, hx] at hu
      cases hu
      exact hr
end
theorem stretch_mem {cs : List (List Nat)} {b e : Option Nat} {i : Nat} (h : i < cs.length) : decide (i ∈ stretch b e cs) = (bg b (cs.getD i []) && !ov e (cs.getD i [])) := by
  unfold stretch
  by_cases z : (bg b (cs.getD i []) && !ov e (cs.getD i [])) = true
  · rw [z]
    exact decide_eq_true (List.mem_filter.mpr ⟨List.mem_range.mpr h, z⟩)
  · rw [Bool.not_eq_true] at z
    rw [z]
    refine decide_eq_false fun y => ?_
    have := (List.mem_filter.mp y).2
    rw [z] at this
    cases this
theorem stretch_same {cs : List (List Nat)} {k : Nat} : stretch (some k) (some k) cs = [] := by
  unfold stretch
  refine List.filter_eq_nil_iff.mpr fun i _ => ?_
  show ¬ (decide (k ∈ cs.getD i []) && !decide (k ∈ cs.getD i [])) = true
  simp
end Toy
set_option Elab.async false
set_option linter.all false
set_option maxRecDepth 100000
set_option maxHeartbeats 4000000
namespace Vx
open PySem PySem.Spec PyProof.Rows L2
section
variable {X : Cx} {CX : CXT} {k : Nat} {C f : Addr} {sp : Sp} {E : XK}
theorem ix_listK {X : Cx} {K : PySem.W.Frag} (hK : X.K = K) : IxR X (rIxL K) := hK ▸ ix_list
theorem ix_tupK {X : Cx} {K : PySem.W.Frag} (hK : X.K = K) : IxR X (rIxT K) := hK ▸ ix_tup
/-- len(o) of an own class -/
def rLenOwn (C : Addr) (sp : Sp) (E : XK) : List V → Hp → VK → Prop := fun xs H Q => (∃ a dx fs, xs = [.ref a] ∧ H a = some (.ins C dx fs)) ∧ sp xs H (fun v H' => ∃ n : Nat, v = .int n ∧ n < 1000000 ∧ Q (.int n) H') E
theorem call_lenOwn (at_ : PySem.W.findIn X.K (.ref C) "__len__" = some (some (.ref f))) (fn : PySem.W.isFn X.K (.ref f) = true) (F : FnR X.prog X.w X.K X.mg X.base CX k f sp) (hr : Room (k + 1) X.A) (hx : Passes CX X E) : CallR X (.builtin "len") (rLenOwn C sp E) := by
  intro pins s σ H xs us Q I r h
  obtain ⟨⟨a, dx, fs, rfl, ha⟩, hsp⟩ := h
  obtain ⟨u, rfl, rx⟩ := vals1 r
  cases rx
  have sb : Sub X k X.A.in1 := (⟨hr, rfl⟩ : Sub X (k + 1) X.A).in1
  obtain ⟨mA, J, _⟩ := ins_get I.hok ha
  obtain ⟨od, J, _⟩ := J.look
  obtain ⟨m, hF⟩ := I.fr
  refine PySem.W.len_K hF I.ok.mod.kin J at_ fn (wpAny_mono (wpAny_call (run_in (us := [.ref a]) (vs := [V.ref a]) sb F hx I (.cons rfl .nil) hsp)) (fun v s' hv => ?_) fun _ _ z => z)
  obtain ⟨v', H', I', rv, n, rfl, hn, q⟩ := hv
  obtain ⟨t, rfl⟩ := rv
  exact ⟨⟨by omega, by omega⟩, .int n, H', I'.tok _, ⟨_, rfl⟩, q⟩
end
end Vx
namespace Toy
open PySem PySem.Spec PyProof.Rows L2
/-! ### fields as tuples -/
def FT (p c : Addr) (H : Hp) (x : Addr × Fl) : Prop := H x.1 = some (.tup [fv x.2.1, fv x.2.2]) ∧ fokP x.2 ∧ x.1 ≠ p ∧ x.1 ≠ c
theorem can_dkl (ws : List Nat) : PyData.canLay0 (.list (ws.map dk)) = true := can_dk ws
theorem FT.kept {p c : Addr} {H H' : Hp} {x : Addr × Fl} (h : FT p c H x) (k : Kept p c H H') : FT p c H' x := ⟨k _ _ h.2.2.1 h.2.2.2 h.1, h.2⟩
theorem FT.same {p c : Addr} {H H' : Hp} {x : Addr × Fl} (h : FT p c H x) (s : Same H H') : FT p c H' x := h.kept (Kept.of_same s)
theorem FT.put {p c a : Addr} {H : Hp} {o : HO} {x : Addr × Fl} (h : FT p c H x) (n : x.1 ≠ a) : FT p c (upd H a o) x := ⟨by rw [upd_ne n]; exact h.1, h.2⟩
theorem tup_lst {H : Hp} {a b : Addr} {xs ys : List V} (h : H a = some (.tup xs)) (g : H b = some (.lst ys)) : a ≠ b := ne_of h g (by intro z; cases z)
theorem ins_lst {H : Hp} {a b C dx : Addr} {fs : List (Str × V)} {ys : List V} (h : H a = some (.ins C dx fs)) (g : H b = some (.lst ys)) : a ≠ b := ne_of h g (by intro z; cases z)
def dO : Option Nat → PyData
  | none => .none
  | some k => .int k
def dF (q : Fl) : PyData := .tuple [dO q.1, dO q.2]
theorem dp_O {K : PySem.W.Frag} {H : Hp} (o : Option Nat) : Dp K H (fv o) (dO o) := by
  cases o with
  | none => exact .non
  | some k => exact .int _
theorem dp_flds {K : PySem.W.Frag} {p c : Addr} {H : Hp} : ∀ {L : Obs Fl}, (∀ x ∈ L, FT p c H x) → DpAll K H (refs L) (L.map fun x => dF x.2)
  | [], _ => .nil
  | x :: r, h => .cons (.tup (SqT.of (h x List.mem_cons_self).1) (.cons (dp_O _) (.cons (dp_O _) .nil))) (dp_flds fun y hy => h y (List.mem_cons_of_mem _ hy))
theorem can_O (o : Option Nat) : PyData.canLay0 (dO o) = true := by cases o <;> rfl
theorem can_F (q : Fl) : PyData.canLay0 (dF q) = true := by
  obtain ⟨a, b⟩ := q
  cases a <;> cases b <;> rfl
theorem can_flds : ∀ L : Obs Fl, PyData.canLayAll0 (L.map fun x => dF x.2) = true
  | [] => rfl
  | x :: r => by
    rw [List.map_cons]
    show (PyData.canLay0 (dF x.2) && PyData.canLayAll0 (r.map fun x => dF x.2)) = true
    rw [can_flds r, can_F]
    rfl
theorem dep_F (q : Fl) : PyData.depth (dF q) ≤ 2 := by
  obtain ⟨a, b⟩ := q
  cases a <;> cases b <;> first | exact Nat.le_refl _ | (show (1 : Nat) ≤ 2; decide) | (show (0 : Nat) ≤ 2; decide)
theorem dep_flds : ∀ L : Obs Fl, PyData.depthAll (L.map fun x => dF x.2) ≤ 2
  | [] => by decide
  | x :: r => by
    have ih := dep_flds r
    have e2 := dep_F x.2
    rw [List.map_cons]
    have e : PyData.depthAll (dF x.2 :: r.map fun x => dF x.2) = max (PyData.depth (dF x.2)) (PyData.depthAll (r.map fun x => dF x.2)) := rfl
    rw [e]
    omega
theorem shp_flds (L : Obs Fl) : SeqAt.shaped (.list (L.map fun x => dF x.2)) = true := by
  have h1 := can_flds L
  have h2 := dep_flds L
  unfold SeqAt.shaped
  rw [Bool.and_eq_true]
  refine ⟨h1, decide_eq_true ?_⟩
  have e : PyData.depth (.list (L.map fun x => dF x.2)) = PyData.depthAll (L.map fun x => dF x.2) + 1 := rfl
  omega
theorem row_goodP {R B : Addr} {K : PySem.W.Frag} {H : Hp} {b e : V} {ob oe : Option Int} {G : Hp → Prop} {E : XK} {x dx : Addr} (h1 : NV K H b ob) (h2 : NV K H e oe) (o1 : okf b ob = true) (o2 : okf e oe = true) (nx : H x = none) (nd : H dx = none) (q : ∀ H', Same H H' → RowAt R H' x b e → G H') :
    spRowI K R B [.ref x, b, e] (upd (upd H dx (.own x)) x (.ins R dx [])) (fun v H3 => v = .non ∧ G H3) E := by
  have s : Same H (upd (upd H dx (.own x)) x (.ins R dx [])) := fun c o y => by
    rw [upd_ne (ne_of_none y nx), upd_ne (ne_of_none y nd)]
    exact y
  refine ⟨H, x, dx, b, e, ob, oe, rfl, s, nx, upd_same, h1.same s, h2.same s, fun _ H' s' e' => ⟨rfl, q H' s' ⟨dx, e'⟩⟩, fun z => ?_⟩
  rw [o1, o2] at z
  cases z
theorem made_same {H : Hp} {x dx : Addr} {C : Addr} (nx : H x = none) (nd : H dx = none) : Same H (upd (upd H dx (.own x)) x (.ins C dx [])) := fun c o y => by
  rw [upd_ne (ne_of_none y nx), upd_ne (ne_of_none y nd)]
  exact y
theorem map_snd_len {α β : Type} {L : List (α × β)} {M : List (α × β)} (h : M.map Prod.snd = L.map Prod.snd) : M.length = L.length := by
  have := congrArg List.length h
  rwa [List.length_map, List.length_map] at this
section
variable {P : Program} {w : World} {K : PySem.W.Frag} {mg : Str → Option Value} {base : Heap} {C R B PC : Addr}
def spLaw (K : PySem.W.Frag) : Sp := fun vs H Q _ => ∃ (a : Addr) (ns : List Int), vs = [.ref a] ∧ SqL K H a (ns.map V.int) ∧ ns.length ≤ 63 ∧ ∀ H', Q (.bl true) H'
structure Calls (P : Program) (w : World) (K : PySem.W.Frag) (mg : Str → Option Value) (base : Heap) (C R B PC fP fD fW fT fMI fR fS fOr fLe fPI fPR fPL fPS : Addr) (fdP fdD fdW fdT fdR fdS fdPI fdPR fdPS : FuncData) : Prop where
  pot : Cal P w K mg base 1 fP fdP "_law_pot" ["script"] (spPot K)
  draw : Cal P w K mg base 1 fD fdD "_law_draw" ["pot", "many"] spDraw
  wtr : Cal P w K mg base 2 fW fdW "_law_writer" ["pot"] spWtr
  str : Cal P w K mg base 1 fT fdT "_law_stretch" ["chain", "fields"] (spStr K)
  len : mg "len" = none
  range : mg "range" = none
  gC : mg "Moment" = some (.ref C)
  mkC : Mk K C fMI
  FC : FnR P w K mg base CX0 4 fMI (spMk C)
  oOr : Vx.OpF K C fOr .BitOr
  Or1 : FnR P w K mg base CX0 7 fOr (spBin C fun n m => n ||| m)
  le : CmpF K C fLe .LtE
  Le1 : FnR P w K mg base CX0 1 fLe (spCmp C gLe)
  Z : RowM P w K mg base R B fR fdR
  clR : Cls K R
  mS : Meth K R "seen" fS
  bS : L2.Binds K fdS ["self", "moment"] []
  FS : FnOk P w K mg base CX0 5 fS fdS ["self", "moment"] (spSeen R C)
  mkP : Mk K PC fPI
  gP : mg "Page" = some (.ref PC)
  FP : FnOk P w K mg base CX0 1 fPI fdPI ["self", "rows"] (spPageI K PC R)
  bP : L2.Binds K fdPI ["self", "rows"] []
  clP : Cls K PC
  mR : Meth K PC "rows" fPR
  FR : FnOk P w K mg base CX0 1 fPR fdPR ["self"] (spPgRows PC)
  bR : L2.Binds K fdPR ["self"] []
  mA : Meth K PC "all_seen" fPS
  FA : FnOk P w K mg base CX0 6 fPS fdPS ["self", "moment"] (spPgSeen PC R C)
  bA : L2.Binds K fdPS ["self", "moment"] []
  lnA : PySem.W.findIn K (.ref PC) "__len__" = some (some (.ref fPL))
  lnF : PySem.W.isFn K (.ref fPL) = true
  FL : FnR P w K mg base CX0 1 fPL (spPgLen PC)
abbrev nL : List Str := ["script", "pot", "k", "fields", "rows", "page", "chain", "moments", "writer", "stretches", "at", "told", "due", "pair"]
theorem ok_law {f fP fD fW fT fMI fR fS fOr fLe fPI fPR fPL fPS : Addr} {fd fdP fdD fdW fdT fdR fdS fdPI fdPR fdPS : FuncData} (F : Fun K "law" "law" s_law f fd) (Z : Calls P w K mg base C R B PC fP fD fW fT fMI fR fS fOr fLe fPI fPR fPL fPS fdP fdD fdW fdT fdR fdS fdPI fdPR fdPS) :
    FnOk P w K mg base CX0 9 f fd ["script"] (spLaw K) := by
  refine F.ok sc_law (fun vs H Q E h => ?_) (fun cdv A outer s H vs Q E hr h => ?_)
  · obtain ⟨a, ns, rfl, _⟩ := h
    rfl
  · obtain ⟨a, ns, rfl, hS, hlen, q⟩ := h
    have hr1 : Room 1 _ := hr.mono (by decide)
    have hr2 : Room 2 _ := hr.mono (by decide)
    have hr5 : Room 5 _ := hr.mono (by decide)
    have hr6 : Room 6 _ := hr.mono (by decide)
    have hr7 : Room 7 _ := hr.mono (by decide)
    have nd := sc_law.nd
    refine ⟨_, pss_cons (ps_set (i := 1) nd rfl (Or.inr rfl) (pe_call Z.pot.G hr1 (by rfl) Z.pot.g Z.pot.k Z.pot.b .nil pass0 (pa_cons (pv 0) pa_nil)))
      (pss_cons (ps_setLc (i := 3) (own := [("k", 2)]) (g := gName 2) (tt := tYes) rfl nd rfl rfl (sw_true rfl rfl rfl (by decide +kernel)) (pi_range1 (by rfl) Z.range (pa_cons (pe_call Z.draw.G hr1 (by rfl) Z.draw.g Z.draw.k Z.draw.b .nil pass0 (pa_cons (pv 1) (pa_cons pe_int pa_nil))) pa_nil))
        (blkOk_by (own := [("k", 2)]) (N := nL) (sc := defScope s_law) (by decide +kernel)) (fun _ _ _ _ _ => pg_name (i := 2) nd rfl (Or.inl rfl)) (fun _ _ _ _ _ => pts_nil)
        (fun _ _ _ _ _ => pe_tup (pa_cons (pe_call Z.wtr.G hr2 (by rfl) Z.wtr.g Z.wtr.k Z.wtr.b .nil pass0 (pa_cons (pv 1) pa_nil)) (pa_cons (pe_call Z.wtr.G hr2 (by rfl) Z.wtr.g Z.wtr.k Z.wtr.b .nil pass0 (pa_cons (pv 1) pa_nil)) pa_nil))))
      (C8.pss_cut (ps_if (PW.pt (pw_and (pt_cmpR (op_neD hr.units) (pv 3) (pe_lst pa_nil) (nomark _)) (pw_and1 (pt_cmpR op_eq (pe_call Z.draw.G hr1 (by rfl) Z.draw.g Z.draw.k Z.draw.b .nil pass0 (pa_cons (pv 1) (pa_cons pe_int pa_nil))) pe_int (nomark _)))))
        (pss_one (ps_asg (pe_tup (pa_cons (pe_ix ix_tup (pe_ix ix_list (pv 3) pe_int (fun _ _ => rfl)) pe_int (fun _ _ => rfl)) (pa_cons (pe_ix ix_tup (pe_ix ix_list (pv 3) pe_int (fun _ _ => rfl)) pe_int (fun _ _ => rfl)) pa_nil))) (pg_sub (pv 3) pe_int set_list))) pss_nil)
      (pss_cons (ps_set (i := 4) nd rfl (Or.inr rfl) (pe_lc (own := [("pair", 13)]) (g := gName 13) (tt := tYes) rfl nd (pi_list (pv 3))
        (blkOk_by (own := [("pair", 13)]) (N := nL) (sc := defScope s_law) (by decide +kernel)) (fun _ _ _ _ _ => pg_name (i := 13) nd rfl (Or.inl rfl)) (fun _ _ _ _ _ => pts_nil)
        (fun _ _ _ _ _ => pe_make Z.Z.mkR Z.Z.F hr6 (by rfl) Z.Z.gR Z.Z.b2 .nil passL (pa_cons (pe_ix (Vx.ix_tupK (K := K) rfl) (pv 13) pe_int (fun _ _ => rfl)) (pa_cons (pe_ix (Vx.ix_tupK (K := K) rfl) (pv 13) pe_int (fun _ _ => rfl)) pa_nil)))))
      (pss_cons (ps_set (i := 5) nd rfl (Or.inl rfl) (pe_make Z.mkP Z.FP hr2 (by rfl) Z.gP Z.bP .nil pass0 (pa_cons (pv 4) pa_nil)))
      (pss_cons (ps_set (i := 6) nd rfl (Or.inr rfl) (pe_lst (pa_cons (pe_lst pa_nil) pa_nil)))
      (pss_cons (ps_set (i := 7) nd rfl (Or.inr rfl) (pe_lst (pa_cons (Vx.pe_makeZ Z.mkC Z.FC hr5 (by rfl) Z.gC pass0) pa_nil)))
      (pss_cons (ps_for PassesOwn.never rfl (pi_range1 (by rfl) Z.range (pa_cons (pe_call Z.draw.G hr1 (by rfl) Z.draw.g Z.draw.k Z.draw.b .nil pass0 (pa_cons (pv 1) (pa_cons pe_int pa_nil))) pa_nil)) (pg_name (i := 2) nd rfl (Or.inr rfl))
        (pss_cons (ps_set (i := 8) nd rfl (Or.inl rfl) (pe_call Z.draw.G hr1 (by rfl) Z.draw.g Z.draw.k Z.draw.b .nil pass0 (pa_cons (pv 1) (pa_cons pe_int pa_nil))))
        (pss_cons (ps_expr (pe_bm PySem.F.plainAttrs_list PySem.F.slot_list_append PySem.F.type_list_append mt_append (pv 6) (pa_cons (pe_op op_cat (pe_ix ix_list (pv 6) (pe_un un_neg pe_int) (fun _ _ => rfl)) (pe_lst (pa_cons (pv 8) pa_nil))) pa_nil)))
        (pss_one (ps_expr (pe_bm PySem.F.plainAttrs_list PySem.F.slot_list_append PySem.F.type_list_append mt_append (pv 7) (pa_cons (pe_op (Vx.op_own Z.oOr Z.Or1 hr7 pass0) (pe_ix ix_list (pv 7) (pe_un un_neg pe_int) (fun _ _ => rfl)) (pv 8)) pa_nil)))))))
      (pss_cons (ps_set (i := 9) nd rfl (Or.inr rfl) (pe_lc (own := [("pair", 13)]) (g := gName 13) (tt := tYes) rfl nd (pi_list (pv 3))
        (blkOk_by (own := [("pair", 13)]) (N := nL) (sc := defScope s_law) (by decide +kernel)) (fun _ _ _ _ _ => pg_name (i := 13) nd rfl (Or.inl rfl)) (fun _ _ _ _ _ => pts_nil)
        (fun _ _ _ _ _ => pe_call Z.str.G hr1 (by rfl) Z.str.g Z.str.k Z.str.b .nil pass0 (pa_cons (pv 6) (pa_cons (pv 13) pa_nil)))))
      (pss_cons (ps_for PassesOwn.never rfl (pi_range1 (by rfl) Z.range (pa_cons (pe_callB call_len_seq (by rfl) Z.len PySem.boot_len (pa_cons (pv 4) pa_nil)) pa_nil)) (pg_name (i := 2) nd rfl (Or.inr rfl))
        (pss_cons (ps_setLc (i := 11) (own := [("at", 10)]) (g := gName 10) rfl nd rfl rfl (sw_true rfl rfl rfl (by decide +kernel)) (pi_range1 (by rfl) Z.range (pa_cons (pe_callB call_len_seq (by rfl) Z.len PySem.boot_len (pa_cons (pv 6) pa_nil)) pa_nil))
          (blkOk_by (own := [("at", 10)]) (N := nL) (sc := defScope s_law) (by decide +kernel)) (fun _ _ _ _ _ => pg_name (i := 10) nd rfl (Or.inl rfl))
          (fun _ _ _ _ _ => pts_one (pt_val (pe_meth (pe_ix (Vx.ix_listK (K := K) rfl) (pv 4) (pv 2) (fun _ _ => rfl)) Z.clR Z.mS Z.FS hr5 Z.bS .nil pass0 (pa_cons (pe_ix (Vx.ix_listK (K := K) rfl) (pv 7) (pv 10) (fun _ _ => rfl)) pa_nil)))) (fun _ _ _ _ _ => pv 10))
        (pss_cons (ps_if (pt_cmpR (op_neD hr.units) (pv 11) (pe_ix ix_list (pv 9) (pv 2) (fun _ _ => rfl)) (nomark _)) (pss_one ps_never) pss_nil)
        (pss_one (ps_if (PW.pt (pw_and (pt_cmpR op_notN (pe_ix ix_tup (pe_ix ix_list (pv 3) (pv 2) (fun _ _ => rfl)) pe_int (fun _ _ => rfl)) pe_non (nomark _))
          (pw_and (pt_cmpR op_eq (pe_ix ix_tup (pe_ix ix_list (pv 3) (pv 2) (fun _ _ => rfl)) pe_int (fun _ _ => rfl)) (pe_ix ix_tup (pe_ix ix_list (pv 3) (pv 2) (fun _ _ => rfl)) pe_int (fun _ _ => rfl)) (nomark _))
          (pw_and1 (pt_cmpR (op_neD hr.units) (pv 11) (pe_lst pa_nil) (nomark _)))))) (pss_one ps_never) pss_nil)))))
      (pss_cons (ps_for PassesOwn.never rfl (pi_range1 (by rfl) Z.range (pa_cons (pe_callB call_len_seq (by rfl) Z.len PySem.boot_len (pa_cons (pv 6) pa_nil)) pa_nil)) (pg_name (i := 10) nd rfl (Or.inr rfl))
        (pss_cons (ps_set (i := 12) nd rfl (Or.inl rfl) (pe_cmpR (op_eqD hr.units) (pe_lc (own := [("k", 2)]) (g := gName 2) rfl nd (pi_range1 (by rfl) Z.range (pa_cons (pe_callB call_len_seq (by rfl) Z.len PySem.boot_len (pa_cons (pv 4) pa_nil)) pa_nil))
          (blkOk_by (own := [("k", 2)]) (N := nL) (sc := defScope s_law) (by decide +kernel)) (fun _ _ _ _ _ => pg_name (i := 2) nd rfl (Or.inl rfl))
          (fun _ _ _ _ _ => pts_one (pt_cmpR (Vx.op_notInK (K := K) rfl) (pv 10) (pe_ix (Vx.ix_listK (K := K) rfl) (pv 9) (pv 2) (fun _ _ => rfl)) (by rfl))) (fun _ _ _ _ _ => pv 2)) (pe_lst pa_nil) (nomark _)))
        (pss_cons (ps_if (pt_cmpR op_ne (pe_meth (pv 5) Z.clP Z.mA Z.FA hr6 Z.bA .nil pass0 (pa_cons (pe_ix ix_list (pv 7) (pv 10) (fun _ _ => rfl)) pa_nil)) (pv 12) (nomark _)) (pss_one ps_never) pss_nil)
        (pss_one (ps_if (PW.pt (pw_and (pt_cmpR op_gt (pv 10) pe_int (nomark _)) (pw_and1 (pt_not (pt_cmpR (Vx.op_cmpOwn (op := .LtE) (fun _ _ => rfl) Z.le.nf Z.le.at_ Z.le.fn Z.Le1 hr1 pass0) (pe_ix ix_list (pv 7) (pe_op op_sub (pv 10) pe_int) (fun _ _ => rfl)) (pe_ix ix_list (pv 7) (pv 10) (fun _ _ => rfl)) (nomark _)))))) (pss_one ps_never) pss_nil)))))
      (pss_one (ps_ret (pe_and (pe_cmpR (op_eqG (rcG_list mon_same eqG_same) hr1) (pe_meth0 (pv 5) Z.clP Z.mR Z.FR hr1 Z.bR .nil pass0) (pv 4) (nomark _))
        (pe_one (pe_cmpR op_eq (pe_callB (Vx.call_lenOwn Z.lnA Z.lnF Z.FL hr2 pass0) (by rfl) Z.len PySem.boot_len (pa_cons (pv 5) pa_nil)) (pe_callB call_len_seq (by rfl) Z.len PySem.boot_len (pa_cons (pv 4) pa_nil)) (nomark _)))))))))))))))), ?_⟩
    refine ⟨_, rfl, a, ns, rfl, hS, hlen, fun H1 p c s1 p0 c0 P1 => ?_⟩
    refine ⟨_, rfl, p, c, 8, rfl, P1, by decide, by decide, fun H2 d P2 K2 d0 d1 => ?_⟩
    refine ⟨d, rfl, by omega, by omega, fun lf nlf => ?_⟩
    have olf := off P2 nlf
    refine lc_range (lo := 0) (n := d.toNat) (fun i H' => ∃ L : Obs Fl, L.length = i ∧ Pot H' p c ∧ H' lf = some (.lst (refs L)) ∧ ∀ x ∈ L, FT p c H' x) ⟨[], rfl, P2.same (same_upd nlf), upd_same, fun x h => absurd h List.not_mem_nil⟩ ?_ ?_
    · rintro i H' hi ⟨L, hl, P', e', hL⟩
      refine ⟨rfl, _, rfl, p, c, rfl, P', fun H3 b P3 K3 hb => ⟨_, rfl, p, c, rfl, P3, fun H4 e P4 K4 he => ⟨by show 2 ≤ sizeLine; decide, fun t nt => ?_⟩⟩⟩
      have K34 := K3.trans K4
      have e4 := K34 _ _ olf.1 olf.2 e'
      have ot := off P4 nt
      have ltf : lf ≠ t := ne_of_none e4 nt
      refine ⟨refs L, by rw [upd_ne ltf]; exact e4, ?_, L ++ [(t, (b, e))], ?_, (P4.put ot.1 ot.2).put olf.1 olf.2, ?_, ?_⟩
      · rw [refs_len, hl]
        exact Nat.lt_of_lt_of_le hi (Nat.le_trans (show d.toNat ≤ 8 by omega) (by decide))
      · rw [List.length_append, hl]
        rfl
      · rw [upd_same, refs_append]
        rfl
      · intro x hx
        rcases List.mem_append.mp hx with h | h
        · have hx4 := (hL x h).kept K34
          exact (hx4.put (ne_of_none hx4.1 nt)).put (tup_lst hx4.1 e4)
        · rw [List.mem_singleton.mp h]
          exact ⟨by show (upd (upd H4 t _) lf _) t = _; rw [upd_ne ltf.symm, upd_same], ⟨hb, he⟩, ot⟩
    rintro H3 ⟨L, hl, P3, e3, hL⟩
    have hL7 : L.length ≤ 7 := by omega
    clear hl
    refine ⟨fun σ' H' => ∃ L : Obs Fl, L.length ≤ 7 ∧ σ' = [some (.ref a), some (.ref p), none, some (.ref lf), none, none, none, none, none, none, none, none, none, none] ∧ Pot H' p c ∧ H' lf = some (.lst (refs L)) ∧ ∀ x ∈ L, FT p c H' x, ?_, ?_⟩
    · refine ⟨_, rfl, Nat.zero_le _, fun l nl => ?_⟩
      have lfl : lf ≠ l := ne_of_none e3 nl
      have sl := same_upd (o := .lst []) nl
      refine ⟨_, _, .lst (SqL.of (sl _ _ e3)) (dp_flds fun x hx => (hL x hx).same sl), .lst (SqL.of upd_same) .nil, shp_flds L, rfl, _, rfl, ?_⟩
      cases L with
      | nil => exact iteF ⟨[], by decide, rfl, P3.same sl, sl _ _ e3, fun x h => absurd h List.not_mem_nil⟩
      | cons y r =>
        refine iteT ⟨_, rfl, p, c, 3, rfl, P3.same sl, by decide, by decide, fun H5 d5 P5 K5 _ _ => ⟨rfl, _, rfl, ?_⟩⟩
        have e5 := K5 _ _ olf.1 olf.2 (sl _ _ e3)
        have hL5 : ∀ x ∈ y :: r, FT p c H5 x := fun x hx => ((hL x hx).same sl).kept K5
        refine ite2 (fun _ => ?_) (fun _ => ⟨y :: r, hL7, rfl, P5, e5, hL5⟩)
        have hy := hL5 y List.mem_cons_self
        refine ⟨_, rfl, lf, _, _, _, rfl, rfl, SqL.of e5, (atI_nat (j := 0) (by rfl)), y.1, _, _, _, rfl, rfl, SqT.of hy.1, rfl, _, rfl, lf, _, _, _, rfl, rfl, SqL.of e5, (atI_nat (j := 0) (by rfl)), y.1, _, _, _, rfl, rfl, SqT.of hy.1, rfl, (by show 2 ≤ sizeLine; decide), fun t nt => ?_⟩
        have ot := off P5 nt
        have ltf : lf ≠ t := ne_of_none e5 nt
        refine ⟨_, rfl, lf, _, _, 0, rfl, rfl, by rw [upd_ne ltf]; exact e5, (ixN_nat (k := 0) (by rw [refs_len]; exact Nat.succ_pos _)), (t, (y.2.1, y.2.1)) :: r, hL7, rfl, (P5.put ot.1 ot.2).put olf.1 olf.2, ?_, ?_⟩
        · rw [upd_same]
          rfl
        · intro x hx
          rcases List.mem_cons.mp hx with rfl | h
          · exact ⟨by show (upd (upd H5 t _) lf _) t = _; rw [upd_ne ltf.symm, upd_same], ⟨hy.2.1.1, hy.2.1.1⟩, ot⟩
          · have hx5 := hL5 x (List.mem_cons_of_mem _ h)
            exact (hx5.put (ne_of_none hx5.1 nt)).put (tup_lst hx5.1 e5)
    clear hL hL7 e3 P3 L
    rintro σ' H4 ⟨L, hL7, rfl, P4, e4, hL⟩
    -- rows
    refine ⟨_, rfl, lf, rfl, ⟨_, SqL.of e4⟩, fun lr nlr => ?_⟩
    refine lc_list (K := K) (a := lf) (xs := refs L) (fun i H' => Same H4 H' ∧ ∃ M : Obs Fl, H' lr = some (.lst (refs M)) ∧ M.map Prod.snd = (L.take i).map Prod.snd ∧ RowsAt R H' M) ⟨same_upd nlr, [], upd_same, rfl, fun x h => absurd h List.not_mem_nil⟩ (fun i H' _ z => SqL.of (z.1 _ _ e4)) ?_ ?_
    · rintro i x H' hx ⟨s5, M, e5, hM, rM⟩
      obtain ⟨y, hy, rfl⟩ := refs_get hx
      have fy := (hL y (List.mem_of_getElem? hy)).same s5
      refine ⟨rfl, _, rfl, y.1, _, _, _, rfl, rfl, SqT.of fy.1, rfl, _, rfl, y.1, _, _, _, rfl, rfl, SqT.of fy.1, rfl, ?_⟩
      intro r dr nr ndr ner
      refine row_goodP (NV.fv y.2.1) (NV.fv y.2.2) (okf_fv fy.2.1.1) (okf_fv fy.2.1.2) nr ndr fun H6 s6 h6 => ?_
      have e6 := s6 _ _ e5
      obtain ⟨dx6, g6⟩ := id h6
      have up : ∀ {z : Addr} {u v : V}, RowAt R H6 z u v → RowAt R (upd H6 lr (.lst (refs M ++ [V.ref r]))) z u v := fun {z u v} hz => by
        obtain ⟨dz, gz⟩ := hz
        exact ⟨dz, by rw [upd_ne (ins_lst gz e6)]; exact gz⟩
      have hi : i < L.length := (List.getElem?_eq_some_iff.mp hy).1
      refine ⟨_, e6, ?_, fun b o eb => ?_, M ++ [(r, y.2)], ?_, ?_, ?_⟩
      · rw [refs_len]
        have := congrArg List.length hM
        rw [List.length_map, List.length_map, List.length_take] at this
        exact Nat.lt_of_le_of_lt (show M.length ≤ 7 by omega) (by decide)
      · rw [upd_ne (ne_of_none eb nlr)]
        exact s6 _ _ (s5 _ _ eb)
      · rw [upd_same, refs_append]
        rfl
      · rw [List.map_append, hM, List.take_add_one, hy, List.map_append]
        rfl
      · intro x hx
        rcases List.mem_append.mp hx with h | h
        · exact ⟨up ((rM x h).1.same s6), (rM x h).2⟩
        · rw [List.mem_singleton.mp h]
          exact ⟨up h6, fy.2.1⟩
    rintro H5 ⟨s5, M, e5, hM, rM⟩
    rw [refs_len, List.take_length] at hM
    have hM7 : M.length ≤ 7 := by rw [map_snd_len hM]; exact hL7
    -- the page
    refine ⟨_, rfl, ?_⟩
    intro pg dpg npg ndpg nepg
    refine ⟨H5, pg, dpg, lr, M, rfl, made_same npg ndpg, npg, upd_same, SqL.of e5, hM7, rM, fun H6 lp s6 nlp pg6 elp => ⟨rfl, ?_⟩⟩
    -- chain, moments
    refine ⟨Nat.zero_le _, fun l0 nl0 => ⟨by show 1 ≤ sizeLine; decide, fun ch nch => ?_⟩⟩
    intro m0 dm0 nm0 ndm0 nem0
    refine ⟨_, m0, dm0, 0, rfl, by decide, made_same nm0 ndm0, nm0, upd_same, fun H7 s7 em0 => ⟨rfl, (by show 1 ≤ sizeLine; decide), fun ml nml => ?_⟩⟩
    generalize hH8 : upd H7 ml (HO.lst [V.ref m0]) = H8
    -- what stands ahead of the chain
    have s67 : Same H6 H7 := ((same_upd nl0).trans (same_upd nch)).trans s7
    have s56 : Same H5 H6 := s6
    have P6 : Pot H6 p c := (P4.same s5).same s6
    have P7 : Pot H7 p c := P6.same s67
    have n6ch : H6 ch = none := none_of (same_upd nl0) nch
    have n6ml : H6 ml = none := none_of s67 nml
    have olr := off P4 nlr
    have olp := off (P4.same s5) nlp
    have fz0 : ∀ b o, b ≠ p → b ≠ c → H6 b = some o → b ∉ [p, c, ch, ml] ∧ H8 b = some o := fun b o h1 h2 e => by
      have h3 := ne_of_none e n6ch
      have h4 := ne_of_none e n6ml
      refine ⟨?_, by rw [← hH8, upd_ne h4]; exact s67 _ _ e⟩
      intro z
      simp only [List.mem_cons, List.not_mem_nil, or_false] at z
      rcases z with z | z | z | z
      · exact h1 z
      · exact h2 z
      · exact h3 z
      · exact h4 z
    have kp : ∀ {b C dx fs}, H6 b = some (.ins C dx fs) → b ≠ p ∧ b ≠ c := fun {b C dx fs} e => by
      obtain ⟨cs, at_, x, h1, h2, _⟩ := P6
      exact ⟨ins_lst e h1, ins_lst e h2⟩
    have ech7 : H7 ch = some (.lst [.ref l0]) := s7 _ _ upd_same
    have el07 : H7 l0 = some (.lst []) := s7 _ _ ((same_upd nch) _ _ upd_same)
    have chml : ch ≠ ml := ne_of_none ech7 nml
    have och := off (P6.same (same_upd nl0)) nch
    have oml := off P7 nml
    have L0 : Lp C H8 H8 p c ch ml [(l0, [])] [(m0, 0)] 0 0 := by
      have n0 : l0 ≠ ch := ne_of_none (upd_same (H := H6) (a := l0)) nch
      have z1 : l0 ∉ [p, c, ch, ml] := by
        have o := off P6 nl0
        have o2 := ne_of_none el07 nml
        simp [o.1, o.2, n0, o2]
      have z2 : m0 ∉ [p, c, ch, ml] := by
        have o := off ((P6.same (same_upd nl0)).same (same_upd nch)) nm0
        have o2 := ne_of_none em0 nml
        have o3 := ne_of_none (upd_same (H := upd H6 l0 (.lst [])) (a := ch) (o := .lst [.ref l0])) nm0
        simp [o.1, o.2, o3.symm, o2]
      have hm : MoAt C H8 m0 0 := ⟨by decide, dm0, by rw [← hH8, upd_ne (ne_of_none em0 nml)]; exact em0⟩
      refine { pot := by rw [← hH8]; exact P7.same (same_upd nml), ne := ⟨och.1, och.2, oml.1, oml.2, chml⟩, keep := KeepL.rfl', lenC := rfl, lenM := rfl, eC := by rw [← hH8, upd_ne chml]; exact ech7, eM := by rw [← hH8]; exact upd_same, hC := ?_, hM := ?_, rl := ?_, gr := ?_ }
      · intro x hx
        rw [List.mem_singleton.mp hx]
        exact ⟨by rw [← hH8, upd_ne (ne_of_none el07 nml)]; exact el07, z1, Nat.le_refl _⟩
      · intro x hx
        rw [List.mem_singleton.mp hx]
        exact ⟨hm, z2⟩
      · intro k x y hx hy
        cases k with
        | zero => cases hx; cases hy; exact rel_nil
        | succ k => cases hx
      · intro i j x y hij hx hy k hk
        cases i with
        | zero => cases hx; cases hk
        | succ i => cases hx
    have P8 := L0.pot
    refine ⟨_, rfl, p, c, 40, rfl, P8, by decide, by decide, fun H9 d9 P9 K9 d90 d91 => ⟨d9, rfl, by omega, by omega, ?_⟩⟩
    refine for_range (n := d9.toNat) (fun i σ H' => ∃ (v2 v8 : Option V) (Cs : Obs (List Nat)) (Ms : Obs Nat), σ = [some (.ref a), some (.ref p), v2, some (.ref lf), some (.ref lr), some (.ref pg), some (.ref ch), some (.ref ml), v8, none, none, none, none, none] ∧ Lp C H8 H' p c ch ml Cs Ms i i) ⟨_, _, _, _, rfl, L0.draw P9 K9⟩ ?_ ?_
    · rintro i σ H' hi ⟨v2, v8, Cs, Ms, rfl, hL'⟩
      have hi40 : i < 40 := by omega
      refine ⟨_, rfl, p, c, 31, rfl, hL'.pot, by decide, by decide, fun H10 w10 P10 K10 w0 w1 => ?_⟩
      have h10 := hL'.draw P10 K10
      obtain ⟨wn, rfl⟩ := Int.eq_ofNat_of_zero_le w0
      have hwn : wn ≤ 30 := by omega
      obtain ⟨Cs0, ⟨n0, c0⟩, eCs⟩ := snoc_of h10.lenC
      obtain ⟨Ms0, ⟨q0, m⟩, eMs⟩ := snoc_of h10.lenM
      have hc0 := h10.hC (n0, c0) (by rw [eCs]; simp)
      have hq0 := h10.hM (q0, m) (by rw [eMs]; simp)
      have e10 : H10 ch = some (.lst (refs Cs0 ++ [.ref n0])) := by rw [h10.eC, eCs, refs_append]; rfl
      refine ⟨_, rfl, .inl ⟨rfl, _, SqL.of e10⟩, _, rfl, 1, rfl, ch, _, _, _, rfl, rfl, SqL.of e10, atI_last _ _, _, rfl, (by show 1 ≤ sizeLine; decide), fun n1 nn1 => ?_⟩
      have h11 := h10.same (same_upd (o := .lst [.int (wn : Nat)]) nn1)
      have hc1 := h11.hC (n0, c0) (by rw [eCs]; simp)
      refine ⟨n0, n1, _, _, rfl, rfl, hc1.1, upd_same, ?_, fun n2 nn2 => ?_⟩
      · rw [List.length_map]
        exact Nat.le_trans (Nat.add_le_add_right (Nat.le_trans hc1.2.2 (Nat.le_of_lt hi40)) 1) (by decide)
      have h12 := h11.same (same_upd (o := .lst (c0.map vi ++ [V.int (wn : Nat)])) nn2)
      have o2 := off4 h11.pot h11.eC h11.eM nn2
      refine ⟨ch, refs Cs, _, rfl, rfl, h12.eC, ?_, ?_⟩
      · rw [refs_len, h12.lenC]
        exact Nat.lt_of_le_of_lt (show i + 1 ≤ 40 by omega) (by decide)
      have h13 := h12.pushC (Nat.le_refl _) (n := n2) (w := wn) eCs (by rw [upd_same, List.map_append]; rfl) o2
      have e13 : (upd (upd (upd H10 n1 (.lst [.int (wn : Nat)])) n2 (.lst (c0.map vi ++ [V.int (wn : Nat)]))) ch (.lst (refs Cs ++ [.ref n2]))) ml = some (.lst (refs Ms0 ++ [.ref q0])) := by rw [h13.eM, eMs, refs_append]; rfl
      have hq3 := h13.hM (q0, m) (by rw [eMs]; simp)
      obtain ⟨hm3, dq, eq3⟩ := id hq3.1
      refine ⟨_, rfl, .inl ⟨rfl, _, SqL.of e13⟩, _, rfl, 1, rfl, ml, _, _, _, rfl, rfl, SqL.of e13, atI_last _ _, _, rfl, ⟨q0, dq, _, rfl, eq3⟩, .inr ⟨_, rfl⟩, q0, m, 2 ^ wn, _, rfl, hq3.1, ⟨two_pow_lt (by omega), .inr ⟨wn, rfl, hwn, rfl⟩⟩, fun H14 q2 s14 nq2 hq2 => ?_⟩
      have o3 := off4 h13.pot h13.eC h13.eM nq2
      have h14 := h13.same s14
      refine ⟨ml, refs Ms, _, rfl, rfl, h14.eM, ?_, ?_⟩
      · rw [refs_len, h14.lenM]
        exact Nat.lt_of_le_of_lt (show i + 1 ≤ 40 by omega) (by decide)
      have hx : (Cs ++ [(n2, c0 ++ [wn])])[i + 1]? = some (n2, c0 ++ [wn]) := by rw [← h10.lenC]; simp
      have hr0 : rel m c0 := h10.rl i (n0, c0) (q0, m) (by
        have : Cs0.length = i := by have := h10.lenC; rw [eCs] at this; simpa using this
        rw [eCs, ← this]; simp) (by
        have : Ms0.length = i := by have := h10.lenM; rw [eMs] at this; simpa using this
        rw [eMs, ← this]; simp)
      exact ⟨_, _, _, _, rfl, h14.pushM hx (rel_snoc hr0 hwn) hq2 o3⟩
    · rintro σ Hc ⟨v2, v8, Cs, Ms, rfl, hLp⟩
      have n41 : Cs.length ≤ 41 := by rw [hLp.lenC]; omega
      have lCM : Ms.length = Cs.length := by rw [hLp.lenC, hLp.lenM]
      have fz : ∀ {b o}, b ≠ p → b ≠ c → H6 b = some o → Hc b = some o := fun {b o} h1 h2 e => by
        obtain ⟨g1, g2⟩ := fz0 b o h1 h2 e
        exact hLp.keep _ _ g1 g2
      have s46 : Same H4 H6 := s5.trans s56
      have fzi : ∀ {b D dx fs}, H6 b = some (.ins D dx fs) → Hc b = some (.ins D dx fs) := fun {b D dx fs} e => fz (kp e).1 (kp e).2 e
      have elf : Hc lf = some (.lst (refs L)) := fz olf.1 olf.2 (s46 _ _ e4)
      have elr : Hc lr = some (.lst (refs M)) := fz olr.1 olr.2 (s56 _ _ e5)
      have epg := fzi pg6
      have elp2 := fz olp.1 olp.2 elp
      have hF : ∀ x ∈ L, Hc x.1 = some (.tup [fv x.2.1, fv x.2.2]) ∧ fokP x.2 := fun x hx => ⟨fz (hL x hx).2.2.1 (hL x hx).2.2.2 (s46 _ _ (hL x hx).1), (hL x hx).2.1⟩
      have hR : RowsAt R Hc M := fun x hx => by
        obtain ⟨⟨dx, g⟩, f⟩ := rM x hx
        exact ⟨⟨dx, fzi (s56 _ _ g)⟩, f⟩
      have hP : PageAt PC Hc pg M := ⟨_, lp, epg, elp2⟩
      have hCh : ChainAt Hc ch Cs := ⟨hLp.eC, fun x hx => (hLp.hC x hx).1⟩
      have eml := hLp.eM
      have hMs : ∀ y ∈ Ms, MoAt C Hc y.1 y.2 := fun y hy => (hLp.hM y hy).1
      have hrl := hLp.rl
      have hgr := hLp.gr
      have hML : ∀ (k : Nat) (x : Addr × Fl), M[k]? = some x → ∃ y, L[k]? = some y ∧ y.2 = x.2 := fun k x hx => by
        have := congrArg (fun z => z[k]?) hM
        simp only [List.getElem?_map, hx, Option.map] at this
        cases e : L[k]? with
        | none => rw [e] at this; cases this
        | some y => rw [e] at this; exact ⟨y, rfl, by simpa using this.symm⟩
      clear hLp fz fzi fz0 L0 P8
      -- stretches
      refine ⟨_, rfl, lf, rfl, ⟨_, SqL.of elf⟩, fun ls nls => ?_⟩
      refine lc_list (K := K) (a := lf) (xs := refs L) (fun i H' => Same Hc H' ∧ ∃ T : Obs (List Nat), H' ls = some (.lst (refs T)) ∧ T.map Prod.snd = (L.take i).map (fun x => stretch x.2.1 x.2.2 (Cs.map Prod.snd)) ∧ ∀ x ∈ T, H' x.1 = some (.lst (x.2.map vi)) ∧ x.1 ≠ ls) ⟨same_upd nls, [], upd_same, rfl, fun x h => absurd h List.not_mem_nil⟩ (fun i H' _ z => SqL.of (z.1 _ _ elf)) ?_ ?_
      · rintro i x H' hx ⟨s1, T, eT, hT, hTe⟩
        obtain ⟨y, hy, rfl⟩ := refs_get hx
        have fy := hF y (List.mem_of_getElem? hy)
        refine ⟨rfl, _, rfl, _, rfl, ch, y.1, Cs, y.2.1, y.2.2, rfl, hCh.same s1, n41, hgr, s1 _ _ fy.1, fun H2 l s2 nl el => ?_⟩
        have e2 := s2 _ _ eT
        have hi : i < L.length := (List.getElem?_eq_some_iff.mp hy).1
        have lne : l ≠ ls := (ne_of_none eT nl).symm
        refine ⟨_, e2, ?_, fun b o eb => ?_, T ++ [(l, stretch y.2.1 y.2.2 (Cs.map Prod.snd))], ?_, ?_, ?_⟩
        · rw [refs_len]
          have := congrArg List.length hT
          rw [List.length_map, List.length_map, List.length_take] at this
          exact Nat.lt_of_le_of_lt (show T.length ≤ 7 by omega) (by decide)
        · rw [upd_ne (ne_of_none eb nls)]
          exact s2 _ _ (s1 _ _ eb)
        · rw [upd_same, refs_append]
          rfl
        · rw [List.map_append, hT, List.take_add_one, hy, List.map_append]
          rfl
        · intro x hx
          rcases List.mem_append.mp hx with h | h
          · refine ⟨?_, (hTe x h).2⟩
            rw [upd_ne (hTe x h).2]
            exact s2 _ _ (hTe x h).1
          · rw [List.mem_singleton.mp h]
            exact ⟨by show (upd H2 ls _) l = _; rw [upd_ne lne]; exact el, lne⟩
      rintro Hd ⟨s1, T, eT, hT, hTe⟩
      rw [refs_len, List.take_length] at hT
      have hTk : ∀ (k : Nat) (x : Addr × Fl), L[k]? = some x → ∃ t, T[k]? = some (t, stretch x.2.1 x.2.2 (Cs.map Prod.snd)) ∧ Hd t = some (.lst ((stretch x.2.1 x.2.2 (Cs.map Prod.snd)).map vi)) := fun k x hx => by
        have := congrArg (fun z => z[k]?) hT
        simp only [List.getElem?_map, hx, Option.map] at this
        cases e : T[k]? with
        | none => rw [e] at this; cases this
        | some y =>
          rw [e] at this
          obtain ⟨t, st⟩ := y
          have e2 : st = stretch x.2.1 x.2.2 (Cs.map Prod.snd) := by simpa using this
          subst e2
          exact ⟨t, rfl, (hTe _ (List.mem_of_getElem? e)).1⟩
      have lTL : T.length = L.length := by
        have := congrArg List.length hT
        rwa [List.length_map, List.length_map] at this
      have lML := map_snd_len hM
      have elf := s1 _ _ elf
      have elr := s1 _ _ elr
      have hF : ∀ x ∈ L, Hd x.1 = some (.tup [fv x.2.1, fv x.2.2]) ∧ fokP x.2 := fun x hx => ⟨s1 _ _ (hF x hx).1, (hF x hx).2⟩
      have hR := hR.same s1
      have hP := hP.same s1
      have hCh := hCh.same s1
      have eml := s1 _ _ eml
      have hMs : ∀ y ∈ Ms, MoAt C Hd y.1 y.2 := fun y hy => (hMs y hy).same s1
      refine ⟨_, rfl, lr, _, rfl, .inl (SqL.of elr), ?_⟩
      rw [refs_len]
      refine ⟨((M.length : Nat) : Int), rfl, by omega, by omega, ?_⟩
      have tnM : (((M.length : Nat) : Int)).toNat = M.length := Int.toNat_natCast _
      refine for_range (n := (((M.length : Nat) : Int)).toNat) (fun i σ H' => ∃ (v2 v11 : Option V), σ = [some (.ref a), some (.ref p), v2, some (.ref lf), some (.ref lr), some (.ref pg), some (.ref ch), some (.ref ml), v8, some (.ref ls), none, v11, none, none] ∧ Same Hd H') ⟨_, _, rfl, Same.refl _⟩ ?_ ?_
      · rintro i σ H' hi ⟨v2, v11, rfl, s2⟩
        rw [tnM] at hi
        have hMi : M[i]? = some M[i] := List.getElem?_eq_getElem hi
        obtain ⟨yL, hLi, eyx⟩ := hML i _ hMi
        obtain ⟨ti, hTi, eti⟩ := hTk i yL hLi
        generalize M[i] = r at hMi eyx
        obtain ⟨ra, q⟩ := r
        obtain ⟨fa, q'⟩ := yL
        cases eyx
        have hRi := hR (ra, q) (List.mem_of_getElem? hMi)
        have hFi := hF (fa, q) (List.mem_of_getElem? hLi)
        have lC : (Cs.map Prod.snd).length = Cs.length := List.length_map _
        have i0 : (0 : Int) + (i : Int) = ((i : Nat) : Int) := Int.zero_add _
        refine ⟨_, rfl, ch, _, rfl, .inl (SqL.of (s2 _ _ hCh.1)), ?_⟩
        rw [refs_len]
        refine ⟨((Cs.length : Nat) : Int), rfl, by omega, by omega, fun D hD => ?_⟩
        have tnC : (((Cs.length : Nat) : Int)).toNat = Cs.length := Int.toNat_natCast _
        refine lc_range (lo := 0) (n := (((Cs.length : Nat) : Int)).toNat) (fun j H3 => Same H' H3 ∧ H3 D = some (.lst (((List.range j).filter fun z => bg q.1 ((Cs.map Prod.snd).getD z []) && !ov q.2 ((Cs.map Prod.snd).getD z [])).map vi))) ⟨same_upd hD, upd_same⟩ ?_ ?_
        · rintro j H3 hj ⟨s3, e3⟩
          rw [tnC] at hj
          have s23 := s2.trans s3
          have hcj : Cs[j]? = some Cs[j] := List.getElem?_eq_getElem hj
          have hmj : Ms[j]? = some (Ms[j]'(by omega)) := List.getElem?_eq_getElem (by omega)
          generalize Cs[j] = cj at hcj
          generalize Ms[j]'(by omega) = mj at hmj
          have hr := hrl j cj mj hcj hmj
          have j0 : (0 : Int) + (j : Int) = ((j : Nat) : Int) := Int.zero_add _
          have ej : sees q.1 q.2 mj.2 = (bg q.1 ((Cs.map Prod.snd).getD j []) && !ov q.2 ((Cs.map Prod.snd).getD j [])) := by rw [getD_snd hcj]; exact rel_sees hr _ _
          obtain ⟨⟨dr, gr⟩, fr1, fr2⟩ := hRi
          refine ⟨rfl, _, rfl, _, rfl, lr, _, _, _, rfl, rfl, SqL.of (s23 _ _ elr), by rw [i0]; exact atI_nat (refs_at hMi), ra, dr, _, rfl, s23 _ _ gr, rfl, _, rfl, _, rfl, ml, _, _, _, rfl, rfl, SqL.of (s23 _ _ eml), by rw [j0]; exact atI_nat (refs_at hmj), ra, mj.1, mj.2, q.1, q.2, rfl, ⟨dr, s23 _ _ gr⟩, fr1, fr2, (hMs mj (List.mem_of_getElem? hmj)).same s23, _, rfl, ?_⟩
          rw [ej]
          have ev : V.int ((0 : Int) + (j : Int)) = vi j := by rw [j0]; rfl
          by_cases hb : (bg q.1 ((Cs.map Prod.snd).getD j []) && !ov q.2 ((Cs.map Prod.snd).getD j [])) = true
          · rw [hb]
            refine iteT ⟨_, rfl, _, e3, Nat.lt_of_le_of_lt (filter_range_len _ _) (Nat.lt_of_lt_of_le hj (Nat.le_trans n41 (by decide))), fun b o eb => ?_, ?_⟩
            · rw [upd_ne (ne_of_none eb hD)]
              exact s3 _ _ eb
            · rw [upd_same, filter_range_succ, if_pos hb, List.map_append, ev]
              rfl
          · have hb' := Bool.not_eq_true _ ▸ hb
            rw [hb']
            refine iteF ⟨s3, ?_⟩
            rw [filter_range_succ, if_neg hb]
            exact e3
        rintro H3 ⟨s3, e3⟩
        rw [tnC] at e3
        have s23 := s2.trans s3
        have e3 : H3 D = some (.lst ((stretch q.1 q.2 (Cs.map Prod.snd)).map vi)) := by
          rw [e3]; unfold stretch; rw [lC]
        have eti3 := s23 _ _ eti
        refine ⟨_, rfl, _, rfl, _, rfl, ls, _, _, _, rfl, rfl, SqL.of (s23 _ _ eT), by rw [i0]; exact atI_nat (refs_at hTi), _, _, dp_vi e3, dp_vi eti3, shp_dk _, shp_dk _, false, ?_, iteF ?_⟩
        · rw [SeqAt.eqv_refl _ (can_dkl _)]
          rfl
        obtain ⟨b, e⟩ := q
        have nonb : ∀ k : Nat, decide (fv (some k) = V.non) = false := fun k => decide_eq_false fun z => by cases z
        have gf : atI (refs L) (0 + (i : Int)) = some (V.ref fa) := by rw [i0]; exact atI_nat (refs_at hLi)
        have tF : H3 fa = some (.tup [fv b, fv e]) := s23 _ _ hFi.1
        refine ⟨_, rfl, _, rfl, lf, _, _, _, rfl, rfl, SqL.of (s23 _ _ elf), gf, fa, _, _, _, rfl, rfl, SqT.of tF, rfl, rfl, _, rfl, ?_⟩
        cases b with
        | none => exact iteF ⟨_, _, rfl, s23⟩
        | some k =>
          rw [nonb]
          refine iteT ⟨_, rfl, _, rfl, lf, _, _, _, rfl, rfl, SqL.of (s23 _ _ elf), gf, fa, _, _, _, rfl, rfl, SqT.of tF, rfl, _, rfl, _, rfl, lf, _, _, _, rfl, rfl, SqL.of (s23 _ _ elf), gf, fa, _, _, _, rfl, rfl, SqT.of tF, rfl, scal_fv _ _, _, rfl, ?_⟩
          by_cases hk : fv (some k) = fv e
          · rw [decide_eq_true hk]
            have := fv_inj.mp hk
            subst this
            rw [stretch_same] at e3
            refine iteT ⟨_, rfl, by show 0 ≤ sizeLine; decide, fun l5 n5 => ?_⟩
            have s5' := same_upd (o := .lst []) n5
            exact ⟨_, _, .lst (SqL.of (s5' _ _ e3)) .nil, .lst (SqL.of upd_same) .nil, rfl, rfl, _, rfl, iteF ⟨_, _, rfl, s23.trans s5'⟩⟩
          · rw [decide_eq_false hk]
            exact iteF ⟨_, _, rfl, s23⟩
      rintro σ He ⟨v2, v11, rfl, s2⟩
      clear elf
      have elr := s2 _ _ elr
      have hR := hR.same s2
      have hP := hP.same s2
      have hCh := hCh.same s2
      have eml := s2 _ _ eml
      have hMs : ∀ y ∈ Ms, MoAt C He y.1 y.2 := fun y hy => (hMs y hy).same s2
      have eT := s2 _ _ eT
      have hM7' : M.length ≤ 7 := hM7
      refine ⟨_, rfl, ch, _, rfl, .inl (SqL.of hCh.1), ?_⟩
      rw [refs_len]
      refine ⟨((Cs.length : Nat) : Int), rfl, by omega, by omega, ?_⟩
      have tnC : (((Cs.length : Nat) : Int)).toNat = Cs.length := Int.toNat_natCast _
      refine for_range (n := (((Cs.length : Nat) : Int)).toNat) (fun i σ H' => ∃ (v10 v12 : Option V), σ = [some (.ref a), some (.ref p), v2, some (.ref lf), some (.ref lr), some (.ref pg), some (.ref ch), some (.ref ml), v8, some (.ref ls), v10, v11, v12, none] ∧ Same He H') ⟨_, _, rfl, Same.refl _⟩ ?_ ?_
      · rintro j σ H' hj ⟨v10, v12, rfl, s3⟩
        rw [tnC] at hj
        have j0 : (0 : Int) + (j : Int) = ((j : Nat) : Int) := Int.zero_add _
        have hcj : Cs[j]? = some Cs[j] := List.getElem?_eq_getElem hj
        have hmj : Ms[j]? = some (Ms[j]'(by omega)) := List.getElem?_eq_getElem (by omega)
        generalize Cs[j] = cj at hcj
        generalize Ms[j]'(by omega) = mj at hmj
        have hr := hrl j cj mj hcj hmj
        have lC : (Cs.map Prod.snd).length = Cs.length := List.length_map _
        -- due
        refine ⟨_, rfl, lr, _, rfl, .inl (SqL.of (s3 _ _ elr)), ?_⟩
        rw [refs_len]
        refine ⟨((M.length : Nat) : Int), rfl, by omega, by omega, fun D hD => ?_⟩
        have tnM : (((M.length : Nat) : Int)).toNat = M.length := Int.toNat_natCast _
        have hsee : ∀ (i : Nat) (x : Addr × Fl), M[i]? = some x → ∃ t, T[i]? = some t ∧ He t.1 = some (.lst (t.2.map vi)) ∧ decide (j ∈ t.2) = sees x.2.1 x.2.2 mj.2 := fun i x hx => by
          obtain ⟨y, hy, ey⟩ := hML i x hx
          obtain ⟨t, ht, et⟩ := hTk i y hy
          refine ⟨_, ht, s2 _ _ et, ?_⟩
          rw [rel_sees hr, ← getD_snd hcj, ← ey]
          exact stretch_mem (by rw [lC]; exact hj)
        have es : ∃ g : Nat → Bool, (∀ i x, M[i]? = some x → g i = !sees x.2.1 x.2.2 mj.2) ∧ decide ((List.range M.length).filter g = []) = M.all fun x => sees x.2.1 x.2.2 mj.2 := by
          refine ⟨fun i => match M[i]? with | some x => !sees x.2.1 x.2.2 mj.2 | none => false, fun i x h => by simp only [h], ?_⟩
          rw [Bool.eq_iff_iff, decide_eq_true_iff, List.filter_eq_nil_iff, List.all_eq_true]
          constructor
          · intro h x hx
            obtain ⟨i, hi⟩ := List.mem_iff_getElem?.mp hx
            have := h i (List.mem_range.mpr (List.getElem?_eq_some_iff.mp hi).1)
            simp only [hi] at this
            simpa using this
          · intro h i hi
            have hi := List.mem_range.mp hi
            have := h M[i] (List.getElem_mem hi)
            simp only [List.getElem?_eq_getElem hi]
            simpa using this
        obtain ⟨g, hg, eg⟩ := es
        refine lc_range (lo := 0) (n := (((M.length : Nat) : Int)).toNat) (fun i H3 => Same H' H3 ∧ H3 D = some (.lst (((List.range i).filter g).map vi))) ⟨same_upd hD, upd_same⟩ ?_ ?_
        · rintro i H3 hi ⟨s4, e4⟩
          rw [tnM] at hi
          have s34 := s3.trans s4
          have hMi : M[i]? = some M[i] := List.getElem?_eq_getElem hi
          generalize M[i] = r at hMi
          obtain ⟨t, hTi, eti, etj⟩ := hsee i r hMi
          have i0 : (0 : Int) + (i : Int) = ((i : Nat) : Int) := Int.zero_add _
          have gt : atI (refs T) (0 + (i : Int)) = some (V.ref t.1) := by rw [i0]; exact atI_nat (refs_at hTi)
          refine ⟨rfl, _, rfl, _, rfl, _, rfl, ls, _, _, _, rfl, rfl, SqL.of (s34 _ _ eT), gt, t.1, _, rfl, .inl (SqL.of (s34 _ _ eti)), rfl, flat_vi _, _, rfl, ?_⟩
          have ev : V.int ((0 : Int) + (j : Int)) = vi j := by rw [j0]; rfl
          have ev2 : V.int ((0 : Int) + (i : Int)) = vi i := by rw [i0]; rfl
          show if (if true = true then !inV (V.int (0 + (j : Int))) (t.2.map vi) else inV (V.int (0 + (j : Int))) (t.2.map vi)) = true then _ else _
          rw [if_pos rfl, ev, inV_vi, etj, ← hg i r hMi]
          by_cases hb : g i = true
          · rw [hb]
            refine iteT ⟨_, rfl, _, e4, Nat.lt_of_le_of_lt (filter_range_len _ _) (Nat.lt_of_lt_of_le hi (Nat.le_trans hM7 (by decide))), fun b o eb => ?_, ?_⟩
            · rw [upd_ne (ne_of_none eb hD)]
              exact s4 _ _ eb
            · rw [upd_same, filter_range_succ, if_pos hb, List.map_append, ev2]
              rfl
          · have hb' := Bool.not_eq_true _ ▸ hb
            rw [hb']
            refine iteF ⟨s4, ?_⟩
            rw [filter_range_succ, if_neg hb]
            exact e4
        rintro H3 ⟨s4, e4⟩
        rw [tnM] at e4
        refine ⟨by show 0 ≤ sizeLine; decide, fun l5 n5 => ?_⟩
        have s5' := same_upd (o := .lst []) n5
        have s35 := (s3.trans s4).trans s5'
        refine ⟨_, _, dp_vi (s5' _ _ e4), .lst (SqL.of upd_same) .nil, shp_dk _, rfl, ?_⟩
        have ee : PyData.eqv (.list (((List.range M.length).filter g).map dk)) (.list []) = M.all fun x => sees x.2.1 x.2.2 mj.2 := by rw [← eg]; exact eqv_dk _ []
        rw [ee]
        have hPx := hP.same s35
        obtain ⟨dpg2, lp2, ep2, _⟩ := id hPx
        have tj : atI (refs Ms) (0 + (j : Int)) = some (V.ref mj.1) := by rw [j0]; exact atI_nat (refs_at hmj)
        have hmo := hMs mj (List.mem_of_getElem? hmj)
        refine ⟨_, rfl, pg, _, _, rfl, ep2, rfl, _, rfl, _, rfl, ml, _, _, _, rfl, rfl, SqL.of (s35 _ _ eml), tj, pg, mj.1, mj.2, M, rfl, hPx, hR.same s35, hM7, hmo.same s35, fun H6' s6' => ⟨_, rfl, rfl, _, rfl, ?_⟩⟩
        rw [decide_eq_true (rfl : V.bl (M.all fun x => sees x.2.1 x.2.2 mj.2) = _)]
        have s36 := s35.trans s6'
        refine iteF ⟨_, rfl, _, _, rfl, rfl, _, rfl, ?_⟩
        by_cases h0 : j = 0
        · subst h0
          exact iteF ⟨_, _, rfl, s36⟩
        · rw [decide_eq_true (show (0 : Int) < 0 + (j : Int) by omega)]
          have hmk : Ms[j - 1]? = some (Ms[j - 1]'(by omega)) := List.getElem?_eq_getElem (by omega)
          have hck : Cs[j - 1]? = some (Cs[j - 1]'(by omega)) := List.getElem?_eq_getElem (by omega)
          generalize Ms[j - 1]'(by omega) = mk at hmk
          generalize Cs[j - 1]'(by omega) = ck at hck
          have tk : atI (refs Ms) (0 + (j : Int) - 1) = some (V.ref mk.1) := by
            rw [show (0 : Int) + (j : Int) - 1 = ((j - 1 : Nat) : Int) by omega]
            exact atI_nat (refs_at hmk)
          have hmok := (hMs mk (List.mem_of_getElem? hmk)).same s36
          have hmo' := hmo.same s36
          obtain ⟨_, dk1, ek1⟩ := id hmok
          obtain ⟨_, dk2, ek2⟩ := id hmo'
          have hle : gLe mk.2 mj.2 = true := rel_le (hrl _ _ _ hck hmk) hr (hgr (j - 1) j ck.2 cj.2 (by omega) (by rw [List.getElem?_map, hck]; rfl) (by rw [List.getElem?_map, hcj]; rfl))
          refine iteT ⟨_, rfl, _, rfl, _, _, rfl, rfl, ml, _, _, _, rfl, rfl, SqL.of (s36 _ _ eml), tk, _, rfl, _, rfl, ml, _, _, _, rfl, rfl, SqL.of (s36 _ _ eml), tj, ⟨mk.1, dk1, _, rfl, ek1⟩, ⟨mj.1, dk2, _, rfl, ek2⟩, mk.1, mj.1, mk.2, mj.2, rfl, hmok, hmo', true, by rw [hle], iteF ⟨_, _, rfl, s36⟩⟩
      · rintro σ Hf ⟨v10, v12, rfl, s3⟩
        have hPx := hP.same s3
        obtain ⟨dpg2, lp2, ep2, elp3⟩ := id hPx
        refine ⟨_, rfl, pg, _, _, rfl, ep2, rfl, pg, M, rfl, hPx, fun Hg lg sg nlg elg => ⟨_, rfl, ?_⟩⟩
        have elr3 := sg _ _ (s3 _ _ elr)
        refine ⟨⟨lg, lr, _, _, rfl, rfl, elg, elr3, rfl, ?_⟩, fun Hh sh => ⟨true, rfl, iteT ?_⟩⟩
        · intro k x y hx hy
          rw [hx] at hy
          cases hy
          obtain ⟨z, _, rfl⟩ := refs_get hx
          exact ⟨z.1, rfl, rfl⟩
        · have sgh : Same Hf Hh := sg.trans fun b o e => sh b o e
          refine ⟨_, rfl, ⟨pg, _, _, rfl, sgh _ _ ep2⟩, pg, M, rfl, hPx.same sgh, M.length, rfl, Nat.lt_of_le_of_lt hM7 (by decide), _, rfl, lr, _, rfl, .inl (SqL.of (sh _ _ elr3)), rfl, ?_⟩
          rw [refs_len, decide_eq_true rfl]
          exact q _
end
end Toy
set_option Elab.async false
set_option linter.all false
set_option maxRecDepth 100000
set_option maxHeartbeats 4000000
namespace Toy
open PySem PySem.Spec PyProof.Rows L2
section
variable {P : Program} {w : World} {K : PySem.W.Frag} {mg : Str → Option Value} {base : Heap} {R B f : Addr} {fd : FuncData}
abbrev RowD (K : PySem.W.Frag) (f : Addr) (fd : FuncData) : Prop := FunD K "__init__" "Row.__init__" (defArgs s_Row_init) (defBody s_Row_init) (defScope s_Row_init) [.non, .non] [] f fd
theorem row_b2 (F : RowD K f fd) : L2.Binds K fd ["self", "beginner", "ender"] [] := by
  obtain ⟨ds, hv, hb⟩ := F.binds1 (ps := ["self", "beginner", "ender"]) 3 2 (by simp) rfl (fun T kV doc pm an cdv ct us its hu hi => match us, hu, its, hi with | [_, _, _], _, [_, _], _ => ⟨_, rfl, rfl⟩)
  cases hv
  exact hb
theorem row_b1 (F : RowD K f fd) : ∃ u, RelV .non u ∧ L2.Binds K fd ["self", "beginner", "ender"] [u] := by
  obtain ⟨ds, hv, hb⟩ := F.binds1 (ps := ["self", "beginner", "ender"]) 2 1 (by simp) rfl (fun T kV doc pm an cdv ct us its hu hi => match us, hu, its, hi with | [_, _], _, [_, _], _ => ⟨_, rfl, rfl⟩)
  cases hv with
  | cons r1 r2 =>
    cases r2
    exact ⟨_, r1, hb⟩
theorem row_b0 (F : RowD K f fd) : ∃ u1 u2, RelV .non u1 ∧ RelV .non u2 ∧ L2.Binds K fd ["self", "beginner", "ender"] [u1, u2] := by
  obtain ⟨ds, hv, hb⟩ := F.binds1 (ps := ["self", "beginner", "ender"]) 1 0 (by simp) rfl (fun T kV doc pm an cdv ct us its hu hi => match us, hu, its, hi with | [_], _, [_, _], _ => ⟨_, rfl, rfl⟩)
  cases hv with
  | cons r1 r2 =>
    cases r2 with
    | cons r2 r3 =>
      cases r3
      exact ⟨_, _, r1, r2, hb⟩
theorem row_k2 (F : RowD K f fd) : ∃ g, KBn K fd ["self", "beginner", "ender"] 2 ["ender"] g (fun vs zs => vs ++ zs) := by
  obtain ⟨its, kb⟩ := F.kbindsD (ps := ["self", "beginner", "ender"]) 2 ["ender"] (fun us _ ws => us ++ ws) (by simp) (fun r1 _ r3 => r1.append r3) (fun T kV doc pm an cdv ct us its ws hu hi hw => match us, hu, its, hi, ws, hw with | [_, _], _, [_, _], _, [_], _ => ⟨_, rfl, rfl⟩)
  exact ⟨_, kb⟩
theorem row_k1 (F : RowD K f fd) : ∃ g, KBn K fd ["self", "beginner", "ender"] 1 ["ender"] g (fun vs zs => vs ++ ([.non] ++ zs)) := by
  obtain ⟨its, kb⟩ := F.kbindsD (ps := ["self", "beginner", "ender"]) 1 ["ender"] (fun us ds ws => us ++ (ds.take 1 ++ ws)) (by simp) (fun r1 r2 r3 => r1.append ((r2.take 1).append r3)) (fun T kV doc pm an cdv ct us its ws hu hi hw => match us, hu, its, hi, ws, hw with | [_], _, [_, _], _, [_], _ => ⟨_, rfl, rfl⟩)
  exact ⟨_, kb⟩
abbrev PageD (K : PySem.W.Frag) (f : Addr) (fd : FuncData) (dvs : List V) : Prop := FunD K "__init__" "Page.__init__" (defArgs s_Page_init) (defBody s_Page_init) (defScope s_Page_init) dvs [] f fd
theorem page_b1 {t : Addr} (F : PageD K f fd [.ref t]) : L2.Binds K fd ["self", "rows"] [] := by
  obtain ⟨ds, hv, hb⟩ := F.binds1 (ps := ["self", "rows"]) 2 1 (by simp) rfl (fun T kV doc pm an cdv ct us its hu hi => match us, hu, its, hi with | [_, _], _, [_], _ => ⟨_, rfl, rfl⟩)
  cases hv
  exact hb
end
end Toy
set_option Elab.async false
set_option linter.all false
set_option maxRecDepth 100000
set_option maxHeartbeats 4000000
namespace Toy
open PySem PySem.Spec PyProof.Rows L2
theorem all_mk {l : PySem.W.OpenLaw} {w : World} {K : PySem.W.Frag} {h : Heap} {mg : Str → Option Value} {fa f_is_whole f_is_between f_is_writer_number f_is_field f_law_pot f_law_draw f_law_writer f_law_stretch f_law C f_mi f_mc p_of f_of f_number_of f_or gOr f_le R f_ri t_dri f_rs D B f_iB PC t_emp f_pi t_dpi f_pr f_pa f_pl : Addr}  (X : K.In h) (G : h.Ns mainGlobals mg) (hfa : mg "law" = some (.ref fa))
    {od_is_whole an_is_whole : Option Addr} {sl_is_whole : Array (Option Value)} {oc_is_whole kV_is_whole dc_is_whole pm_is_whole cd_is_whole ct_is_whole : Value} {od_is_between an_is_between : Option Addr} {sl_is_between : Array (Option Value)} {oc_is_between kV_is_between dc_is_between pm_is_between cd_is_between ct_is_between : Value} {od_is_writer_number an_is_writer_number : Option Addr} {sl_is_writer_number : Array (Option Value)} {oc_is_writer_number kV_is_writer_number dc_is_writer_number pm_is_writer_number cd_is_writer_number ct_is_writer_number : Value} {od_is_field an_is_field : Option Addr} {sl_is_field : Array (Option Value)} {oc_is_field kV_is_field dc_is_field pm_is_field cd_is_field ct_is_field : Value} {od_law_pot an_law_pot : Option Addr} {sl_law_pot : Array (Option Value)} {oc_law_pot kV_law_pot dc_law_pot pm_law_pot cd_law_pot ct_law_pot : Value} {od_law_draw an_law_draw : Option Addr} {sl_law_draw : Array (Option Value)} {oc_law_draw kV_law_draw dc_law_draw pm_law_draw cd_law_draw ct_law_draw : Value} {od_law_writer an_law_writer : Option Addr} {sl_law_writer : Array (Option Value)} {oc_law_writer kV_law_writer dc_law_writer pm_law_writer cd_law_writer ct_law_writer : Value} {od_law_stretch an_law_stretch : Option Addr} {sl_law_stretch : Array (Option Value)} {oc_law_stretch kV_law_stretch dc_law_stretch pm_law_stretch cd_law_stretch ct_law_stretch : Value} {od_law an_law : Option Addr} {sl_law : Array (Option Value)} {oc_law kV_law dc_law pm_law cd_law ct_law : Value} {od_mi an_mi : Option Addr} {sl_mi : Array (Option Value)} {oc_mi kV_mi dc_mi pm_mi cd_mi ct_mi : Value} {od_mc an_mc : Option Addr} {sl_mc : Array (Option Value)} {oc_mc kV_mc dc_mc pm_mc cd_mc ct_mc : Value} {rest_of : List Value} {od_of an_of : Option Addr} {sl_of : Array (Option Value)} {oc_of kV_of dc_of pm_of cd_of ct_of : Value} {od_number_of an_number_of : Option Addr} {sl_number_of : Array (Option Value)} {oc_number_of kV_number_of dc_number_of pm_number_of cd_number_of ct_number_of : Value} {od_or an_or : Option Addr} {sl_or : Array (Option Value)} {oc_or kV_or dc_or pm_or cd_or ct_or : Value} {io1v io2v : Option Value} {od_le an_le : Option Addr} {sl_le : Array (Option Value)} {oc_le kV_le dc_le pm_le cd_le ct_le : Value} {tw tl : Tok} {od_ri an_ri : Option Addr} {sl_ri : Array (Option Value)} {oc_ri kV_ri dc_ri pm_ri cd_ri ct_ri dV_ri : Value} {tc_dri : Value} {to_dri : Option Addr} {ti_dri : Array Value} {tn_dri : Nat} {ts_dri : Array (Option Value)} {od_rs an_rs : Option Addr} {sl_rs : Array (Option Value)} {oc_rs kV_rs dc_rs pm_rs cd_rs ct_rs : Value} {nm_B qn_B : Str} {ns_B : Addr} {bs_B bm_B : List Value} {sn_B : List Str} {sb_B : List Value} {ab_B : Bool} {co_B : Option Bool} {dd_B : Option Addr} {m0_B m1_B m2_B m3_B m5_B : Option Value} {od_iB an_iB : Option Addr} {sl_iB : Array (Option Value)} {oc_iB kV_iB dc_iB pm_iB cd_iB ct_iB : Value} {od_pi an_pi : Option Addr} {sl_pi : Array (Option Value)} {oc_pi kV_pi dc_pi pm_pi cd_pi ct_pi dV_pi : Value} {tc_dpi : Value} {to_dpi : Option Addr} {ti_dpi : Array Value} {tn_dpi : Nat} {ts_dpi : Array (Option Value)} {od_pr an_pr : Option Addr} {sl_pr : Array (Option Value)} {oc_pr kV_pr dc_pr pm_pr cd_pr ct_pr : Value} {od_pa an_pa : Option Addr} {sl_pa : Array (Option Value)} {oc_pa kV_pa dc_pa pm_pa cd_pa ct_pa : Value} {od_pl an_pl : Option Addr} {sl_pl : Array (Option Value)} {oc_pl kV_pl dc_pl pm_pl cd_pl ct_pl : Value} {t7 : Tok}
    (a_is_whole : PySem.W.nsIn K mainGlobals "is_whole" = some (some (.ref f_is_whole)))
    (l_is_whole : K.lookup f_is_whole = some ⟨oc_is_whole, od_is_whole, .func (PySem.W.fnOf "is_whole" "is_whole" (defArgs s_is_whole) (defBody s_is_whole) (defScope s_is_whole) .none kV_is_whole dc_is_whole pm_is_whole an_is_whole cd_is_whole ct_is_whole), sl_is_whole⟩)
    (c_is_whole : PySem.W.codeIn K cd_is_whole "is_whole" = true)
    (k_is_whole : PySem.W.keepIn K (.ref f_is_whole) = true)
    (a_is_between : PySem.W.nsIn K mainGlobals "is_between" = some (some (.ref f_is_between)))
    (l_is_between : K.lookup f_is_between = some ⟨oc_is_between, od_is_between, .func (PySem.W.fnOf "is_between" "is_between" (defArgs s_is_between) (defBody s_is_between) (defScope s_is_between) .none kV_is_between dc_is_between pm_is_between an_is_between cd_is_between ct_is_between), sl_is_between⟩)
    (c_is_between : PySem.W.codeIn K cd_is_between "is_between" = true)
    (k_is_between : PySem.W.keepIn K (.ref f_is_between) = true)
    (a_is_writer_number : PySem.W.nsIn K mainGlobals "is_writer_number" = some (some (.ref f_is_writer_number)))
    (l_is_writer_number : K.lookup f_is_writer_number = some ⟨oc_is_writer_number, od_is_writer_number, .func (PySem.W.fnOf "is_writer_number" "is_writer_number" (defArgs s_is_writer_number) (defBody s_is_writer_number) (defScope s_is_writer_number) .none kV_is_writer_number dc_is_writer_number pm_is_writer_number an_is_writer_number cd_is_writer_number ct_is_writer_number), sl_is_writer_number⟩)
    (c_is_writer_number : PySem.W.codeIn K cd_is_writer_number "is_writer_number" = true)
    (k_is_writer_number : PySem.W.keepIn K (.ref f_is_writer_number) = true)
    (a_is_field : PySem.W.nsIn K mainGlobals "_is_field" = some (some (.ref f_is_field)))
    (l_is_field : K.lookup f_is_field = some ⟨oc_is_field, od_is_field, .func (PySem.W.fnOf "_is_field" "_is_field" (defArgs s_is_field) (defBody s_is_field) (defScope s_is_field) .none kV_is_field dc_is_field pm_is_field an_is_field cd_is_field ct_is_field), sl_is_field⟩)
    (c_is_field : PySem.W.codeIn K cd_is_field "_is_field" = true)
    (k_is_field : PySem.W.keepIn K (.ref f_is_field) = true)
    (a_law_pot : PySem.W.nsIn K mainGlobals "_law_pot" = some (some (.ref f_law_pot)))
    (l_law_pot : K.lookup f_law_pot = some ⟨oc_law_pot, od_law_pot, .func (PySem.W.fnOf "_law_pot" "_law_pot" (defArgs s_law_pot) (defBody s_law_pot) (defScope s_law_pot) .none kV_law_pot dc_law_pot pm_law_pot an_law_pot cd_law_pot ct_law_pot), sl_law_pot⟩)
    (c_law_pot : PySem.W.codeIn K cd_law_pot "_law_pot" = true)
    (k_law_pot : PySem.W.keepIn K (.ref f_law_pot) = true)
    (a_law_draw : PySem.W.nsIn K mainGlobals "_law_draw" = some (some (.ref f_law_draw)))
    (l_law_draw : K.lookup f_law_draw = some ⟨oc_law_draw, od_law_draw, .func (PySem.W.fnOf "_law_draw" "_law_draw" (defArgs s_law_draw) (defBody s_law_draw) (defScope s_law_draw) .none kV_law_draw dc_law_draw pm_law_draw an_law_draw cd_law_draw ct_law_draw), sl_law_draw⟩)
    (c_law_draw : PySem.W.codeIn K cd_law_draw "_law_draw" = true)
    (k_law_draw : PySem.W.keepIn K (.ref f_law_draw) = true)
    (a_law_writer : PySem.W.nsIn K mainGlobals "_law_writer" = some (some (.ref f_law_writer)))
    (l_law_writer : K.lookup f_law_writer = some ⟨oc_law_writer, od_law_writer, .func (PySem.W.fnOf "_law_writer" "_law_writer" (defArgs s_law_writer) (defBody s_law_writer) (defScope s_law_writer) .none kV_law_writer dc_law_writer pm_law_writer an_law_writer cd_law_writer ct_law_writer), sl_law_writer⟩)
    (c_law_writer : PySem.W.codeIn K cd_law_writer "_law_writer" = true)
    (k_law_writer : PySem.W.keepIn K (.ref f_law_writer) = true)
    (a_law_stretch : PySem.W.nsIn K mainGlobals "_law_stretch" = some (some (.ref f_law_stretch)))
    (l_law_stretch : K.lookup f_law_stretch = some ⟨oc_law_stretch, od_law_stretch, .func (PySem.W.fnOf "_law_stretch" "_law_stretch" (defArgs s_law_stretch) (defBody s_law_stretch) (defScope s_law_stretch) .none kV_law_stretch dc_law_stretch pm_law_stretch an_law_stretch cd_law_stretch ct_law_stretch), sl_law_stretch⟩)
    (c_law_stretch : PySem.W.codeIn K cd_law_stretch "_law_stretch" = true)
    (k_law_stretch : PySem.W.keepIn K (.ref f_law_stretch) = true)
    (a_law : PySem.W.nsIn K mainGlobals "law" = some (some (.ref f_law)))
    (l_law : K.lookup f_law = some ⟨oc_law, od_law, .func (PySem.W.fnOf "law" "law" (defArgs s_law) (defBody s_law) (defScope s_law) .none kV_law dc_law pm_law an_law cd_law ct_law), sl_law⟩)
    (c_law : PySem.W.codeIn K cd_law "law" = true)
    (k_law : PySem.W.keepIn K (.ref f_law) = true)
    (a_C : PySem.W.nsIn K mainGlobals "Moment" = some (some (.ref C)))
    (pg_C : PySem.W.plainGet K C Str.empty = true)
    (hd_C : PySem.W.hasDictIn K C = true)
    (po_C : PySem.W.plainOver K C = true)
    (sa_C : PySem.W.findIn K (.ref C) "__setattr__" = some (some (.builtin "object.__setattr__")))
    (mk_C : PySem.W.makesIn K C = true)
    (kc_C : PySem.W.keepIn K (.ref C) = true)
    (cC_C : PySem.W.findIn K (.ref C) "__class__" = some (some (.builtin "object.__class__")))
    (cM_C : PySem.W.mroIn K C (.type "object") = some true)
    (kk_C : PySem.W.kitOne K (.ref C) (.ref C) = some true)
    (n_C__number : PySem.W.findIn K (.ref C) "_number" = some none)
    (cG : PySem.W.specialIn K (.builtin "object.__class__") "__get__" = some (some (.builtin "getset_descriptor.__get__")))
    (cT : PySem.W.takesIn K (.builtin "object.__class__") = some true)
    (rd_C : PySem.W.readsIn K C (.type "type") = true)
    (ga_C : PySem.W.specialIn K (.ref C) "__getattribute__" = some (some (.builtin "type.__getattribute__")))
    (a_mi : PySem.W.findIn K (.ref C) "__init__" = some (some (.ref f_mi)))
    (i_mi : PySem.W.isFn K (.ref f_mi) = true)
    (l_mi : K.lookup f_mi = some ⟨oc_mi, od_mi, .func (PySem.W.fnOf "__init__" "Moment.__init__" (defArgs s_Moment_init) (defBody s_Moment_init) (defScope s_Moment_init) .none kV_mi dc_mi pm_mi an_mi cd_mi ct_mi), sl_mi⟩)
    (c_mi : PySem.W.codeIn K cd_mi "Moment.__init__" = true)
    (k_mi : PySem.W.keepIn K (.ref f_mi) = true)
    (a_mc : PySem.W.findIn K (.ref C) "__contains__" = some (some (.ref f_mc)))
    (i_mc : PySem.W.isFn K (.ref f_mc) = true)
    (l_mc : K.lookup f_mc = some ⟨oc_mc, od_mc, .func (PySem.W.fnOf "__contains__" "Moment.__contains__" (defArgs s_Moment_contains) (defBody s_Moment_contains) (defScope s_Moment_contains) .none kV_mc dc_mc pm_mc an_mc cd_mc ct_mc), sl_mc⟩)
    (c_mc : PySem.W.codeIn K cd_mc "Moment.__contains__" = true)
    (k_mc : PySem.W.keepIn K (.ref f_mc) = true)
    (a_of : PySem.W.findCls K (.ref C) (.type "type") "of" = some (.get (.builtin "staticmethod.__get__") (.ref p_of) .none (.ref C)))
    (r_of : PySem.W.recIn K p_of "staticmethod" = some (.ref f_of :: rest_of))
    (l_of : K.lookup f_of = some ⟨oc_of, od_of, .func (PySem.W.fnOf "of" "Moment.of" (defArgs s_Moment_of) (defBody s_Moment_of) (defScope s_Moment_of) .none kV_of dc_of pm_of an_of cd_of ct_of), sl_of⟩)
    (c_of : PySem.W.codeIn K cd_of "Moment.of" = true)
    (k_of : PySem.W.keepIn K (.ref f_of) = true)
    (a_number_of : PySem.W.nsIn K mainGlobals "_number_of" = some (some (.ref f_number_of)))
    (l_number_of : K.lookup f_number_of = some ⟨oc_number_of, od_number_of, .func (PySem.W.fnOf "_number_of" "_number_of" (defArgs s_number_of) (defBody s_number_of) (defScope s_number_of) .none kV_number_of dc_number_of pm_number_of an_number_of cd_number_of ct_number_of), sl_number_of⟩)
    (c_number_of : PySem.W.codeIn K cd_number_of "_number_of" = true)
    (k_number_of : PySem.W.keepIn K (.ref f_number_of) = true)
    (a_or : PySem.W.findIn K (.ref C) "__or__" = some (some (.ref f_or)))
    (i_or : PySem.W.isFn K (.ref f_or) = true)
    (l_or : K.lookup f_or = some ⟨oc_or, od_or, .func (PySem.W.fnOf "__or__" "Moment.__or__" (defArgs s_Moment_or) (defBody s_Moment_or) (defScope s_Moment_or) .none kV_or dc_or pm_or an_or cd_or ct_or), sl_or⟩)
    (c_or : PySem.W.codeIn K cd_or "Moment.__or__" = true)
    (k_or : PySem.W.keepIn K (.ref f_or) = true)
    (sfC : PySem.W.selfFirst K C = true)
    (ror : PySem.W.findIn K (.ref C) "__ror__" = some (some (.ref gOr)))
    (io1 : PySem.W.findIn K (.type "int") "__or__" = some io1v)
    (io2 : PySem.W.findIn K (.type "int") "__ror__" = some io2v)
    (subI : PySem.W.subIn K (.type "int") (.ref C) = some false)
    (a_le : PySem.W.findIn K (.ref C) "__le__" = some (some (.ref f_le)))
    (i_le : PySem.W.isFn K (.ref f_le) = true)
    (l_le : K.lookup f_le = some ⟨oc_le, od_le, .func (PySem.W.fnOf "__le__" "Moment.__le__" (defArgs s_Moment_le) (defBody s_Moment_le) (defScope s_Moment_le) .none kV_le dc_le pm_le an_le cd_le ct_le), sl_le⟩)
    (c_le : PySem.W.codeIn K cd_le "Moment.__le__" = true)
    (k_le : PySem.W.keepIn K (.ref f_le) = true)
    (nfC : PySem.W.notFirst K C (.ref C) = true)
    (kIC : PySem.W.kitOne K (.type "int") (.ref C) = some false)
    (lw : PySem.W.nsIn K mainGlobals "LAST_WRITER" = some (some (.int 30 tw)))
    (ln : PySem.W.nsIn K mainGlobals "LAST_NUMBER" = some (some (.int 2147483647 tl)))
    (z_len : PySem.W.nsIn K mainGlobals "len" = some none)
    (z_int : PySem.W.nsIn K mainGlobals "int" = some none)
    (z_bool : PySem.W.nsIn K mainGlobals "bool" = some none)
    (z_isinstance : PySem.W.nsIn K mainGlobals "isinstance" = some none)
    (z_range : PySem.W.nsIn K mainGlobals "range" = some none)
    (z_sum : PySem.W.nsIn K mainGlobals "sum" = some none)
    (z_list : PySem.W.nsIn K mainGlobals "list" = some none)
    (z_ValueError : PySem.W.nsIn K mainGlobals "ValueError" = some none)
    (a_R : PySem.W.nsIn K mainGlobals "Row" = some (some (.ref R)))
    (pg_R : PySem.W.plainGet K R Str.empty = true)
    (hd_R : PySem.W.hasDictIn K R = true)
    (po_R : PySem.W.plainOver K R = true)
    (sa_R : PySem.W.findIn K (.ref R) "__setattr__" = some (some (.builtin "object.__setattr__")))
    (mk_R : PySem.W.makesIn K R = true)
    (kc_R : PySem.W.keepIn K (.ref R) = true)
    (cC_R : PySem.W.findIn K (.ref R) "__class__" = some (some (.builtin "object.__class__")))
    (cM_R : PySem.W.mroIn K R (.type "object") = some true)
    (kk_R : PySem.W.kitOne K (.ref R) (.ref R) = some true)
    (n_R__beginner : PySem.W.findIn K (.ref R) "_beginner" = some none)
    (n_R__ender : PySem.W.findIn K (.ref R) "_ender" = some none)
    (rd_R : PySem.W.readsIn K R (.type "type") = true)
    (ga_R : PySem.W.specialIn K (.ref R) "__getattribute__" = some (some (.builtin "type.__getattribute__")))
    (a_ri : PySem.W.findIn K (.ref R) "__init__" = some (some (.ref f_ri)))
    (i_ri : PySem.W.isFn K (.ref f_ri) = true)
    (l_ri : K.lookup f_ri = some ⟨oc_ri, od_ri, .func (PySem.W.fnOf "__init__" "Row.__init__" (defArgs s_Row_init) (defBody s_Row_init) (defScope s_Row_init) dV_ri kV_ri dc_ri pm_ri an_ri cd_ri ct_ri), sl_ri⟩)
    (c_ri : PySem.W.codeIn K cd_ri "Row.__init__" = true)
    (k_ri : PySem.W.keepIn K (.ref f_ri) = true)
    (dv_ri : dV_ri = .ref t_dri)
    (lk_dri : K.lookup t_dri = some ⟨tc_dri, to_dri, .seq ti_dri tn_dri, ts_dri⟩)
    (cl_dri : tc_dri = .type "tuple")
    (sz_dri : ti_dri.size ≤ sizeLine)
    (vl_dri : Vals [.non, .non] ti_dri.toList)
    (a_rs : PySem.W.findIn K (.ref R) "seen" = some (some (.ref f_rs)))
    (i_rs : PySem.W.isFn K (.ref f_rs) = true)
    (l_rs : K.lookup f_rs = some ⟨oc_rs, od_rs, .func (PySem.W.fnOf "seen" "Row.seen" (defArgs s_Row_seen) (defBody s_Row_seen) (defScope s_Row_seen) .none kV_rs dc_rs pm_rs an_rs cd_rs ct_rs), sl_rs⟩)
    (c_rs : PySem.W.codeIn K cd_rs "Row.seen" = true)
    (k_rs : PySem.W.keepIn K (.ref f_rs) = true)
    (a_D : PySem.W.nsIn K mainGlobals "PagesError" = some (some (.ref D)))
    (a_B : PySem.W.nsIn K mainGlobals "BadRow" = some (some (.ref B)))
    (x_B : K.lookup B = some (excClassObj nm_B qn_B B ns_B bs_B bm_B true sn_B sb_B ab_B co_B dd_B m0_B m1_B m2_B m3_B m5_B "ValueError.__new__"))
    (rv_B : PySem.HandSPX.refsVE bm_B = true)
    (sa_B : PySem.W.findIn K (.ref B) "__setattr__" = some (some (.builtin "object.__setattr__")))
    (gt_B : PySem.W.findIn K (.ref B) "__getattribute__" = some (some (.builtin "BaseException.__getattribute__")))
    (gg_B : PySem.W.findIn K (.ref B) "__getattr__" = some none)
    (cC_B : PySem.W.findIn K (.ref B) "__class__" = some (some (.builtin "object.__class__")))
    (no_B : PySem.W.findIn K (.ref B) "field" = some none)
    (ex_B : PySem.W.subIn K (.ref B) (.type "BaseException") = some true)
    (ty_B : PySem.W.typeIn K (.ref B) = some (.type "type"))
    (kc_B : PySem.W.keepIn K (.ref B) = true)
    (hd_B : PySem.W.hasDictIn K B = true)
    (ic_B : (PySem.W.clsIn K B).isSome = true)
    (cM_B : PySem.W.mroIn K B (.type "object") = some true)
    (ss_B : PySem.W.subIn K (.ref B) (.ref B) = some true)
    (in_B : PySem.W.findIn K (.ref B) "__init__" = some (some (.ref f_iB)))
    (it_B : PySem.W.typeIn K (.ref f_iB) = some (.type "function"))
    (l_iB : K.lookup f_iB = some ⟨oc_iB, od_iB, .func (PySem.W.fnOf "__init__" "BadRow.__init__" (defArgs s_BadRow_init) (defBody s_BadRow_init) (defScope s_BadRow_init) .none kV_iB dc_iB pm_iB an_iB cd_iB ct_iB), sl_iB⟩)
    (c_iB : PySem.W.codeIn K cd_iB "BadRow.__init__" = true)
    (k_iB : PySem.W.keepIn K (.ref f_iB) = true)
    (rd_D : PySem.W.readsIn K D (.type "type") = true)
    (ga_D : PySem.W.specialIn K (.ref D) "__getattribute__" = some (some (.builtin "type.__getattribute__")))
    (up_D : PySem.W.findCls K (.ref D) (.type "type") "__init__" = some (.val (.builtin "ValueError.__init__")))
    (a_PC : PySem.W.nsIn K mainGlobals "Page" = some (some (.ref PC)))
    (pg_PC : PySem.W.plainGet K PC Str.empty = true)
    (hd_PC : PySem.W.hasDictIn K PC = true)
    (po_PC : PySem.W.plainOver K PC = true)
    (sa_PC : PySem.W.findIn K (.ref PC) "__setattr__" = some (some (.builtin "object.__setattr__")))
    (mk_PC : PySem.W.makesIn K PC = true)
    (kc_PC : PySem.W.keepIn K (.ref PC) = true)
    (cC_PC : PySem.W.findIn K (.ref PC) "__class__" = some (some (.builtin "object.__class__")))
    (cM_PC : PySem.W.mroIn K PC (.type "object") = some true)
    (kk_PC : PySem.W.kitOne K (.ref PC) (.ref PC) = some true)
    (n_PC__rows : PySem.W.findIn K (.ref PC) "_rows" = some none)
    (a_pi : PySem.W.findIn K (.ref PC) "__init__" = some (some (.ref f_pi)))
    (i_pi : PySem.W.isFn K (.ref f_pi) = true)
    (l_pi : K.lookup f_pi = some ⟨oc_pi, od_pi, .func (PySem.W.fnOf "__init__" "Page.__init__" (defArgs s_Page_init) (defBody s_Page_init) (defScope s_Page_init) dV_pi kV_pi dc_pi pm_pi an_pi cd_pi ct_pi), sl_pi⟩)
    (c_pi : PySem.W.codeIn K cd_pi "Page.__init__" = true)
    (k_pi : PySem.W.keepIn K (.ref f_pi) = true)
    (dv_pi : dV_pi = .ref t_dpi)
    (lk_dpi : K.lookup t_dpi = some ⟨tc_dpi, to_dpi, .seq ti_dpi tn_dpi, ts_dpi⟩)
    (cl_dpi : tc_dpi = .type "tuple")
    (sz_dpi : ti_dpi.size ≤ sizeLine)
    (vl_dpi : Vals [.ref t_emp] ti_dpi.toList)
    (a_pr : PySem.W.findIn K (.ref PC) "rows" = some (some (.ref f_pr)))
    (i_pr : PySem.W.isFn K (.ref f_pr) = true)
    (l_pr : K.lookup f_pr = some ⟨oc_pr, od_pr, .func (PySem.W.fnOf "rows" "Page.rows" (defArgs s_Page_rows) (defBody s_Page_rows) (defScope s_Page_rows) .none kV_pr dc_pr pm_pr an_pr cd_pr ct_pr), sl_pr⟩)
    (c_pr : PySem.W.codeIn K cd_pr "Page.rows" = true)
    (k_pr : PySem.W.keepIn K (.ref f_pr) = true)
    (a_pa : PySem.W.findIn K (.ref PC) "all_seen" = some (some (.ref f_pa)))
    (i_pa : PySem.W.isFn K (.ref f_pa) = true)
    (l_pa : K.lookup f_pa = some ⟨oc_pa, od_pa, .func (PySem.W.fnOf "all_seen" "Page.all_seen" (defArgs s_Page_all_seen) (defBody s_Page_all_seen) (defScope s_Page_all_seen) .none kV_pa dc_pa pm_pa an_pa cd_pa ct_pa), sl_pa⟩)
    (c_pa : PySem.W.codeIn K cd_pa "Page.all_seen" = true)
    (k_pa : PySem.W.keepIn K (.ref f_pa) = true)
    (a_pl : PySem.W.findIn K (.ref PC) "__len__" = some (some (.ref f_pl)))
    (i_pl : PySem.W.isFn K (.ref f_pl) = true)
    (l_pl : K.lookup f_pl = some ⟨oc_pl, od_pl, .func (PySem.W.fnOf "__len__" "Page.__len__" (defArgs s_Page_len) (defBody s_Page_len) (defScope s_Page_len) .none kV_pl dc_pl pm_pl an_pl cd_pl ct_pl), sl_pl⟩)
    (c_pl : PySem.W.codeIn K cd_pl "Page.__len__" = true)
    (k_pl : PySem.W.keepIn K (.ref f_pl) = true)
    (m7 : PySem.W.nsIn K mainGlobals "MOST_ROWS" = some (some (.int 7 t7)))
    (z_enumerate : PySem.W.nsIn K mainGlobals "enumerate" = some none)
    (z_all : PySem.W.nsIn K mainGlobals "all" = some none) :
    ∃ fd : FuncData, (∀ (s : Shared) (v : Value), BindsTo s fd ⟨[v], []⟩ [("script", v)]) ∧ ∀ base : Heap, K.In base → base.Ns mainGlobals mg → FnOk l.prog w K mg base CX0 9 fa fd ["script"] (spLaw K) := by
  have e := hfa.symm.trans (PySem.W.mg_of X G a_law)
  cases e
  have F_is_whole := fun_mk (st := s_is_whole) l_is_whole c_is_whole k_is_whole
  have b_is_whole := F_is_whole.binds (ps := ["value"]) fun _ _ _ _ _ _ us hl => match us, hl with | [_], _ => rfl
  have F_is_between := fun_mk (st := s_is_between) l_is_between c_is_between k_is_between
  have b_is_between := F_is_between.binds (ps := ["value", "low", "high"]) fun _ _ _ _ _ _ us hl => match us, hl with | [_, _, _], _ => rfl
  have F_is_writer_number := fun_mk (st := s_is_writer_number) l_is_writer_number c_is_writer_number k_is_writer_number
  have b_is_writer_number := F_is_writer_number.binds (ps := ["value"]) fun _ _ _ _ _ _ us hl => match us, hl with | [_], _ => rfl
  have F_is_field := fun_mk (st := s_is_field) l_is_field c_is_field k_is_field
  have b_is_field := F_is_field.binds (ps := ["value"]) fun _ _ _ _ _ _ us hl => match us, hl with | [_], _ => rfl
  have F_law_pot := fun_mk (st := s_law_pot) l_law_pot c_law_pot k_law_pot
  have b_law_pot := F_law_pot.binds (ps := ["script"]) fun _ _ _ _ _ _ us hl => match us, hl with | [_], _ => rfl
  have F_law_draw := fun_mk (st := s_law_draw) l_law_draw c_law_draw k_law_draw
  have b_law_draw := F_law_draw.binds (ps := ["pot", "many"]) fun _ _ _ _ _ _ us hl => match us, hl with | [_, _], _ => rfl
  have F_law_writer := fun_mk (st := s_law_writer) l_law_writer c_law_writer k_law_writer
  have b_law_writer := F_law_writer.binds (ps := ["pot"]) fun _ _ _ _ _ _ us hl => match us, hl with | [_], _ => rfl
  have F_law_stretch := fun_mk (st := s_law_stretch) l_law_stretch c_law_stretch k_law_stretch
  have b_law_stretch := F_law_stretch.binds (ps := ["chain", "fields"]) fun _ _ _ _ _ _ us hl => match us, hl with | [_, _], _ => rfl
  have F_law := fun_mk (st := s_law) l_law c_law k_law
  have F_mc := fun_mk (st := s_Moment_contains) l_mc c_mc k_mc
  have b_mc := F_mc.binds (ps := ["self", "value"]) fun _ _ _ _ _ _ us hl => match us, hl with | [_, _], _ => rfl
  have F_of := fun_mk (st := s_Moment_of) l_of c_of k_of
  have b_of := F_of.binds (ps := ["number"]) fun _ _ _ _ _ _ us hl => match us, hl with | [_], _ => rfl
  have F_number_of := fun_mk (st := s_number_of) l_number_of c_number_of k_number_of
  have b_number_of := F_number_of.binds (ps := ["value"]) fun _ _ _ _ _ _ us hl => match us, hl with | [_], _ => rfl
  have F_or := fun_mk (st := s_Moment_or) l_or c_or k_or
  have b_or := F_or.binds (ps := ["self", "other"]) fun _ _ _ _ _ _ us hl => match us, hl with | [_, _], _ => rfl
  have F_le := fun_mk (st := s_Moment_le) l_le c_le k_le
  have b_le := F_le.binds (ps := ["self", "other"]) fun _ _ _ _ _ _ us hl => match us, hl with | [_, _], _ => rfl
  have F_rs := fun_mk (st := s_Row_seen) l_rs c_rs k_rs
  have b_rs := F_rs.binds (ps := ["self", "moment"]) fun _ _ _ _ _ _ us hl => match us, hl with | [_, _], _ => rfl
  have F_iB := fun_mk (st := s_BadRow_init) l_iB c_iB k_iB
  have b_iB := F_iB.binds (ps := ["self", "field"]) fun _ _ _ _ _ _ us hl => match us, hl with | [_, _], _ => rfl
  have ox_B : OexC K B := ⟨⟨_, _, _, _, _, _, _, _, _, _, _, _, _, _, _, x_B, rv_B⟩, sa_B, ex_B, ty_B, kc_B⟩
  have F_pr := fun_mk (st := s_Page_rows) l_pr c_pr k_pr
  have b_pr := F_pr.binds (ps := ["self"]) fun _ _ _ _ _ _ us hl => match us, hl with | [_], _ => rfl
  have F_pa := fun_mk (st := s_Page_all_seen) l_pa c_pa k_pa
  have b_pa := F_pa.binds (ps := ["self", "moment"]) fun _ _ _ _ _ _ us hl => match us, hl with | [_, _], _ => rfl
  have F_pl := fun_mk (st := s_Page_len) l_pl c_pl k_pl
  have b_pl := F_pl.binds (ps := ["self"]) fun _ _ _ _ _ _ us hl => match us, hl with | [_], _ => rfl
  refine ⟨PySem.W.fnOf "law" "law" (defArgs s_law) (defBody s_law) (defScope s_law) .none kV_law dc_law pm_law an_law cd_law ct_law, fun s v => .of_eq rfl, fun base _ _ => ?_⟩
  have mz : ∀ {n : Str}, PySem.W.nsIn K mainGlobals n = some none → mg n = none := fun z => PySem.W.mg_none_of X G z
  have T : Txt K mg C := ⟨⟨pg_C, hd_C, po_C, sa_C⟩, n_C__number, PySem.W.mg_of X G a_C, mz z_len, mz z_int, mz z_bool, mz z_isinstance, mz z_range, mz z_sum, mz z_list, cC_C, cG, cT, cM_C, kk_C, kIC, ⟨tw, PySem.W.mg_of X G lw⟩, ⟨tl, PySem.W.mg_of X G ln⟩⟩
  have TI : NmI mg := ⟨mz z_isinstance, mz z_int, mz z_bool⟩
  have GW := ok_wholeG (P := l.prog) (w := w) (base := base) F_is_whole TI
  have GB := ok_betwG F_is_between GW k_is_whole b_is_whole (PySem.W.mg_of X G a_is_whole)
  have GI := ok_isWG F_is_writer_number GB k_is_between b_is_between (PySem.W.mg_of X G a_is_between) ⟨tw, PySem.W.mg_of X G lw⟩
  have gI := PySem.W.mg_of X G a_is_writer_number
  have M : Mk K C f_mi := ⟨mk_C, a_mi, i_mi, kc_C⟩
  have GM : FnR l.prog w K mg base CX0 4 f_mi (spMk C) := ok_init l_mi c_mi T (isW_int GI) k_is_writer_number b_is_writer_number gI
  have GO := ok_of F_of T (betw_int GB) k_is_between b_is_between (PySem.W.mg_of X G a_is_between) M GM
  have GC := ok_contains F_mc T.cl T.nN GI k_is_writer_number b_is_writer_number gI
  have ZC : ContF l.prog w K mg base C f_mc := ⟨a_mc, i_mc, Vx.fnR GC b_mc⟩
  have GN : FnOk l.prog w K mg base CX0 4 f_number_of _ ["value"] (spNum C) := ok_number_of F_number_of T (isW_int GI) k_is_writer_number b_is_writer_number gI
  have O : Ops K mg C f_number_of f_of p_of p_of (.type "type") := ⟨PySem.W.mg_of X G a_number_of, k_number_of, ⟨rd_C, ga_C⟩, ⟨a_of, ⟨_, r_of⟩, k_of⟩⟩
  have Gor : FnR l.prog w K mg base CX0 7 f_or (spBin C fun n m => n ||| m) := Vx.fnR (ok_or F_or T O GN b_number_of (Vx.fnR GO b_of)) b_or
  have oOr : Vx.OpF K C f_or .BitOr := ⟨sfC, a_or, i_or, ⟨_, ror, .inr ⟨_, rfl⟩⟩, ⟨_, io1⟩, ⟨_, io2⟩, subI⟩
  have GF := ok_field F_is_field GI k_is_writer_number b_is_writer_number gI
  have er : Err l.prog w K mg base "BadRow" "field" B f_iB _ (spErr K "field") := ⟨ox_B, no_B, PySem.W.mg_of X G a_B, in_B, it_B, ok_BadRow_init F_iB (PySem.W.mg_of X G a_D) ⟨⟨rd_D, ga_D⟩, up_D⟩, b_iB⟩
  have clR : Cls K R := ⟨pg_R, hd_R, po_R, sa_R⟩
  have RT : RowT l.prog w K mg base R B f_is_field f_iB _ _ := ⟨clR, n_R__beginner, n_R__ender, GF, k_is_field, b_is_field, PySem.W.mg_of X G a_is_field, er⟩
  have DR : RowD K f_ri _ := ⟨⟨oc_ri, od_ri, dV_ri, kV_ri, dc_ri, pm_ri, an_ri, cd_ri, ct_ri, sl_ri, rfl, l_ri, c_ri, .inr ⟨by simp, t_dri, _, ti_dri.toList, tn_dri, dv_ri, lk_dri, rfl, vl_dri⟩, .inl rfl⟩, k_ri⟩
  have GR := ok_Row_init (P := l.prog) (w := w) (base := base) DR RT
  have RM : RowM l.prog w K mg base R B f_ri _ := ⟨⟨mk_R, a_ri, i_ri, kc_R⟩, PySem.W.mg_of X G a_R, GR, row_b2 DR, row_b1 DR, row_b0 DR⟩
  have RC : RowC K mg R := ⟨clR, cC_R, cG, cT, cM_R, kk_R⟩
  have GD : FnOk l.prog w K mg base CX0 1 f_law_draw _ ["pot", "many"] spDraw := ok_draw F_law_draw T.int T.len
  have DW : Drw l.prog w K mg base f_law_draw _ := ⟨GD, k_law_draw, b_law_draw, PySem.W.mg_of X G a_law_draw⟩
  have PT : PgT K mg PC := ⟨⟨pg_PC, hd_PC, po_PC, sa_PC⟩, n_PC__rows, mz z_isinstance, mz z_list, mz z_len, mz z_all, mz z_enumerate, ⟨t7, PySem.W.mg_of X G m7⟩⟩
  have DP : PageD K f_pi _ [.ref t_emp] := ⟨⟨oc_pi, od_pi, dV_pi, kV_pi, dc_pi, pm_pi, an_pi, cd_pi, ct_pi, sl_pi, rfl, l_pi, c_pi, .inr ⟨by simp, t_dpi, _, ti_dpi.toList, tn_dpi, dv_pi, lk_dpi, rfl, vl_dpi⟩, .inl rfl⟩, k_pi⟩
  have GS := ok_seen F_rs clR n_R__beginner n_R__ender ZC
  exact ok_law F_law { pot := ⟨ok_pot F_law_pot T.int, k_law_pot, b_law_pot, PySem.W.mg_of X G a_law_pot⟩, draw := ⟨GD, k_law_draw, b_law_draw, PySem.W.mg_of X G a_law_draw⟩, wtr := ⟨ok_wtr F_law_writer DW, k_law_writer, b_law_writer, PySem.W.mg_of X G a_law_writer⟩, str := ⟨ok_stretch F_law_stretch (mz z_len) (mz z_range), k_law_stretch, b_law_stretch, PySem.W.mg_of X G a_law_stretch⟩, len := mz z_len, range := mz z_range, gC := PySem.W.mg_of X G a_C, mkC := M, FC := GM, oOr := oOr, Or1 := Gor, le := ⟨nfC, a_le, i_le⟩, Le1 := Vx.fnR (ok_le F_le T) b_le, Z := RM, clR := clR, mS := ⟨a_rs, i_rs, k_rs⟩, bS := b_rs, FS := GS, mkP := ⟨mk_PC, a_pi, i_pi, kc_PC⟩, gP := PySem.W.mg_of X G a_PC, FP := ok_page_init DP PT RC (PySem.W.mg_of X G a_R), bP := page_b1 DP, clP := PT.cl, mR := ⟨a_pr, i_pr, k_pr⟩, FR := ok_pg_rows F_pr PT, bR := b_pr, mA := ⟨a_pa, i_pa, k_pa⟩, FA := ok_pg_seen F_pa PT clR ⟨a_rs, i_rs, k_rs⟩ GS b_rs, bA := b_pa, lnA := a_pl, lnF := i_pl, FL := Vx.fnR (ok_pg_len F_pl PT) b_pl }
theorem walk {l : PySem.W.OpenLaw} {q : Program} {loose : List Str} {XP : (Str → Option Value) → Heap → Prop} {YP : World → Heap → Prop} {d : DefRec} {K : Params → PySem.W.Frag} (hn : l.most = some 63) (hdf : d.params.defaults = [])
    (hY : ∀ (w : World) (h : Heap), YP w h → (K w.params).In h)
    (F : ∀ (w : World) (mg : Str → Option Value) (fa : Addr) (h : Heap), (K w.params).In h → h.Ns mainGlobals mg → mg d.name = some (.ref fa) →
      ∃ fd : FuncData, (∀ (s : Shared) (u : Value), BindsTo s fd ⟨[u], []⟩ [("script", u)]) ∧ ∀ base : Heap, (K w.params).In base → base.Ns mainGlobals mg → FnOk l.prog w (K w.params) mg base CX0 9 fa fd ["script"] (spLaw (K w.params))) :
    PySem.W.WalkO q loose XP YP l.row.toRowW d [] (fun f vs => PySem.call f vs) :=
  L2.walk_of (n := 63) (k := 9) (x := "script") (CX := fun _ => CX0) (sp := fun w => spLaw (K w.params)) hn (by decide) hdf ⟨rfl, by decide, by decide⟩ hY F (fun _ _ a ns hl _ hS => ⟨a, ns, rfl, hS, hl, fun _ => rfl⟩) fun _ _ _ _ _ z => z
end Toy
open PySem PySem.W PyProof.Rows in
set_option maxRecDepth 100000 in
set_option maxHeartbeats 0 in
theorem PySem.Challenge.cw_trustedpages_k06_whole_rows_along_growin_holds : PySem.Challenge.rw_trustedpages_k06_whole_rows_along_growin.Holds := by
  w_on; o_law; k_head; (case hw => w_witness2)
  k_fill
  refine Toy.walk (l := PySem.Challenge.rw_trustedpages_k06_whole_rows_along_growin) rfl rfl (fun w h Y => PySem.W.kIn_of Y) ?F
  case F =>
    intro w mg fa h KX G hmg
    refine' Toy.all_mk KX G hmg ?a_is_whole ?l_is_whole ?c_is_whole ?k_is_whole ?a_is_between ?l_is_between ?c_is_between ?k_is_between ?a_is_writer_number ?l_is_writer_number ?c_is_writer_number ?k_is_writer_number ?a_is_field ?l_is_field ?c_is_field ?k_is_field ?a_law_pot ?l_law_pot ?c_law_pot ?k_law_pot ?a_law_draw ?l_law_draw ?c_law_draw ?k_law_draw ?a_law_writer ?l_law_writer ?c_law_writer ?k_law_writer ?a_law_stretch ?l_law_stretch ?c_law_stretch ?k_law_stretch ?a_law ?l_law ?c_law ?k_law ?a_C ?pg_C ?hd_C ?po_C ?sa_C ?mk_C ?kc_C ?cC_C ?cM_C ?kk_C ?n_C__number ?cG ?cT ?rd_C ?ga_C ?a_mi ?i_mi ?l_mi ?c_mi ?k_mi ?a_mc ?i_mc ?l_mc ?c_mc ?k_mc ?a_of ?r_of ?l_of ?c_of ?k_of ?a_number_of ?l_number_of ?c_number_of ?k_number_of ?a_or ?i_or ?l_or ?c_or ?k_or ?sfC ?ror ?io1 ?io2 ?subI ?a_le ?i_le ?l_le ?c_le ?k_le ?nfC ?kIC ?lw ?ln ?z_len ?z_int ?z_bool ?z_isinstance ?z_range ?z_sum ?z_list ?z_ValueError ?a_R ?pg_R ?hd_R ?po_R ?sa_R ?mk_R ?kc_R ?cC_R ?cM_R ?kk_R ?n_R__beginner ?n_R__ender ?rd_R ?ga_R ?a_ri ?i_ri ?l_ri ?c_ri ?k_ri ?dv_ri ?lk_dri ?cl_dri ?sz_dri ?vl_dri ?a_rs ?i_rs ?l_rs ?c_rs ?k_rs ?a_D ?a_B ?x_B ?rv_B ?sa_B ?gt_B ?gg_B ?cC_B ?no_B ?ex_B ?ty_B ?kc_B ?hd_B ?ic_B ?cM_B ?ss_B ?in_B ?it_B ?l_iB ?c_iB ?k_iB ?rd_D ?ga_D ?up_D ?a_PC ?pg_PC ?hd_PC ?po_PC ?sa_PC ?mk_PC ?kc_PC ?cC_PC ?cM_PC ?kk_PC ?n_PC__rows ?a_pi ?i_pi ?l_pi ?c_pi ?k_pi ?dv_pi ?lk_dpi ?cl_dpi ?sz_dpi ?vl_dpi ?a_pr ?i_pr ?l_pr ?c_pr ?k_pr ?a_pa ?i_pa ?l_pa ?c_pa ?k_pa ?a_pl ?i_pl ?l_pl ?c_pl ?k_pl ?m7 ?z_enumerate ?z_all
    (case a_is_whole => k_is)
    (case l_is_whole => k_is)
    (case c_is_whole => k_is)
    (case k_is_whole => k_is)
    (case a_is_between => k_is)
    (case l_is_between => k_is)
    (case c_is_between => k_is)
    (case k_is_between => k_is)
    (case a_is_writer_number => k_is)
    (case l_is_writer_number => k_is)
    (case c_is_writer_number => k_is)
    (case k_is_writer_number => k_is)
    (case a_is_field => k_is)
    (case l_is_field => k_is)
    (case c_is_field => k_is)
    (case k_is_field => k_is)
    (case a_law_pot => k_is)
    (case l_law_pot => k_is)
    (case c_law_pot => k_is)
    (case k_law_pot => k_is)
    (case a_law_draw => k_is)
    (case l_law_draw => k_is)
    (case c_law_draw => k_is)
    (case k_law_draw => k_is)
    (case a_law_writer => k_is)
    (case l_law_writer => k_is)
    (case c_law_writer => k_is)
    (case k_law_writer => k_is)
    (case a_law_stretch => k_is)
    (case l_law_stretch => k_is)
    (case c_law_stretch => k_is)
    (case k_law_stretch => k_is)
    (case a_law => k_is)
    (case l_law => k_is)
    (case c_law => k_is)
    (case k_law => k_is)
    (case a_C => k_is)
    (case pg_C => k_is)
    (case hd_C => k_is)
    (case po_C => k_is)
    (case sa_C => k_is)
    (case mk_C => k_is)
    (case kc_C => k_is)
    (case cC_C => k_is)
    (case cM_C => k_is)
    (case kk_C => exact if_pos (beq_self_eq_true _))
    (case n_C__number => k_is)
    (case cG => k_is)
    (case cT => k_is)
    (case rd_C => k_is)
    (case ga_C => k_is)
    (case a_mi => k_is)
    (case i_mi => k_is)
    (case l_mi => k_is)
    (case c_mi => k_is)
    (case k_mi => k_is)
    (case a_mc => k_is)
    (case i_mc => k_is)
    (case l_mc => k_is)
    (case c_mc => k_is)
    (case k_mc => k_is)
    (case a_of => k_is)
    (case r_of => k_is)
    (case l_of => k_is)
    (case c_of => k_is)
    (case k_of => k_is)
    (case a_number_of => k_is)
    (case l_number_of => k_is)
    (case c_number_of => k_is)
    (case k_number_of => k_is)
    (case a_or => k_is)
    (case i_or => k_is)
    (case l_or => k_is)
    (case c_or => k_is)
    (case k_or => k_is)
    (case sfC => k_is)
    (case ror => k_is)
    (case io1 => k_is)
    (case io2 => k_is)
    (case subI => k_is)
    (case a_le => k_is)
    (case i_le => k_is)
    (case l_le => k_is)
    (case c_le => k_is)
    (case k_le => k_is)
    (case nfC => k_is)
    (case kIC => kit_is)
    (case lw => k_is)
    (case ln => k_is)
    (case z_len => k_is)
    (case z_int => k_is)
    (case z_bool => k_is)
    (case z_isinstance => k_is)
    (case z_range => k_is)
    (case z_sum => k_is)
    (case z_list => k_is)
    (case z_ValueError => k_is)
    (case a_R => k_is)
    (case pg_R => k_is)
    (case hd_R => k_is)
    (case po_R => k_is)
    (case sa_R => k_is)
    (case mk_R => k_is)
    (case kc_R => k_is)
    (case cC_R => k_is)
    (case cM_R => k_is)
    (case kk_R => exact if_pos (beq_self_eq_true _))
    (case n_R__beginner => k_is)
    (case n_R__ender => k_is)
    (case rd_R => k_is)
    (case ga_R => k_is)
    (case a_ri => k_is)
    (case i_ri => k_is)
    (case l_ri => k_is)
    (case c_ri => k_is)
    (case k_ri => k_is)
    (case dv_ri => rfl)
    (case lk_dri => k_is)
    (case cl_dri => rfl)
    (case sz_dri => decide)
    (case vl_dri => exact .cons rfl (.cons rfl .nil))
    (case a_rs => k_is)
    (case i_rs => k_is)
    (case l_rs => k_is)
    (case c_rs => k_is)
    (case k_rs => k_is)
    (case a_D => k_is)
    (case a_B => k_is)
    (case x_B => k_is)
    (case rv_B => decide +kernel)
    (case sa_B => k_is)
    (case gt_B => k_is)
    (case gg_B => k_is)
    (case cC_B => k_is)
    (case no_B => k_is)
    (case ex_B => k_is)
    (case ty_B => k_is)
    (case kc_B => k_is)
    (case hd_B => k_is)
    (case ic_B => first | rfl | k_is)
    (case cM_B => k_is)
    (case ss_B => first | rfl | k_is)
    (case in_B => k_is)
    (case it_B => k_is)
    (case l_iB => k_is)
    (case c_iB => k_is)
    (case k_iB => k_is)
    (case rd_D => k_is)
    (case ga_D => k_is)
    (case up_D => k_is)
    (case a_PC => k_is)
    (case pg_PC => k_is)
    (case hd_PC => k_is)
    (case po_PC => k_is)
    (case sa_PC => k_is)
    (case mk_PC => k_is)
    (case kc_PC => k_is)
    (case cC_PC => k_is)
    (case cM_PC => k_is)
    (case kk_PC => exact if_pos (beq_self_eq_true _))
    (case n_PC__rows => k_is)
    (case a_pi => k_is)
    (case i_pi => k_is)
    (case l_pi => k_is)
    (case c_pi => k_is)
    (case k_pi => k_is)
    (case dv_pi => rfl)
    (case lk_dpi => k_is)
    (case cl_dpi => rfl)
    (case sz_dpi => decide)
    (case vl_dpi => exact .cons rfl .nil)
    (case a_pr => k_is)
    (case i_pr => k_is)
    (case l_pr => k_is)
    (case c_pr => k_is)
    (case k_pr => k_is)
    (case a_pa => k_is)
    (case i_pa => k_is)
    (case l_pa => k_is)
    (case c_pa => k_is)
    (case k_pa => k_is)
    (case a_pl => k_is)
    (case i_pl => k_is)
    (case l_pl => k_is)
    (case c_pl => k_is)
    (case k_pl => k_is)
    (case m7 => k_is)
    (case z_enumerate => k_is)
    (case z_all => k_is)
