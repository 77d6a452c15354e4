import PyProof.Rows.All
import Wide.All
import OpenK.AllK
import Wide.FinOn
import PyProof.EqAt
import PyProof.EqKinds
import PyProof.TupleCall
import KE.KOpsOwn
import HandS.ForMost
import HandS.OwnEq
import HandS.Star
import HandS.ClsMeth
import HandS.IsInst
import HandS.Codes
import HandS.Flow
import HandS.Wide
import PySem.Challenge.RW_trustedpages_k03_sums_and_cuts_of_moment
import Open.Row
import KE.RegKIsAll
set_option Elab.async false
set_option linter.all false
set_option maxRecDepth 100000
set_option maxHeartbeats 2000000
/-! own operators, static methods, an own class called with a star -/
namespace Vx
open PySem PySem.Spec PyProof.Rows L2
section
variable {P : Program} {w : World} {K : PySem.W.Frag} {mg : Str → Option Value} {base : Heap} {CX : CXT} {k : Nat} {f : Addr} {fd : FuncData} {ps : List Str} {sp : Sp}
theorem fnR (F : FnOk P w K mg base CX k f fd ps sp) (hb : L2.Binds K fd ps []) : FnR P w K mg base CX k f sp := by
  intro A outer s H us vs Q E hr e0 r hsp
  have hl := F.len _ _ _ _ hsp
  have KX : K.In s.heap := e0.mod.kin.keeps fun b o e => (e0.bs b o e).1
  refine F.run A outer s H ⟨us, []⟩ us vs Q E hr e0 ?_ r hsp
  have := hb s us KX (by rw [List.append_nil, ← r.length]; exact hl)
  simpa using this
end
section
variable {X : Cx} {CX : CXT} {k : Nat} {C f : Addr} {sp : Sp} {E : XK} {pins : List (Addr × Obj)} {σ : L2.St} {H : Hp} {s : Shared} {Q : VK}
theorem cmpBack_of {v : Value} {s' : Shared} (h : EP X pins σ Q v s') : PySem.W.CmpBack (EP X pins σ Q) v s' := by
  cases v with
  | notImplemented =>
    obtain ⟨v', H', I', r, q⟩ := h
    cases v' with
    | int i => obtain ⟨t, e⟩ := r; cases e
    | str i => obtain ⟨t, e⟩ := r; cases e
    | byt i => obtain ⟨t, e⟩ := r; cases e
    | flt i => obtain ⟨t, e⟩ := r; cases e
    | non => cases r
    | bl b => cases r
    | ref a => cases r
    | ty n => cases r
  | _ => exact h
theorem call_cmp {us : List Value} {vs : List V} (F : FnR X.prog X.w X.K X.mg X.base CX k f sp) (hr : Room k X.A) (hx : Passes CX X E) (I : L2.Inv X pins σ H s) (r : Vals vs us) (h : sp vs H Q E) :
    wpAny (model X.prog X.w) X.A (call (.ref f) us) (PySem.W.CmpBack (EP X pins σ Q)) X.xe s :=
  wpAny_mono (wpAny_call (run_fnR F hr hx I r h)) (fun _ _ z => cmpBack_of z) fun _ _ z => z
/-- o op y by the own method of o's class; y of the same class, or an int -/
def rOwn (C : Addr) (sp : Sp) (E : XK) : R2 := fun x y H Q => (∃ a dx fs, x = .ref a ∧ H a = some (.ins C dx fs)) ∧ ((∃ b dy gs, y = .ref b ∧ H b = some (.ins C dy gs)) ∨ ∃ i, y = .int i) ∧ sp [x, y] H Q E
/-- what the text says of an operator of the class at C -/
structure OpF (K : PySem.W.Frag) (C f : Addr) (op : Operator) : Prop where
  sf : PySem.W.selfFirst K C = true
  at_ : PySem.W.findIn K (.ref C) (PySem.dunder op.info.2) = some (some (.ref f))
  fn : PySem.W.isFn K (.ref f) = true
  rf : ∃ rc, PySem.W.findIn K (.ref C) (PySem.dunderR op.info.2) = some rc ∧ (rc = none ∨ ∃ g : Addr, rc = some (.ref g))
  i1 : ∃ fo, PySem.W.findIn K (.type "int") (PySem.dunder op.info.2) = some fo
  i2 : ∃ ro, PySem.W.findIn K (.type "int") (PySem.dunderR op.info.2) = some ro
  sub : PySem.W.subIn K (.type "int") (.ref C) = some false
theorem op_own {op : Operator} (O : OpF X.K C f op) (F : FnR X.prog X.w X.K X.mg X.base CX k f sp) (hr : Room k X.A) (hx : Passes CX X E) : OpR X (binaryOp op) (rOwn C sp E) := by
  intro pins s σ H x y v u Q I rx ry hq
  obtain ⟨⟨a, dx, fs, rfl, ha⟩, hy, hsp⟩ := hq
  have ev : v = Value.ref a := rx
  have cl := call_cmp F hr hx I (us := [v, u]) (vs := [V.ref a, y]) (.cons rx (.cons ry .nil)) hsp
  subst ev
  obtain ⟨mA, J, _⟩ := ins_get I.hok ha
  obtain ⟨od, J, _⟩ := J.look
  obtain ⟨m, hF⟩ := I.fr
  rcases hy with ⟨b, dy, gs, rfl, hb⟩ | ⟨i, rfl⟩
  · have eu : u = Value.ref b := ry
    subst eu
    obtain ⟨mB, J', _⟩ := ins_get I.hok hb
    obtain ⟨od', J', _⟩ := J'.look
    exact PySem.W.binop_K hF I.ok.mod.kin J J'.type O.sf O.at_ O.fn cl
  · obtain ⟨t, rfl⟩ := ry
    obtain ⟨rc, r1, r2⟩ := O.rf
    obtain ⟨fo, i1⟩ := O.i1
    obtain ⟨ro, i2⟩ := O.i2
    exact PySem.W.ksp_binT (T := "int") hF I.ok.mod.kin J rfl O.sf O.at_ O.fn r1 r2 i1 i2 O.sub cl
/-- o cmp y by the own method, y of the same class -/
def rCmp (C : Addr) (sp : Sp) (E : XK) : R2 := fun x y H Q => (∃ a dx fs, x = .ref a ∧ H a = some (.ins C dx fs)) ∧ (∃ b dy gs, y = .ref b ∧ H b = some (.ins C dy gs)) ∧ sp [x, y] H Q E
theorem op_cmpOwn {op : CmpOp} (hc : ∀ v u, compareOp op v u = richCompare op v u) (nf : PySem.W.notFirst X.K C (.ref C) = true) (at_ : PySem.W.findIn X.K (.ref C) (cmpInfo op).2.1 = some (some (.ref f))) (fn : PySem.W.isFn X.K (.ref f) = true)
    (F : FnR X.prog X.w X.K X.mg X.base CX k f sp) (hr : Room k X.A) (hx : Passes CX X E) : OpR X (compareOp op) (rCmp C sp E) := by
  intro pins s σ H x y v u Q I rx ry hq
  obtain ⟨⟨a, dx, fs, rfl, ha⟩, ⟨b, dy, gs, rfl, hb⟩, hsp⟩ := hq
  have ev : v = Value.ref a := rx
  have eu : u = Value.ref b := ry
  have cl := call_cmp F hr hx I (us := [v, u]) (vs := [V.ref a, V.ref b]) (.cons rx (.cons ry .nil)) hsp
  subst ev eu
  obtain ⟨mA, J, _⟩ := ins_get I.hok ha
  obtain ⟨od, J, _⟩ := J.look
  obtain ⟨mB, J', _⟩ := ins_get I.hok hb
  obtain ⟨od', J', _⟩ := J'.look
  obtain ⟨m, hF⟩ := I.fr
  rw [hc]
  exact PySem.W.cmp_K hr.units0 hF I.ok.mod.kin J J'.type nf at_ fn cl
/-- x in o by the own method -/
def rInOwn (C : Addr) (sp : Sp) (E : XK) (neg : Bool) : R2 := fun x y H Q => (∃ a dx fs, y = .ref a ∧ H a = some (.ins C dx fs)) ∧ sp [y, x] H (fun v H' => ∃ b, v = .bl b ∧ Q (.bl (if neg then !b else b)) H') E
theorem op_inOwn (at_ : PySem.W.findIn X.K (.ref C) "__contains__" = some (some (.ref f))) (fn : PySem.W.isFn X.K (.ref f) = true)
    (F : FnR X.prog X.w X.K X.mg X.base CX k f sp) (hr : Room k X.A) (hx : Passes CX X E) : OpR X (compareOp .In) (rInOwn C sp E false) := by
  intro pins s σ H x y v u Q I rx ry hq
  obtain ⟨⟨a, dx, fs, rfl, ha⟩, hsp⟩ := hq
  have eu : u = Value.ref a := ry
  have cl := wpAny_call (run_fnR (us := [u, v]) (vs := [V.ref a, x]) F hr hx I (.cons ry (.cons rx .nil)) hsp)
  subst eu
  obtain ⟨mA, J, _⟩ := ins_get I.hok ha
  obtain ⟨od, J, _⟩ := J.look
  obtain ⟨m, hF⟩ := I.fr
  refine PySem.W.in_K hF I.ok.mod.kin J at_ fn (wpAny_mono cl (fun r s' z => ?_) fun _ _ z => z)
  obtain ⟨v', H', I', rv, b, rfl, q⟩ := z
  have er : r = Value.bool b := rv
  subst er
  exact wpAny_truthy_bool ⟨.bl b, H', I', rfl, q⟩
end
/-! static methods -/
structure SMet (K : PySem.W.Frag) (C : Addr) (mc : Value) (m : Str) (p g : Addr) : Prop where
  at_ : PySem.W.findCls K (.ref C) mc m = some (.get (.builtin "staticmethod.__get__") (.ref p) .none (.ref C))
  rc : ∃ rest, PySem.W.recIn K p "staticmethod" = some (.ref g :: rest)
  kp : PySem.W.keepIn K (.ref g) = true
def tSMeth (C : Addr) (sp : Sp) (E : XK) (ta : TE) (t : TA) : TE := fun σ H Q => ta σ H fun x H1 => x = .ref C ∧ t σ H1 fun vs H2 => sp vs H2 Q E
section
variable {X : Cx} {CX : CXT} {k : Nat} {C p g : Addr} {mc : Value} {sp : Sp} {E : XK} {o e : Expr} {es : List Expr} {m : Str} {pos apos : Pos} {ta : TE} {t : TA} {pl : Sem Bool}
theorem pe_smeth (he : PE X o ta) (r : ClX.CRead X.K C mc) (c : SMet X.K C mc m p g) (F : FnR X.prog X.w X.K X.mg X.base CX k g sp) (hr : Room k X.A) (hx : Passes CX X E) (ha : PA X (e :: es) t)
    (hst : starEach (e :: es) X.env = (false, eval e X.env) :: starEach es X.env := by rfl) (hpl : (backTo pos (starEach es X.env)).any (·.1) = false := by rfl)
    (ht : eval (.Call (.Attribute o m apos) (e :: es) [] pos) X.env = (do
      let ov ← eval o X.env
      standAt apos.atName
      let (f, first) ← holding [ov] (getMethod ov m pl)
      callWith pos f first (backTo pos (starEach (e :: es) X.env)) (backToKw pos (keywordEach [] X.env))) := by rfl) :
    PE X (.Call (.Attribute o m apos) (e :: es) [] pos) (tSMeth C sp E ta t) := by
  refine ⟨fun pins s σ H Q I h => ?_⟩
  refine PySem.W.methodCall_KW (pl := pl) (thn (he.run pins s σ H _ I h) fun u s1 ⟨x, H1, I1, rx, ex, q⟩ => ?_) ht
  subst ex
  obtain rfl : u = Value.ref C := rx
  obtain ⟨rest, hp⟩ := c.rc
  refine PySem.W.method_cls I1.kIn r.ga (PySem.W.cls_bind I1.kIn r.rd c.at_ (wpAny_call (PySem.W.sm_get (s := { s1 with toks := s1.toks + 1 }) I1.kIn hp (PySem.W.handed_on rfl ?_))))
  have I2 : L2.Inv X pins σ H1 { s1 with toks := s1.toks + 1 } := I1.tok _
  refine PySem.W.callWith_K (h₀ := X.base) I2.ok.mod.kin c.kp (thn (ha.run pos pins _ σ H1 _ I2 q) fun us s3 ⟨vs, H2, I3, rv, q2⟩ => ⟨I3.kIn, ?_⟩) hst hpl
  exact wpAny_call (run_fnR F hr hx I3 rv q2)
end
/-! C(*xs) -/
section
variable {X : Cx} {CX : CXT} {k : Nat} {f C : Addr} {sp : Sp} {E : XK} {x : Str} {e : Expr} {te : TE} {p pos sp_ : Pos}
def tMakeS (K : PySem.W.Frag) (C : Addr) (sp : Sp) (E : XK) (te : TE) : TE := fun σ H Q => te σ H fun y H1 => ∃ a xs, y = V.ref a ∧ (SqT K H1 a xs ∨ SqL K H1 a xs) ∧ ∀ x dx, H1 x = Option.none → H1 dx = Option.none → dx ≠ x →
  sp (V.ref x :: xs) (upd (upd H1 dx (.own x)) x (.ins C dx [])) (fun v H2 => v = .non ∧ Q (.ref x) H2) E
theorem pe_makeS (M : Mk X.K C f) (F : FnR X.prog X.w X.K X.mg X.base CX k f sp) (hr : Room (k + 1) X.A) (hg : Gl X x) (hm : X.mg x = some (.ref C)) (hx : Passes CX X E) (he : PE X e te) (hd : (x == ("__debug__" : Str)) = false := by decide)
    (hst : starEach [.Starred e sp_] X.env = [(true, eval e X.env)] := by rfl) :
    PE X (.Call (.Name x p) [.Starred e sp_] [] pos) (tMakeS X.K C sp E te) := by
  refine ⟨fun pins s σ H Q I h => ?_⟩
  refine wpAny_Call_Name_kw (ld_glob I hg hm ?_ hd)
  refine PySem.W.callWith_S (h₀ := X.base) I.ok.mod.kin M.kp (thn (he.run pins s σ H _ I h) fun v s1 ⟨y, H1, I1, ry, a, xs, ey, hxs, q⟩ => ?_) hst
  subst ey
  obtain rfl : v = Value.ref a := ry
  exact StX.star_any I1 hxs fun us s2 I2 rv => ⟨I2.kIn, StX.run_makeR M F hr hx I2 rv q⟩
def tMakeZ (C : Addr) (sp : Sp) (E : XK) : TE := fun _ H Q => ∀ x dx, H x = Option.none → H dx = Option.none → dx ≠ x →
  sp [V.ref x] (upd (upd H dx (.own x)) x (.ins C dx [])) (fun v H2 => v = .non ∧ Q (.ref x) H2) E
end
end Vx
set_option Elab.async false
set_option linter.all false
set_option maxRecDepth 100000
namespace Toy
open PySem PySem.Spec PyProof.Rows L2
def topS (i : Nat) : Stmt := PySem.Challenge.pw_trustedpages_k03_sums_and_cuts_of_moment.main.body.getD i (.Pass ⟨0, 0, 0, 0⟩)
abbrev s_is_whole : Stmt := topS 4
theorem sc_is_whole : FnScope ["value"] ["value"] (defScope s_is_whole) := ⟨rfl, rfl, rfl, by decide +kernel, rfl, by decide +kernel, by decide +kernel⟩
-- is_whole cells []
abbrev s_is_between : Stmt := topS 5
theorem sc_is_between : FnScope ["value", "low", "high"] ["value", "low", "high"] (defScope s_is_between) := ⟨rfl, rfl, rfl, by decide +kernel, rfl, by decide +kernel, by decide +kernel⟩
-- is_between cells []
abbrev s_is_writer_number : Stmt := topS 9
theorem sc_is_writer_number : FnScope ["value"] ["value"] (defScope s_is_writer_number) := ⟨rfl, rfl, rfl, by decide +kernel, rfl, by decide +kernel, by decide +kernel⟩
-- is_writer_number cells []
abbrev s_number_of : Stmt := topS 10
theorem sc_number_of : FnScope ["value"] ["value"] (defScope s_number_of) := ⟨rfl, rfl, rfl, by decide +kernel, rfl, by decide +kernel, by decide +kernel⟩
-- number_of cells []
abbrev s_Moment_init : Stmt := inClass (topS 11) 0
theorem sc_Moment_init : FnScope ["self", "writers", "writer", "k"] ["self", "writers"] (defScope s_Moment_init) := ⟨rfl, rfl, rfl, by decide +kernel, rfl, by decide +kernel, by decide +kernel⟩
-- Moment_init cells ['writers']
abbrev s_Moment_of : Stmt := inClass (topS 11) 1
theorem sc_Moment_of : FnScope ["number", "writers", "k"] ["number"] (defScope s_Moment_of) := ⟨rfl, rfl, rfl, by decide +kernel, rfl, by decide +kernel, by decide +kernel⟩
-- Moment_of cells ['number']
abbrev s_Moment_number : Stmt := inClass (topS 11) 2
theorem sc_Moment_number : FnScope ["self"] ["self"] (defScope s_Moment_number) := ⟨rfl, rfl, rfl, by decide +kernel, rfl, by decide +kernel, by decide +kernel⟩
-- Moment_number cells []
abbrev s_Moment_writers : Stmt := inClass (topS 11) 3
theorem sc_Moment_writers : FnScope ["self", "k"] ["self"] (defScope s_Moment_writers) := ⟨rfl, rfl, rfl, by decide +kernel, rfl, by decide +kernel, by decide +kernel⟩
-- Moment_writers cells ['self']
abbrev s_Moment_len : Stmt := inClass (topS 11) 4
theorem sc_Moment_len : FnScope ["self"] ["self"] (defScope s_Moment_len) := ⟨rfl, rfl, rfl, by decide +kernel, rfl, by decide +kernel, by decide +kernel⟩
-- Moment_len cells []
abbrev s_Moment_or : Stmt := inClass (topS 11) 6
theorem sc_Moment_or : FnScope ["self", "other", "number"] ["self", "other"] (defScope s_Moment_or) := ⟨rfl, rfl, rfl, by decide +kernel, rfl, by decide +kernel, by decide +kernel⟩
-- Moment_or cells []
abbrev s_Moment_ror : Stmt := inClass (topS 11) 7
theorem sc_Moment_ror : FnScope ["self", "other"] ["self", "other"] (defScope s_Moment_ror) := ⟨rfl, rfl, rfl, by decide +kernel, rfl, by decide +kernel, by decide +kernel⟩
-- Moment_ror cells []
abbrev s_Moment_and : Stmt := inClass (topS 11) 8
theorem sc_Moment_and : FnScope ["self", "other", "number"] ["self", "other"] (defScope s_Moment_and) := ⟨rfl, rfl, rfl, by decide +kernel, rfl, by decide +kernel, by decide +kernel⟩
-- Moment_and cells []
abbrev s_Moment_rand : Stmt := inClass (topS 11) 9
theorem sc_Moment_rand : FnScope ["self", "other"] ["self", "other"] (defScope s_Moment_rand) := ⟨rfl, rfl, rfl, by decide +kernel, rfl, by decide +kernel, by decide +kernel⟩
-- Moment_rand cells []
abbrev s_Moment_sub : Stmt := inClass (topS 11) 10
theorem sc_Moment_sub : FnScope ["self", "other", "number"] ["self", "other"] (defScope s_Moment_sub) := ⟨rfl, rfl, rfl, by decide +kernel, rfl, by decide +kernel, by decide +kernel⟩
-- Moment_sub cells []
abbrev s_Moment_rsub : Stmt := inClass (topS 11) 11
theorem sc_Moment_rsub : FnScope ["self", "other", "number"] ["self", "other"] (defScope s_Moment_rsub) := ⟨rfl, rfl, rfl, by decide +kernel, rfl, by decide +kernel, by decide +kernel⟩
-- Moment_rsub cells []
abbrev s_Moment_eq : Stmt := inClass (topS 11) 12
theorem sc_Moment_eq : FnScope ["self", "other"] ["self", "other"] (defScope s_Moment_eq) := ⟨rfl, rfl, rfl, by decide +kernel, rfl, by decide +kernel, by decide +kernel⟩
-- Moment_eq cells []
abbrev s_Moment_le : Stmt := inClass (topS 11) 13
theorem sc_Moment_le : FnScope ["self", "other"] ["self", "other"] (defScope s_Moment_le) := ⟨rfl, rfl, rfl, by decide +kernel, rfl, by decide +kernel, by decide +kernel⟩
-- Moment_le cells []
abbrev s_Moment_lt : Stmt := inClass (topS 11) 14
theorem sc_Moment_lt : FnScope ["self", "other"] ["self", "other"] (defScope s_Moment_lt) := ⟨rfl, rfl, rfl, by decide +kernel, rfl, by decide +kernel, by decide +kernel⟩
-- Moment_lt cells []
abbrev s_Moment_ge : Stmt := inClass (topS 11) 15
theorem sc_Moment_ge : FnScope ["self", "other"] ["self", "other"] (defScope s_Moment_ge) := ⟨rfl, rfl, rfl, by decide +kernel, rfl, by decide +kernel, by decide +kernel⟩
-- Moment_ge cells []
abbrev s_Moment_gt : Stmt := inClass (topS 11) 16
theorem sc_Moment_gt : FnScope ["self", "other"] ["self", "other"] (defScope s_Moment_gt) := ⟨rfl, rfl, rfl, by decide +kernel, rfl, by decide +kernel, by decide +kernel⟩
-- Moment_gt cells []
abbrev s_law_pot : Stmt := topS 13
theorem sc_law_pot : FnScope ["script", "cell"] ["script"] (defScope s_law_pot) := ⟨rfl, rfl, rfl, by decide +kernel, rfl, by decide +kernel, by decide +kernel⟩
-- law_pot cells []
abbrev s_law_draw : Stmt := topS 14
theorem sc_law_draw : FnScope ["pot", "many", "cells", "at", "cell"] ["pot", "many"] (defScope s_law_draw) := ⟨rfl, rfl, rfl, by decide +kernel, rfl, by decide +kernel, by decide +kernel⟩
-- law_draw cells []
abbrev s_law_bits : Stmt := topS 15
theorem sc_law_bits : FnScope ["number", "bits", "k"] ["number"] (defScope s_law_bits) := ⟨rfl, rfl, rfl, by decide +kernel, rfl, by decide +kernel, by decide +kernel⟩
-- law_bits cells []
abbrev s_law_one : Stmt := topS 16
theorem sc_law_one : FnScope ["one", "other", "sign", "k"] ["one", "other", "sign"] (defScope s_law_one) := ⟨rfl, rfl, rfl, by decide +kernel, rfl, by decide +kernel, by decide +kernel⟩
-- law_one cells ['one', 'other']
abbrev s_law : Stmt := topS 17
theorem sc_law : FnScope ["script", "pot", "first", "second", "one", "a", "b", "k", "other", "writer", "pairs", "moment", "due", "joined"] ["script"] (defScope s_law) := ⟨rfl, rfl, rfl, by decide +kernel, rfl, by decide +kernel, by decide +kernel⟩
-- law cells ['a']
end Toy
set_option Elab.async false
set_option linter.all false
set_option maxRecDepth 100000
set_option maxHeartbeats 2000000
namespace Toy
open PySem PySem.Spec PyProof.Rows L2
/-! ### heaps -/
theorem same_upd {H : Hp} {p : Addr} {o : HO} (h : H p = none) : Same H (upd H p o) := fun b x e => by
  rw [upd_ne (ne_of_none e h)]
  exact e
/-! ### moments as numbers -/
def mo (n : Nat) : List (Str × V) := [("_number", .int n)]
def MoAt (C : Addr) (H : Hp) (p : Addr) (n : Nat) : Prop := n < 2147483648 ∧ ∃ dx, H p = some (.ins C dx (mo n))
theorem MoAt.same {C : Addr} {H H' : Hp} {p : Addr} {n : Nat} (h : MoAt C H p n) (s : Same H H') : MoAt C H' p n := ⟨h.1, h.2.imp fun _ e => s _ _ e⟩
def vi (k : Nat) : V := .int k
def bits (n : Nat) : List Nat := (List.range 31).filter fun k => n.testBit k
/-- what the text says of the class and the names -/
structure Txt (K : PySem.W.Frag) (mg : Str → Option Value) (C : Addr) : Prop where
  cl : Cls K C
  nN : NoAttr K C "_number"
  mgC : mg "Moment" = some (.ref C)
  len : mg "len" = none
  int : mg "int" = none
  bool : mg "bool" = none
  isi : mg "isinstance" = none
  range : mg "range" = none
  sum : mg "sum" = none
  list : mg "list" = none
  cC : PySem.W.findIn K (.ref C) "__class__" = some (some (.builtin "object.__class__"))
  cG : PySem.W.specialIn K (.builtin "object.__class__") "__get__" = some (some (.builtin "getset_descriptor.__get__"))
  cT : PySem.W.takesIn K (.builtin "object.__class__") = some true
  cM : PySem.W.mroIn K C (.type "object") = some true
  kCC : PySem.W.kitOne K (.ref C) (.ref C) = some true
  kIC : PySem.W.kitOne K (.type "int") (.ref C) = some false
  lw : ∃ t, mg "LAST_WRITER" = some (.int 30 t)
  ln : ∃ t, mg "LAST_NUMBER" = some (.int 2147483647 t)
section
variable {P : Program} {w : World} {K : PySem.W.Frag} {mg : Str → Option Value} {base : Heap} {C : Addr}
/-! ### is_whole -/
def spWhole : Sp := fun vs H Q _ => ∃ i : Int, vs = [.int i] ∧ Q (.bl true) H
theorem ok_is_whole {f : Addr} {fd : FuncData} (F : Fun K "is_whole" "is_whole" s_is_whole f fd) (T : Txt K mg C) : FnOk P w K mg base CX0 1 f fd ["value"] spWhole := by
  refine F.ok sc_is_whole (fun vs H Q E h => ?_) (fun cdv A outer s H vs Q E hr h => ?_)
  · obtain ⟨i, rfl, _⟩ := h
    rfl
  · obtain ⟨i, rfl, q⟩ := h
    refine ⟨_, pss_one (ps_ret (pe_and (pe_callB call_isi (by rfl) T.isi (by decide +kernel) (pa_cons (pv 0) (pa_cons (pe_bltn (v := .ty "int") (by rfl) T.int (by decide +kernel) rfl) pa_nil)))
      (pe_one (pe_not (pe_callB call_isi (by rfl) T.isi (by decide +kernel) (pa_cons (pv 0) (pa_cons (pe_bltn (v := .ty "bool") (by rfl) T.bool (by decide +kernel) rfl) pa_nil))))))), ?_⟩
    refine ⟨_, rfl, .int i, .ty "int", _, _, true, rfl, .ty _, .base (.int i), kit_ty (by decide +kernel), true, rfl, iteT ?_⟩
    exact ⟨_, rfl, .int i, .ty "bool", _, _, false, rfl, .ty _, .base (.int i), kit_ty (by decide +kernel), false, rfl, q⟩
/-! ### is_between -/
def spBetw : Sp := fun vs H Q _ => ∃ i l h : Int, vs = [.int i, .int l, .int h] ∧ Q (.bl (decide (l ≤ i ∧ i ≤ h))) H
theorem ok_is_between {f fW : Addr} {fd fdW : FuncData} (F : Fun K "is_between" "is_between" s_is_between f fd) (T : Txt K mg C) (FW : Fun K "is_whole" "is_whole" s_is_whole fW fdW) (bW : L2.Binds K fdW ["value"] []) (gW : mg "is_whole" = some (.ref fW)) :
    FnOk P w K mg base CX0 2 f fd ["value", "low", "high"] spBetw := by
  have GW : FnOk P w K mg base CX0 1 fW fdW ["value"] spWhole := ok_is_whole FW T
  refine F.ok sc_is_between (fun vs H Q E h => ?_) (fun cdv A outer s H vs Q E hr h => ?_)
  · obtain ⟨i, l, h, rfl, _⟩ := h
    rfl
  · obtain ⟨i, l, u, rfl, q⟩ := h
    refine ⟨_, pss_one (ps_ret (pe_and (pe_call GW hr (by rfl) gW FW.kp bW .nil pass0 (pa_cons (pv 0) pa_nil)) (pe_one (pe_chain op_le op_le (pv 1) (pv 0) (pv 2))))), ?_⟩
    refine ⟨_, rfl, i, rfl, true, rfl, iteT ?_⟩
    refine ⟨_, rfl, _, rfl, l, i, rfl, rfl, decide (l ≤ i), rfl, ?_⟩
    by_cases h1 : l ≤ i
    · rw [decide_eq_true h1]
      refine iteT ⟨_, rfl, i, u, rfl, rfl, ?_⟩
      have e : decide (l ≤ i ∧ i ≤ u) = decide (i ≤ u) := by by_cases h2 : i ≤ u <;> simp [h1, h2]
      rw [e] at q
      exact q
    · rw [decide_eq_false h1]
      have e : decide (l ≤ i ∧ i ≤ u) = false := by simp [h1]
      rw [e] at q
      exact iteF q
end
end Toy
set_option Elab.async false
set_option linter.all false
set_option maxRecDepth 100000
set_option maxHeartbeats 2000000
namespace Toy
open PySem PySem.Spec PyProof.Rows L2
/-! ### the mathematics of bits -/
theorem bits_succ (p : Nat → Bool) (i : Nat) : (List.range (i + 1)).filter p = if p i = true then (List.range i).filter p ++ [i] else (List.range i).filter p := by
  rw [List.range_succ, List.filter_append]
  by_cases h : p i = true
  · rw [if_pos h, List.filter_cons_of_pos h]
    rfl
  · rw [if_neg h, List.filter_cons_of_neg h, List.filter_nil, List.append_nil]
theorem mod_succ (n i : Nat) : n % 2 ^ (i + 1) = n % 2 ^ i + (if n.testBit i = true then 2 ^ i else 0) := by
  rw [Nat.pow_succ, Nat.mod_mul, Nat.testBit_eq_decide_div_mod_eq]
  by_cases h : n / 2 ^ i % 2 = 1
  · rw [h, if_pos (by decide), Nat.mul_one]
  · have h0 : n / 2 ^ i % 2 = 0 := by omega
    rw [h0, if_neg (by decide), Nat.mul_zero]
theorem sum_bits (n : Nat) : ∀ i : Nat, (((List.range i).filter fun k => n.testBit k).map fun k => ((2 ^ k : Nat) : Int)).sum = ((n % 2 ^ i : Nat) : Int)
  | 0 => by simp [Nat.mod_one]
  | i + 1 => by
    have ih := sum_bits n i
    rw [bits_succ, mod_succ]
    by_cases h : n.testBit i = true
    · rw [if_pos h, if_pos h, List.map_append, List.sum_append, ih]
      simp
    · rw [if_neg h, if_neg h, ih]
      simp
theorem mem_bits {n k : Nat} : k ∈ bits n ↔ k < 31 ∧ n.testBit k = true := by
  unfold bits
  rw [List.mem_filter, List.mem_range]
theorem inV_vi (k : Nat) (ws : List Nat) : inV (vi k) (ws.map vi) = decide (k ∈ ws) := by
  unfold inV
  induction ws with
  | nil => rfl
  | cons a r ih =>
    rw [List.map_cons, List.any_cons, ih]
    show ((((a : Nat) : Int) == ((k : Nat) : Int)) || decide (k ∈ r)) = decide (k ∈ a :: r)
    by_cases h : a = k
    · subst h
      simp
    · have h1 : (((a : Nat) : Int) == ((k : Nat) : Int)) = false := by
        simp
        omega
      rw [h1]
      have h2 : k ≠ a := fun e => h e.symm
      simp [h2]
theorem flat_vi (ws : List Nat) : (ws.map vi).all flatV = true := by
  rw [List.all_map]
  simp [Function.comp, vi, flatV]
theorem filter_bits_mem (n : Nat) (i : Nat) (hi : i ≤ 31) : (List.range i).filter (fun k => decide (k ∈ bits n)) = (List.range i).filter (fun k => n.testBit k) := by
  apply List.filter_congr
  intro k hk
  have h : k < 31 := Nat.lt_of_lt_of_le (List.mem_range.mp hk) hi
  by_cases b : n.testBit k = true
  · rw [b]
    exact decide_eq_true (mem_bits.mpr ⟨h, b⟩)
  · have b' : n.testBit k = false := by simpa using b
    rw [b']
    exact decide_eq_false fun z => b (mem_bits.mp z).2
theorem bit_test (n k : Nat) : ((Builtin.bitAnd ((n : Int) / 2 ^ k) 1 : Int) != 0) = n.testBit k := by
  have e : ((n : Int) / 2 ^ k) = ((n / 2 ^ k : Nat) : Int) := by simp
  rw [e, bitAnd_pp (Int.natCast_nonneg _) (by decide), Int.toNat_natCast]
  show (((n / 2 ^ k &&& 1 : Nat) : Int) != 0) = _
  rw [Nat.testBit_eq_decide_div_mod_eq, Nat.and_one_is_mod]
  by_cases h : n / 2 ^ k % 2 = 1
  · rw [h]
    decide
  · have h0 : n / 2 ^ k % 2 = 0 := by omega
    rw [h0]
    decide
section
variable {P : Program} {w : World} {K : PySem.W.Frag} {mg : Str → Option Value} {base : Heap} {C : Addr}
/-! ### is_writer_number -/
def spIsW : Sp := fun vs H Q _ => ∃ i : Int, vs = [.int i] ∧ Q (.bl (decide (0 ≤ i ∧ i ≤ 30))) H
theorem ok_is_writer {f fB : Addr} {fd fdB : FuncData} (F : Fun K "is_writer_number" "is_writer_number" s_is_writer_number f fd) (T : Txt K mg C) (GB : FnOk P w K mg base CX0 2 fB fdB ["value", "low", "high"] spBetw) (kB : PySem.W.keepIn K (.ref fB) = true)
    (bB : L2.Binds K fdB ["value", "low", "high"] []) (gB : mg "is_between" = some (.ref fB)) : FnOk P w K mg base CX0 3 f fd ["value"] spIsW := by
  obtain ⟨t, lw⟩ := T.lw
  refine F.ok sc_is_writer_number (fun vs H Q E h => ?_) (fun cdv A outer s H vs Q E hr h => ?_)
  · obtain ⟨i, rfl, _⟩ := h
    rfl
  · obtain ⟨i, rfl, q⟩ := h
    refine ⟨_, pss_one (ps_ret (pe_call GB hr (by rfl) gB kB bB .nil pass0 (pa_cons (pv 0) (pa_cons pe_int (pa_cons (pe_glob (v := .int 30) (by rfl) lw ⟨_, rfl⟩) pa_nil))))), ?_⟩
    exact ⟨_, rfl, i, 0, 30, rfl, q⟩
/-! ### _number_of -/
/-- what stands on the right: a moment or a writer, with its number -/
def Arg (C : Addr) (H : Hp) (y : V) (m : Nat) : Prop := m < 2147483648 ∧ ((∃ b, y = .ref b ∧ MoAt C H b m) ∨ ∃ k : Nat, y = vi k ∧ k ≤ 30 ∧ m = 2 ^ k)
def spNum (C : Addr) : Sp := fun vs H Q _ => ∃ (v : V) (m : Nat), vs = [v] ∧ Arg C H v m ∧ Q (vi m) H
theorem ok_number_of {f fI : Addr} {fd fdI : FuncData} (F : Fun K "_number_of" "_number_of" s_number_of f fd) (T : Txt K mg C) (GI : FnOk P w K mg base CX0 3 fI fdI ["value"] spIsW) (kI : PySem.W.keepIn K (.ref fI) = true)
    (bI : L2.Binds K fdI ["value"] []) (gI : mg "is_writer_number" = some (.ref fI)) : FnOk P w K mg base CX0 4 f fd ["value"] (spNum C) := by
  refine F.ok sc_number_of (fun vs H Q E h => ?_) (fun cdv A outer s H vs Q E hr h => ?_)
  · obtain ⟨i, m, rfl, _⟩ := h
    rfl
  · obtain ⟨v, m, rfl, ha, q⟩ := h
    refine ⟨_, pss_cons (ps_if (pt_val (pe_callB call_isi (by rfl) T.isi (by decide +kernel) (pa_cons (pv 0) (pa_cons (pe_glob (v := .ref C) (by rfl) T.mgC rfl) pa_nil)))) (pss_one (ps_ret (pe_fld (pv 0) rfl))) pss_nil)
      (pss_cons (ps_if (pt_val (pe_call GI hr (by rfl) gI kI bI .nil pass0 (pa_cons (pv 0) pa_nil))) (pss_one (ps_ret (pe_op op_shl pe_int (pv 0)))) pss_nil) (pss_one (ps_ret pe_non))), ?_⟩
    obtain ⟨hm, ⟨p, rfl, hn, dx, hp⟩ | ⟨k, rfl, hk, rfl⟩⟩ := ha
    · refine ⟨_, rfl, .ref p, .ref C, .ref C, .ref C, true, rfl, .own C, .base (.ins hp T.cl T.cC T.cG T.cT T.cM), T.kCC, true, rfl, iteT ?_⟩
      exact ⟨_, rfl, p, C, dx, _, _, rfl, hp, T.cl, T.nN, rfl, q⟩
    · refine ⟨_, rfl, .int k, .ref C, .type "int", .ref C, false, rfl, .own C, .base (.int k), T.kIC, false, rfl, iteF ?_⟩
      refine ⟨_, rfl, (k : Int), rfl, _, rfl, ?_⟩
      have e : decide ((0 : Int) ≤ (k : Int) ∧ (k : Int) ≤ 30) = true := decide_eq_true ⟨by omega, by omega⟩
      rw [e]
      refine iteT ⟨_, rfl, 1, (k : Int), rfl, rfl, ⟨by omega, by omega, by decide⟩, ?_⟩
      have e2 : ((1 : Int) * 2 ^ ((k : Int)).toNat) = ((2 ^ k : Nat) : Int) := by simp
      show Q (.int (1 * 2 ^ ((k : Int)).toNat)) H
      rw [e2]
      exact q
end
end Toy
set_option Elab.async false
set_option linter.all false
set_option maxRecDepth 100000
set_option maxHeartbeats 2000000
namespace Toy
open PySem PySem.Spec PyProof.Rows L2
theorem not_upd {H : Hp} {p q : Addr} {o : HO} (h : p ≠ q) : (upd H q o) p = H p := upd_ne h
section
variable {P : Program} {w : World} {K : PySem.W.Frag} {mg : Str → Option Value} {base : Heap} {C : Addr}
/-! ### __init__: the body, with its tuple of writers -/
def spInit (C : Addr) : Sp := fun vs H Q _ => ∃ (H0 : Hp) (p dx t : Addr) (n : Nat), vs = [.ref p, .ref t] ∧ n < 2147483648 ∧ Same H0 H ∧ H0 p = none ∧ H p = some (.ins C dx []) ∧ H t = some (.tup ((bits n).map vi)) ∧
  ∀ H', Same H0 H' → H' p = some (.ins C dx (mo n)) → Q .non H'
theorem body_init {A : Around} {outer : List Env} {s : Shared} {H : Hp} {vs : List V} {Q : VK} {E : XK} {f fI : Addr} {fdI : FuncData} {cdv : Value} (T : Txt K mg C) (GI : FnOk P w K mg base CX0 3 fI fdI ["value"] spIsW) (kI : PySem.W.keepIn K (.ref fI) = true)
    (bI : L2.Binds K fdI ["value"] []) (gI : mg "is_writer_number" = some (.ref fI)) (hr : Room 3 (A.deeper (envOfC "Moment.__init__" (defScope s_Moment_init) s.heap.objs.size f cdv))) (h : spInit C vs H Q E) :
    ∃ t, PSs (cxOf CX0 P w K mg base ["self", "writers", "writer", "k"] "Moment.__init__" (defScope s_Moment_init) f cdv A outer s H E) (defBody s_Moment_init) t ∧ t { nx := fun _ H' => Q .non H', rt := Q } (L2.start ["self", "writers", "writer", "k"] vs) H := by
  obtain ⟨tk, lw⟩ := T.lw
  obtain ⟨H0, p, dx, t, n, rfl, hn, s0, p0, hp, ht, q⟩ := h
  refine ⟨_, PSs.nox (pss_cons (ps_for PassesOwn.never rfl (pi_tup (pv 1)) (pg_name (i := 2) sc_Moment_init.nd rfl (Or.inl rfl))
      (pss_one (ps_if (pt_not (pt_val (pe_call GI hr (by rfl) gI kI bI .nil pass0 (pa_cons (pv 2) pa_nil)))) (pss_one ps_never) pss_nil)))
    (pss_one (ps_fld (pv 0) (pe_callB (cr_sum rfl) (by rfl) T.sum (by decide +kernel) (pa_cons
      (pe_lc (own := [("k", 3)]) (g := gName 3) rfl sc_Moment_init.nd (pi_range1 (by rfl) T.range (pa_cons (pe_op op_add (pe_glob (v := .int 30) (by rfl) lw ⟨_, rfl⟩) pe_int) pa_nil))
        (blkOk_by (own := [("k", 3)]) (N := ["self", "writers", "writer", "k"]) (sc := defScope s_Moment_init) (by decide +kernel)) (fun _ _ _ _ _ => pg_name (i := 3) sc_Moment_init.nd rfl (Or.inl rfl))
        (fun _ _ _ _ _ => pts_one (pt_cmpR (show OpR _ (compareOp .In) (rIn K false) from op_in_seq) (pv 3) (pv 1) (by rfl))) (fun _ _ _ _ _ => pe_op op_shl pe_int (pv 3))) pa_nil)) rfl))), ?_⟩
  have hT : SqT K H t ((bits n).map vi) := SqT.of ht
  refine ⟨.ref t, rfl, t, rfl, ⟨_, hT⟩, for_tup (K := K) (a := t) (xs := (bits n).map vi) (fun i σ H' => H' = H ∧ ∃ v, σ = [some (.ref p), some (.ref t), v, none]) ⟨rfl, none, rfl⟩ (fun i σ H' _ e => e.1 ▸ hT) ?_ ?_⟩
  · rintro i x σ H' hi ⟨rfl, v, rfl⟩
    obtain ⟨k, hk, rfl⟩ : ∃ k, k < 31 ∧ x = vi k := by
      obtain ⟨j, hj, e⟩ := List.mem_map.mp (List.mem_of_getElem? hi)
      exact ⟨j, (mem_bits.mp hj).1, e.symm⟩
    refine ⟨_, rfl, (k : Int), rfl, _, rfl, ?_⟩
    have e : decide ((0 : Int) ≤ (k : Int) ∧ (k : Int) ≤ 30) = true := decide_eq_true ⟨by omega, by omega⟩
    rw [e]
    exact iteF ⟨rfl, _, rfl⟩
  · rintro σ H' ⟨rfl, v, rfl⟩
    refine ⟨30, 1, rfl, rfl, 31, rfl, by decide, by decide, fun D hD => ?_⟩
    have sD : ∀ xs, Same H' (upd H' D (.lst xs)) := fun xs => same_upd hD
    refine lc_range (lo := 0) (n := 31) (fun i H2 => Same H' H2 ∧ H2 D = some (.lst (((List.range i).filter fun k => decide (k ∈ bits n)).map fun k => V.int ((2 ^ k : Nat) : Int)))) ⟨sD _, upd_same⟩ ?_ ?_
    · rintro i H2 hi ⟨s2, e2⟩
      refine ⟨rfl, .int (0 + (i : Int)), rfl, .ref t, rfl, t, _, rfl, .inr (SqT.of (s2 _ _ ht)), rfl, flat_vi _, _, rfl, ?_⟩
      have ei : V.int (0 + (i : Int)) = vi i := by rw [Int.zero_add]; rfl
      show if (if false = true then !inV (V.int (0 + (i : Int))) ((bits n).map vi) else inV (V.int (0 + (i : Int))) ((bits n).map vi)) = true then _ else _
      rw [ei, inV_vi]
      by_cases hm : i ∈ bits n
      · refine ite2 (fun _ => ?_) (fun z => absurd (by simpa using hm) z)
        refine ⟨vi i, rfl, 1, (i : Int), rfl, rfl, ⟨by omega, by omega, by decide⟩, _, e2, ?_, fun b o e => ?_, ?_⟩
        · rw [List.length_map]
          exact Nat.lt_of_le_of_lt (Nat.le_trans (List.length_filter_le _ _) (by rw [List.length_range]; exact Nat.le_of_lt hi)) (by decide)
        · rw [upd_ne (ne_of_none e hD)]
          exact s2 _ _ e
        · rw [upd_same, bits_succ, if_pos (decide_eq_true hm), List.map_append]
          have e3 : (1 : Int) * 2 ^ ((i : Int)).toNat = ((2 ^ i : Nat) : Int) := by simp
          show some (HO.lst (_ ++ [V.int (1 * 2 ^ ((i : Int)).toNat)])) = _
          rw [e3]
          rfl
      · refine ite2 (fun z => absurd (by simpa using z) hm) (fun _ => ⟨s2, ?_⟩)
        rw [bits_succ, if_neg (by simpa using hm)]
        exact e2
    · rintro H2 ⟨s2, e2⟩
      refine ⟨D, ((List.range 31).filter fun k => decide (k ∈ bits n)).map fun k => ((2 ^ k : Nat) : Int), rfl, SqL.of (by rw [List.map_map]; exact e2), ?_⟩
      rw [filter_bits_mem n 31 (Nat.le_refl _), sum_bits, Nat.mod_eq_of_lt (show n < 2 ^ 31 from hn)]
      refine ⟨_, rfl, p, C, dx, [], rfl, s2 _ _ hp, T.cl, T.nN, (by decide), ?_⟩
      refine q _ (fun b o e => ?_) upd_same
      have nb : b ≠ p := fun z => by rw [z, p0] at e; cases e
      rw [upd_ne nb]
      exact s2 _ _ (s0 _ _ e)
end
end Toy
set_option Elab.async false
set_option linter.all false
set_option maxRecDepth 100000
set_option maxHeartbeats 2000000
namespace Vx
open PySem PySem.Spec PyProof.Rows L2
theorem pe_fldK {X : Cx} {K : PySem.W.Frag} {e : Expr} {f : Str} {ta : TE} {pos : Pos} (hK : X.K = K) (he : PE X e ta) (hb : attributeBase e f X.env (eval e X.env) = eval e X.env) : PE X (.Attribute e f pos) (tFld K ta f) := hK ▸ pe_fld he hb
theorem op_inK {X : Cx} {K : PySem.W.Frag} (hK : X.K = K) : OpR X (compareOp .In) (rIn K false) := hK ▸ op_in_seq
theorem op_notInK {X : Cx} {K : PySem.W.Frag} (hK : X.K = K) : OpR X (compareOp .NotIn) (rIn K true) := hK ▸ op_notIn_seq
def tTru (K : PySem.W.Frag) (ta : TE) : TT := fun σ H Q => ta σ H fun x H' => ∃ k, TruV K x H' k ∧ Q k H'
theorem pt_truthK {X : Cx} {K : PySem.W.Frag} {a : Expr} {ta : TE} (hK : X.K = K) (ha : PE X a ta) (he : ∀ whole, isTrue a X.env whole = (do let v ← whole; standAt a.pos; holding [v] (truthy v))) :
    PT X a (tTru K ta) := hK ▸ pt_truth ha he
end Vx
namespace Toy
open PySem PySem.Spec PyProof.Rows L2
theorem dec_int (a b : Nat) : decide (V.int (a : Int) = V.int (b : Int)) = decide (a = b) := by
  by_cases h : a = b
  · subst h
    rw [decide_eq_true rfl, decide_eq_true rfl]
  · rw [decide_eq_false h, decide_eq_false fun z => h (by injection z with z; omega)]
theorem and_pp (n m : Nat) : Builtin.bitAnd (n : Int) (m : Int) = ((n &&& m : Nat) : Int) := by
  rw [bitAnd_pp (Int.natCast_nonneg _) (Int.natCast_nonneg _), Int.toNat_natCast, Int.toNat_natCast]
theorem or_pp (n m : Nat) : Builtin.bitOr (n : Int) (m : Int) = ((n ||| m : Nat) : Int) := by
  rw [Bits.bitOr_pp (Int.natCast_nonneg _) (Int.natCast_nonneg _), Int.toNat_natCast, Int.toNat_natCast]
theorem two_pow_lt {k : Nat} (h : k ≤ 30) : 2 ^ k < 2147483648 := Nat.lt_of_le_of_lt (Nat.pow_le_pow_right (by decide) h) (by decide)
/-- a list of the numbers for which p holds, by a comprehension -/
theorem acc_len (p : Nat → Bool) {i : Nat} (hi : i < 31) : (((List.range i).filter p).map vi).length < sizeLine := by
  rw [List.length_map]
  exact Nat.lt_of_le_of_lt (Nat.le_trans (List.length_filter_le _ _) (by rw [List.length_range]; exact Nat.le_of_lt hi)) (by decide)
section
variable {P : Program} {w : World} {K : PySem.W.Frag} {mg : Str → Option Value} {base : Heap} {C : Addr}
/-- Moment's __init__, called with the writers -/
def spMk (C : Addr) : Sp := fun vs H Q _ => ∃ (H0 : Hp) (p dx : Addr) (n : Nat), vs = .ref p :: (bits n).map vi ∧ n < 2147483648 ∧ Same H0 H ∧ H0 p = none ∧ H p = some (.ins C dx []) ∧ ∀ H', Same H0 H' → H' p = some (.ins C dx (mo n)) → Q .non H'
theorem ok_init {f fI : Addr} {fdI : FuncData} {oc kV doc pm cdv ct : Value} {od an : Option Addr} {osl : Array (Option Value)} (lk : K.lookup f = some ⟨oc, od, .func (PySem.W.fnOf "__init__" "Moment.__init__" (defArgs s_Moment_init) (defBody s_Moment_init) (defScope s_Moment_init) .none kV doc pm an cdv ct), osl⟩)
    (hcd : PySem.W.codeIn K cdv "Moment.__init__" = true) (T : Txt K mg C) (GI : FnOk P w K mg base CX0 3 fI fdI ["value"] spIsW) (kI : PySem.W.keepIn K (.ref fI) = true) (bI : L2.Binds K fdI ["value"] []) (gI : mg "is_writer_number" = some (.ref fI)) :
    FnR P w K mg base CX0 4 f (spMk C) := by
  have z : FnR P w K mg base CX0 4 f _ := StX.fn_star (sp := spInit C) (ps := ["self"]) (pv := "writers") lk hcd sc_Moment_init StX.cxUp_none (StX.bind_star1 (B := fun us => bindArgs (PySem.W.fnOf "__init__" "Moment.__init__" (defArgs s_Moment_init) (defBody s_Moment_init) (defScope s_Moment_init) .none kV doc pm an cdv ct) ⟨us, []⟩) (p1 := "self") (pv := "writers") (fun a => by rfl) (fun a r rs => by rfl)) (fun A outer s H vs Q E hr h => body_init T GI kI bI gI hr h)
  refine z.imp fun vs H Q E h => ?_
  obtain ⟨H0, p, dx, n, rfl, hn, s0, p0, hp, q⟩ := h
  refine ⟨[.ref p], (bits n).map vi, rfl, rfl, ?_, fun t ht => ?_⟩
  · rw [List.length_map]
    exact Nat.le_trans (Nat.le_trans (List.length_filter_le _ _) (by rw [List.length_range]; exact Nat.le_refl _)) (by decide : 31 ≤ sizeLine)
  · have npt : p ≠ t := ne_of_none hp ht
    exact ⟨H0, p, dx, t, n, rfl, hn, s0.trans (same_upd ht), p0, by rw [upd_ne npt]; exact hp, upd_same, q⟩
/-! ### of -/
def spOf (C : Addr) : Sp := fun vs H Q _ => ∃ n : Nat, vs = [vi n] ∧ n < 2147483648 ∧ ∀ H' p, Same H H' → H p = none → MoAt C H' p n → Q (.ref p) H'
theorem ok_of {f fB fM : Addr} {fd fdB : FuncData} (F : Fun K "of" "Moment.of" s_Moment_of f fd) (T : Txt K mg C) (GB : FnOk P w K mg base CX0 2 fB fdB ["value", "low", "high"] spBetw) (kB : PySem.W.keepIn K (.ref fB) = true)
    (bB : L2.Binds K fdB ["value", "low", "high"] []) (gB : mg "is_between" = some (.ref fB)) (M : Mk K C fM) (GM : FnR P w K mg base CX0 4 fM (spMk C)) : FnOk P w K mg base CX0 6 f fd ["number"] (spOf C) := by
  obtain ⟨tl, ln⟩ := T.ln
  obtain ⟨tw, lw⟩ := T.lw
  refine F.ok sc_Moment_of (fun vs H Q E h => ?_) (fun cdv A outer s H vs Q E hr h => ?_)
  · obtain ⟨i, rfl, _⟩ := h
    rfl
  · obtain ⟨n, rfl, hn, q⟩ := h
    have hr2 : Room 2 _ := hr.mono (by decide)
    refine ⟨_, pss_cons (ps_if (pt_not (pt_val (pe_call GB hr2 (by rfl) gB kB bB .nil pass0 (pa_cons (pv 0) (pa_cons pe_int (pa_cons (pe_glob (v := .int 2147483647) (by rfl) ln ⟨_, rfl⟩) pa_nil)))))) (pss_one ps_never) pss_nil)
      (pss_cons (ps_setLc (i := 1) (own := [("k", 2)]) (g := gName 2) rfl sc_Moment_of.nd rfl rfl (sw_true rfl rfl rfl (by decide +kernel)) (pi_range1 (by rfl) T.range (pa_cons (pe_op op_add (pe_glob (v := .int 30) (by rfl) lw ⟨_, rfl⟩) pe_int) pa_nil))
        (blkOk_by (own := [("k", 2)]) (N := ["number", "writers", "k"]) (sc := defScope s_Moment_of) (by decide +kernel)) (fun _ _ _ _ _ => pg_name (i := 2) sc_Moment_of.nd rfl (Or.inl rfl))
        (fun _ _ _ _ _ => pts_one (Vx.pt_truthK (K := K) rfl (pe_op op_and (pe_op op_shr (pv 0) (pv 2)) pe_int) (by intro _; rfl))) (fun _ _ _ _ _ => pv 2))
      (pss_one (ps_ret (Vx.pe_makeS M GM hr (by rfl) T.mgC pass0 (pv 1))))), ?_⟩
    refine ⟨_, rfl, (n : Int), 0, 2147483647, rfl, _, rfl, ?_⟩
    have e : decide ((0 : Int) ≤ (n : Int) ∧ (n : Int) ≤ 2147483647) = true := decide_eq_true ⟨by omega, by omega⟩
    rw [e]
    refine iteF ⟨30, 1, rfl, rfl, 31, rfl, by decide, by decide, fun D hD => ?_⟩
    refine lc_range (lo := 0) (n := 31) (fun i H2 => Same H H2 ∧ H2 D = some (.lst (((List.range i).filter fun k => n.testBit k).map vi))) ⟨same_upd hD, upd_same⟩ ?_ ?_
    · rintro i H2 hi ⟨s2, e2⟩
      refine ⟨rfl, vi n, rfl, .int (0 + (i : Int)), rfl, (n : Int), _, rfl, rfl, by omega, _, _, rfl, rfl, (Builtin.bitAnd ((n : Int) / 2 ^ (0 + (i : Int)).toNat) 1 != 0), rfl, ?_⟩
      have ei : (0 + (i : Int)).toNat = i := by omega
      rw [ei, bit_test]
      by_cases hm : n.testBit i = true
      · refine ite2 (fun _ => ?_) (fun z => absurd hm z)
        refine ⟨.int (0 + (i : Int)), rfl, _, e2, acc_len _ hi, fun b o e => ?_, ?_⟩
        · rw [upd_ne (ne_of_none e hD)]
          exact s2 _ _ e
        · rw [upd_same, bits_succ, if_pos hm, List.map_append, Int.zero_add]
          rfl
      · refine ite2 (fun z => absurd z hm) (fun _ => ?_)
        refine ⟨s2, ?_⟩
        rw [bits_succ, if_neg hm]
        exact e2
    · rintro H2 ⟨s2, e2⟩
      refine ⟨.ref D, rfl, D, (bits n).map vi, rfl, .inr (SqL.of e2), fun x dx nx ndx ne => ?_⟩
      refine ⟨H2, x, dx, n, rfl, hn, fun b o e => ?_, nx, upd_same, fun H3 s3 e3 => ⟨rfl, ?_⟩⟩
      · rw [upd_ne (ne_of_none e nx), upd_ne (ne_of_none e ndx)]
        exact e
      · refine q H3 x (s2.trans s3) (s2.free nx) ⟨hn, dx, e3⟩
/-! ### writers -/
def spWri (C : Addr) : Sp := fun vs H Q _ => ∃ (p : Addr) (n : Nat), vs = [.ref p] ∧ MoAt C H p n ∧ ∀ H' l, Same H H' → H l = none → H' l = some (.lst ((bits n).map vi)) → Q (.ref l) H'
theorem ok_writers {f : Addr} {fd : FuncData} (F : Fun K "writers" "Moment.writers" s_Moment_writers f fd) (T : Txt K mg C) : FnOk P w K mg base CX0 1 f fd ["self"] (spWri C) := by
  obtain ⟨tw, lw⟩ := T.lw
  refine F.ok sc_Moment_writers (fun vs H Q E h => ?_) (fun cdv A outer s H vs Q E hr h => ?_)
  · obtain ⟨p, n, rfl, _⟩ := h
    rfl
  · obtain ⟨p, n, rfl, ⟨hn, dx, hp⟩, q⟩ := h
    refine ⟨_, pss_one (ps_ret (pe_lc (own := [("k", 1)]) (g := gName 1) rfl sc_Moment_writers.nd (pi_range1 (by rfl) T.range (pa_cons (pe_op op_add (pe_glob (v := .int 30) (by rfl) lw ⟨_, rfl⟩) pe_int) pa_nil))
        (blkOk_by (own := [("k", 1)]) (N := ["self", "k"]) (sc := defScope s_Moment_writers) (by decide +kernel)) (fun _ _ _ _ _ => pg_name (i := 1) sc_Moment_writers.nd rfl (Or.inl rfl))
        (fun _ _ _ _ _ => pts_one (Vx.pt_truthK (K := K) rfl (pe_op op_and (pe_op op_shr (Vx.pe_fldK (K := K) rfl (pv 0) rfl) (pv 1)) pe_int) (by intro _; rfl))) (fun _ _ _ _ _ => pv 1))), ?_⟩
    refine ⟨30, 1, rfl, rfl, 31, rfl, by decide, by decide, fun D hD => ?_⟩
    refine lc_range (lo := 0) (n := 31) (fun i H2 => Same H H2 ∧ H2 D = some (.lst (((List.range i).filter fun k => n.testBit k).map vi))) ⟨same_upd hD, upd_same⟩ ?_ ?_
    · rintro i H2 hi ⟨s2, e2⟩
      refine ⟨rfl, .ref p, rfl, p, C, dx, _, _, rfl, s2 _ _ hp, T.cl, T.nN, rfl, .int (0 + (i : Int)), rfl, (n : Int), _, rfl, rfl, by omega, _, _, rfl, rfl, (Builtin.bitAnd ((n : Int) / 2 ^ (0 + (i : Int)).toNat) 1 != 0), rfl, ?_⟩
      have ei : (0 + (i : Int)).toNat = i := by omega
      rw [ei, bit_test]
      by_cases hm : n.testBit i = true
      · refine ite2 (fun _ => ?_) (fun z => absurd hm z)
        refine ⟨.int (0 + (i : Int)), rfl, _, e2, acc_len _ hi, fun b o e => ?_, ?_⟩
        · rw [upd_ne (ne_of_none e hD)]
          exact s2 _ _ e
        · rw [upd_same, bits_succ, if_pos hm, List.map_append, Int.zero_add]
          rfl
      · refine ite2 (fun z => absurd z hm) (fun _ => ?_)
        refine ⟨s2, ?_⟩
        rw [bits_succ, if_neg hm]
        exact e2
    · rintro H2 ⟨s2, e2⟩
      exact q H2 D s2 hD e2
end
end Toy
set_option Elab.async false
set_option linter.all false
set_option maxRecDepth 100000
set_option maxHeartbeats 2000000
namespace Toy
open PySem PySem.Spec PyProof.Rows L2
/-- the operators' text -/
structure Ops (K : PySem.W.Frag) (mg : Str → Option Value) (C fN fO pO mcG : Addr) (mc : Value) : Prop where
  gN : mg "_number_of" = some (.ref fN)
  kN : PySem.W.keepIn K (.ref fN) = true
  rd : ClX.CRead K C mc
  sm : Vx.SMet K C mc "of" pO fO
section
variable {P : Program} {w : World} {K : PySem.W.Frag} {mg : Str → Option Value} {base : Heap} {C : Addr}
/-! ### a | b, a & b -/
def spBin (C : Addr) (g : Nat → Nat → Nat) : Sp := fun vs H Q _ => ∃ (p : Addr) (n m : Nat) (y : V), vs = [.ref p, y] ∧ MoAt C H p n ∧ Arg C H y m ∧ ∀ H' q, Same H H' → H q = none → MoAt C H' q (g n m) → Q (.ref q) H'
theorem ok_or {f fN fO pO x : Addr} {mc : Value} {fd fdN : FuncData} (F : Fun K "__or__" "Moment.__or__" s_Moment_or f fd) (T : Txt K mg C) (O : Ops K mg C fN fO pO x mc) (GN : FnOk P w K mg base CX0 4 fN fdN ["value"] (spNum C)) (bN : L2.Binds K fdN ["value"] [])
    (GO : FnR P w K mg base CX0 6 fO (spOf C)) : FnOk P w K mg base CX0 7 f fd ["self", "other"] (spBin C fun n m => n ||| m) := by
  refine F.ok sc_Moment_or (fun vs H Q E h => ?_) (fun cdv A outer s H vs Q E hr h => ?_)
  · obtain ⟨p, n, m, y, rfl, _⟩ := h
    rfl
  · obtain ⟨p, n, m, y, rfl, hp, ha, q⟩ := h
    have hr4 : Room 4 _ := hr.mono (by decide)
    refine ⟨_, pss_cons (ps_set (i := 2) sc_Moment_or.nd rfl (Or.inl rfl) (pe_call GN hr4 (by rfl) O.gN O.kN bN .nil pass0 (pa_cons (pv 1) pa_nil)))
      (pss_cons (ps_if (pt_cmpR op_isN (pv 2) pe_non (nomark _)) (pss_one ps_never) pss_nil)
      (pss_one (ps_ret (Vx.pe_smeth (pe_glob (v := .ref C) (by rfl) T.mgC rfl) O.rd O.sm GO hr pass0 (pa_cons (pe_op op_or (pe_fld (pv 0) rfl) (pv 2)) pa_nil))))), ?_⟩
    refine ⟨_, rfl, y, m, rfl, ha, ?_⟩
    refine ⟨_, rfl, rfl, _, rfl, iteF ?_⟩
    obtain ⟨hn, dx, hp'⟩ := id hp
    refine ⟨rfl, _, rfl, p, C, dx, _, _, rfl, hp', T.cl, T.nN, rfl, _, rfl, (n : Int), (m : Int), rfl, rfl, n ||| m, ?_, Nat.or_lt_two_pow (n := 31) hn ha.1, fun H' r s' hr' hm' => q H' r s' hr' hm'⟩
    show [V.int (Builtin.bitOr (n : Int) (m : Int))] = [vi (n ||| m)]
    rw [or_pp]
    rfl
theorem ok_and {f fN fO pO x : Addr} {mc : Value} {fd fdN : FuncData} (F : Fun K "__and__" "Moment.__and__" s_Moment_and f fd) (T : Txt K mg C) (O : Ops K mg C fN fO pO x mc) (GN : FnOk P w K mg base CX0 4 fN fdN ["value"] (spNum C)) (bN : L2.Binds K fdN ["value"] [])
    (GO : FnR P w K mg base CX0 6 fO (spOf C)) : FnOk P w K mg base CX0 7 f fd ["self", "other"] (spBin C fun n m => n &&& m) := by
  refine F.ok sc_Moment_and (fun vs H Q E h => ?_) (fun cdv A outer s H vs Q E hr h => ?_)
  · obtain ⟨p, n, m, y, rfl, _⟩ := h
    rfl
  · obtain ⟨p, n, m, y, rfl, hp, ha, q⟩ := h
    have hr4 : Room 4 _ := hr.mono (by decide)
    refine ⟨_, pss_cons (ps_set (i := 2) sc_Moment_and.nd rfl (Or.inl rfl) (pe_call GN hr4 (by rfl) O.gN O.kN bN .nil pass0 (pa_cons (pv 1) pa_nil)))
      (pss_cons (ps_if (pt_cmpR op_isN (pv 2) pe_non (nomark _)) (pss_one ps_never) pss_nil)
      (pss_one (ps_ret (Vx.pe_smeth (pe_glob (v := .ref C) (by rfl) T.mgC rfl) O.rd O.sm GO hr pass0 (pa_cons (pe_op op_and (pe_fld (pv 0) rfl) (pv 2)) pa_nil))))), ?_⟩
    refine ⟨_, rfl, y, m, rfl, ha, ?_⟩
    refine ⟨_, rfl, rfl, _, rfl, iteF ?_⟩
    obtain ⟨hn, dx, hp'⟩ := id hp
    refine ⟨rfl, _, rfl, p, C, dx, _, _, rfl, hp', T.cl, T.nN, rfl, _, rfl, (n : Int), (m : Int), rfl, rfl, n &&& m, ?_, Nat.lt_of_le_of_lt Nat.and_le_left hn, fun H' r s' hr' hm' => q H' r s' hr' hm'⟩
    show [V.int (Builtin.bitAnd (n : Int) (m : Int))] = [vi (n &&& m)]
    rw [and_pp]
    rfl
/-! ### comparisons -/
def spCmp (C : Addr) (g : Nat → Nat → Bool) : Sp := fun vs H Q _ => ∃ (p r : Addr) (n m : Nat), vs = [.ref p, .ref r] ∧ MoAt C H p n ∧ MoAt C H r m ∧ Q (.bl (g n m)) H
def gLe (n m : Nat) : Bool := decide (n &&& m = n)
def gGe (n m : Nat) : Bool := decide (n &&& m = m)
def gLt (n m : Nat) : Bool := decide (n &&& m = n) && decide (n ≠ m)
def gGt (n m : Nat) : Bool := decide (n &&& m = m) && decide (n ≠ m)
def gEq (n m : Nat) : Bool := decide (n = m)
theorem isi_mo {p : Addr} {n : Nat} {H : Hp} (T : Txt K mg C) (h : MoAt C H p n) : TyX K H (.ref p) (.ref C) := by
  obtain ⟨_, dx, e⟩ := h
  exact .base (.ins e T.cl T.cC T.cG T.cT T.cM)
theorem ok_le {f : Addr} {fd : FuncData} (F : Fun K "__le__" "Moment.__le__" s_Moment_le f fd) (T : Txt K mg C) : FnOk P w K mg base CX0 1 f fd ["self", "other"] (spCmp C gLe) := by
  refine F.ok sc_Moment_le (fun vs H Q E h => ?_) (fun cdv A outer s H vs Q E hr h => ?_)
  · obtain ⟨p, r, n, m, rfl, _⟩ := h
    rfl
  · obtain ⟨p, r, n, m, rfl, hp, hm, q⟩ := h
    refine ⟨_, pss_cons (ps_if (pt_not (pt_val (pe_callB call_isi (by rfl) T.isi (by decide +kernel) (pa_cons (pv 1) (pa_cons (pe_glob (v := .ref C) (by rfl) T.mgC rfl) pa_nil))))) (pss_one ps_never) pss_nil)
      (pss_one (ps_ret (pe_cmpR op_eq (pe_op op_and (pe_fld (pv 0) rfl) (pe_fld (pv 1) rfl)) (pe_fld (pv 0) rfl) (nomark _)))), ?_⟩
    refine ⟨_, rfl, .ref r, .ref C, .ref C, .ref C, true, rfl, .own C, isi_mo T hm, T.kCC, true, rfl, iteF ?_⟩
    obtain ⟨_, dx, hp'⟩ := hp
    obtain ⟨_, dy, hm'⟩ := hm
    refine ⟨_, rfl, p, C, dx, _, _, rfl, hp', T.cl, T.nN, rfl, _, rfl, r, C, dy, _, _, rfl, hm', T.cl, T.nN, rfl, (n : Int), (m : Int), rfl, rfl, _, rfl, p, C, dx, _, _, rfl, hp', T.cl, T.nN, rfl, rfl, ?_⟩
    show Q (V.bl (decide (V.int (Builtin.bitAnd (n : Int) (m : Int)) = V.int (n : Int)))) H
    rw [and_pp, dec_int]
    exact q
theorem ok_ge {f : Addr} {fd : FuncData} (F : Fun K "__ge__" "Moment.__ge__" s_Moment_ge f fd) (T : Txt K mg C) : FnOk P w K mg base CX0 1 f fd ["self", "other"] (spCmp C gGe) := by
  refine F.ok sc_Moment_ge (fun vs H Q E h => ?_) (fun cdv A outer s H vs Q E hr h => ?_)
  · obtain ⟨p, r, n, m, rfl, _⟩ := h
    rfl
  · obtain ⟨p, r, n, m, rfl, hp, hm, q⟩ := h
    refine ⟨_, pss_cons (ps_if (pt_not (pt_val (pe_callB call_isi (by rfl) T.isi (by decide +kernel) (pa_cons (pv 1) (pa_cons (pe_glob (v := .ref C) (by rfl) T.mgC rfl) pa_nil))))) (pss_one ps_never) pss_nil)
      (pss_one (ps_ret (pe_cmpR op_eq (pe_op op_and (pe_fld (pv 0) rfl) (pe_fld (pv 1) rfl)) (pe_fld (pv 1) rfl) (nomark _)))), ?_⟩
    refine ⟨_, rfl, .ref r, .ref C, .ref C, .ref C, true, rfl, .own C, isi_mo T hm, T.kCC, true, rfl, iteF ?_⟩
    obtain ⟨_, dx, hp'⟩ := hp
    obtain ⟨_, dy, hm'⟩ := hm
    refine ⟨_, rfl, p, C, dx, _, _, rfl, hp', T.cl, T.nN, rfl, _, rfl, r, C, dy, _, _, rfl, hm', T.cl, T.nN, rfl, (n : Int), (m : Int), rfl, rfl, _, rfl, r, C, dy, _, _, rfl, hm', T.cl, T.nN, rfl, rfl, ?_⟩
    show Q (V.bl (decide (V.int (Builtin.bitAnd (n : Int) (m : Int)) = V.int (m : Int)))) H
    rw [and_pp, dec_int]
    exact q
/-- what the text says of a comparison's method -/
structure CmpF (K : PySem.W.Frag) (C f : Addr) (op : CmpOp) : Prop where
  nf : PySem.W.notFirst K C (.ref C) = true
  at_ : PySem.W.findIn K (.ref C) (cmpInfo op).2.1 = some (some (.ref f))
  fn : PySem.W.isFn K (.ref f) = true
theorem ok_lt {f fL : Addr} {fd : FuncData} (F : Fun K "__lt__" "Moment.__lt__" s_Moment_lt f fd) (T : Txt K mg C) (L : CmpF K C fL .LtE) (GL : FnR P w K mg base CX0 1 fL (spCmp C gLe)) : FnOk P w K mg base CX0 2 f fd ["self", "other"] (spCmp C gLt) := by
  refine F.ok sc_Moment_lt (fun vs H Q E h => ?_) (fun cdv A outer s H vs Q E hr h => ?_)
  · obtain ⟨p, r, n, m, rfl, _⟩ := h
    rfl
  · obtain ⟨p, r, n, m, rfl, hp, hm, q⟩ := h
    refine ⟨_, pss_cons (ps_if (pt_not (pt_val (pe_callB call_isi (by rfl) T.isi (by decide +kernel) (pa_cons (pv 1) (pa_cons (pe_glob (v := .ref C) (by rfl) T.mgC rfl) pa_nil))))) (pss_one ps_never) pss_nil)
      (pss_one (ps_ret (pe_and (pe_cmpR (Vx.op_cmpOwn (op := .LtE) (fun _ _ => rfl) L.nf L.at_ L.fn GL hr pass0) (pv 0) (pv 1) (nomark _)) (pe_one (pe_cmpR op_ne (pe_fld (pv 0) rfl) (pe_fld (pv 1) rfl) (nomark _)))))), ?_⟩
    refine ⟨_, rfl, .ref r, .ref C, .ref C, .ref C, true, rfl, .own C, isi_mo T hm, T.kCC, true, rfl, iteF ?_⟩
    obtain ⟨_, dx, hp'⟩ := id hp
    obtain ⟨_, dy, hm'⟩ := id hm
    refine ⟨_, rfl, _, rfl, ⟨p, dx, _, rfl, hp'⟩, ⟨r, dy, _, rfl, hm'⟩, p, r, n, m, rfl, hp, hm, gLe n m, rfl, ?_⟩
    by_cases hl : n &&& m = n
    · have e : gLe n m = true := decide_eq_true hl
      rw [e]
      refine iteT ⟨_, rfl, p, C, dx, _, _, rfl, hp', T.cl, T.nN, rfl, _, rfl, r, C, dy, _, _, rfl, hm', T.cl, T.nN, rfl, rfl, ?_⟩
      show Q (V.bl (!decide (V.int (n : Int) = V.int (m : Int)))) H
      rw [dec_int]
      have e2 : gLt n m = !decide (n = m) := by unfold gLt; rw [decide_eq_true hl]; simp
      rw [e2] at q
      exact q
    · have e : gLe n m = false := decide_eq_false hl
      rw [e]
      have e2 : gLt n m = false := by unfold gLt; rw [decide_eq_false hl]; rfl
      rw [e2] at q
      exact iteF q
theorem ok_gt {f fL : Addr} {fd : FuncData} (F : Fun K "__gt__" "Moment.__gt__" s_Moment_gt f fd) (T : Txt K mg C) (L : CmpF K C fL .GtE) (GL : FnR P w K mg base CX0 1 fL (spCmp C gGe)) : FnOk P w K mg base CX0 2 f fd ["self", "other"] (spCmp C gGt) := by
  refine F.ok sc_Moment_gt (fun vs H Q E h => ?_) (fun cdv A outer s H vs Q E hr h => ?_)
  · obtain ⟨p, r, n, m, rfl, _⟩ := h
    rfl
  · obtain ⟨p, r, n, m, rfl, hp, hm, q⟩ := h
    refine ⟨_, pss_cons (ps_if (pt_not (pt_val (pe_callB call_isi (by rfl) T.isi (by decide +kernel) (pa_cons (pv 1) (pa_cons (pe_glob (v := .ref C) (by rfl) T.mgC rfl) pa_nil))))) (pss_one ps_never) pss_nil)
      (pss_one (ps_ret (pe_and (pe_cmpR (Vx.op_cmpOwn (op := .GtE) (fun _ _ => rfl) L.nf L.at_ L.fn GL hr pass0) (pv 0) (pv 1) (nomark _)) (pe_one (pe_cmpR op_ne (pe_fld (pv 0) rfl) (pe_fld (pv 1) rfl) (nomark _)))))), ?_⟩
    refine ⟨_, rfl, .ref r, .ref C, .ref C, .ref C, true, rfl, .own C, isi_mo T hm, T.kCC, true, rfl, iteF ?_⟩
    obtain ⟨_, dx, hp'⟩ := id hp
    obtain ⟨_, dy, hm'⟩ := id hm
    refine ⟨_, rfl, _, rfl, ⟨p, dx, _, rfl, hp'⟩, ⟨r, dy, _, rfl, hm'⟩, p, r, n, m, rfl, hp, hm, gGe n m, rfl, ?_⟩
    by_cases hl : n &&& m = m
    · have e : gGe n m = true := decide_eq_true hl
      rw [e]
      refine iteT ⟨_, rfl, p, C, dx, _, _, rfl, hp', T.cl, T.nN, rfl, _, rfl, r, C, dy, _, _, rfl, hm', T.cl, T.nN, rfl, rfl, ?_⟩
      show Q (V.bl (!decide (V.int (n : Int) = V.int (m : Int)))) H
      rw [dec_int]
      have e2 : gGt n m = !decide (n = m) := by unfold gGt; rw [decide_eq_true hl]; simp
      rw [e2] at q
      exact q
    · have e : gGe n m = false := decide_eq_false hl
      rw [e]
      have e2 : gGt n m = false := by unfold gGt; rw [decide_eq_false hl]; rfl
      rw [e2] at q
      exact iteF q
theorem ok_eq {f : Addr} {fd : FuncData} (F : Fun K "__eq__" "Moment.__eq__" s_Moment_eq f fd) (T : Txt K mg C) : FnOk P w K mg base CX0 1 f fd ["self", "other"] (spCmp C gEq) := by
  refine F.ok sc_Moment_eq (fun vs H Q E h => ?_) (fun cdv A outer s H vs Q E hr h => ?_)
  · obtain ⟨p, r, n, m, rfl, _⟩ := h
    rfl
  · obtain ⟨p, r, n, m, rfl, hp, hm, q⟩ := h
    refine ⟨_, pss_one (ps_ret (pe_and (pe_callB call_isi (by rfl) T.isi (by decide +kernel) (pa_cons (pv 1) (pa_cons (pe_glob (v := .ref C) (by rfl) T.mgC rfl) pa_nil))) (pe_one (pe_cmpR op_eq (pe_fld (pv 0) rfl) (pe_fld (pv 1) rfl) (nomark _))))), ?_⟩
    refine ⟨_, rfl, .ref r, .ref C, .ref C, .ref C, true, rfl, .own C, isi_mo T hm, T.kCC, true, rfl, iteT ?_⟩
    obtain ⟨_, dx, hp'⟩ := hp
    obtain ⟨_, dy, hm'⟩ := hm
    refine ⟨_, rfl, p, C, dx, _, _, rfl, hp', T.cl, T.nN, rfl, _, rfl, r, C, dy, _, _, rfl, hm', T.cl, T.nN, rfl, rfl, ?_⟩
    show Q (V.bl (decide (V.int (n : Int) = V.int (m : Int)))) H
    rw [dec_int]
    exact q
end
end Toy
set_option Elab.async false
set_option linter.all false
set_option maxRecDepth 100000
set_option maxHeartbeats 2000000
namespace Vx
open PySem PySem.Spec PyProof.Rows L2
section
variable {X : Cx} {CX : CXT} {k : Nat} {C f : Addr} {sp : Sp} {E : XK} {pins : List (Addr × Obj)} {σ : L2.St} {H : Hp} {s : Shared} {Q : VK} {A : Around}
/-- a def called somewhere below the running body -/
theorem run_in {us : List Value} {vs : List V} (sb : Sub X k A) (F : FnR X.prog X.w X.K X.mg X.base CX k f sp) (hx : Passes CX X E) (I : L2.Inv X pins σ H s) (r : Vals vs us) (h : sp vs H Q E) :
    codeAny (model X.prog X.w) A (.call (.ref f) ⟨us, []⟩) (fun r s' => match r with | .ok (.ret v) => EP X pins σ Q v s' | .ok _ => False | .error e => X.xe e s') s := by
  have e0 : Env0 X.prog X.w X.K X.mg X.base A X.stack s H := by
    have e := I.env0
    exact ⟨by rw [sb.fr]; exact e.frames, e.mod, e.bs, e.bsz, e.funs, e.frf, e.hok, e.bare⟩
  refine codeAny_mono (F A X.stack s H us vs Q E sb.room e0 r h) fun r s' hq => ?_
  cases r with
  | error e => exact hx pins σ H s e s' I hq
  | ok fl =>
    cases fl with
    | ret u => exact I.after hq
    | next => exact False.elim hq
    | brk => exact False.elim hq
    | cont => exact False.elim hq
end
section
variable {prog : Program} {w : World} {A : Around} {E : Value → Shared → Prop} {s : Shared} {K : PySem.W.Frag} {x C L f : Addr} {h₀ : Heap} {m : Str → Option Value} {ox : Obj} {od : Option Obj} {b : Value}
open PySem.W in
theorem ne_body (hu : A.units < cLine) (X : K.In s.heap) (I : InstAt s.heap x ox C od) (he : findIn K (.ref C) "__eq__" = some (some (.ref f))) (hf : isFn K (.ref f) = true) {Q : Value → Shared → Prop}
    (h : wpAny (model prog w) A (call (.ref f) [.ref x, b]) (fun v s' => ∃ r, v = .bool r ∧ Q (.bool (!r)) s') E s) :
    wpAny (model prog w) A (Builtin.«object.__ne__» ⟨[.ref x, b], []⟩) (fun fin s' => ∃ v, fin = .done (.ret v) ∧ Q v s') E s := by
  unfold Builtin.«object.__ne__»
  obtain ⟨hh, g, d, t, os⟩ := s
  have st : wpAny (model prog w) A (callSpecialIfBound? (.ref x) "__eq__" [b]) (fun r s' => ∃ v, r = some (.bool v) ∧ Q (.bool (!v)) s') E ⟨hh, g, d, t, os⟩ :=
    ifBound_K X I he hf (wpAny_mono h (fun v s' hv => by obtain ⟨r, rfl, q⟩ := hv; exact ⟨r, rfl, q⟩) fun _ _ z => z)
  repeat (first | with_reducible refine wpAny_cRoomFor hu ?_ | with_reducible refine wpAny_bind (wpAny_mono st (fun r s' hr => ?_) fun _ _ z => z) | wp_step)
  obtain ⟨v, rfl, q⟩ := hr
  refine wpAny_bind (wpAny_truthy_bool ?_)
  exact wpAny_pure ⟨_, rfl, q⟩
open PySem.W in
theorem ne_K {Q : Value → Shared → Prop} {tb : Value} (hu : A.units + 1 < cLine) (F : Fr h₀ L s.heap m) (X₀ : K.In h₀) (I : InstAt s.heap x ox C od) (hb : Looks (model prog w) s.heap (typeOf b) tb) (hn : notFirst K C tb = true)
    (hs : findIn K (.ref C) "__ne__" = some (some (.builtin "object.__ne__"))) (he : findIn K (.ref C) "__eq__" = some (some (.ref f))) (hf : isFn K (.ref f) = true) (ho : mroIn K C (.type "object") = some true)
    (h : wpAny (model prog w) A.in1 (call (.ref f) [.ref x, b]) (fun v s' => ∃ r, v = .bool r ∧ Q (.bool (!r)) s') E s) : wpAny (model prog w) A (richCompare .NotEq (.ref x) b) Q E s := by
  have X := X₀.keeps F.keep
  have hu0 : A.units < cLine := Nat.lt_trans (Nat.lt_succ_self _) hu
  have cb : wpAny (model prog w) A (call (.builtin "object.__ne__") ([.ref x] ++ [b])) (fun v s' => ∃ r, v = .bool r ∧ Q v s') E s := by
    refine wpAny_call (codeAny_call_builtin PySem.F.cmp_object.ne.plain PySem.F.cmpEntry_ne (check_slot PySem.F.cmpKind_ne PySem.F.cmpSplit_ne (I.type.andThen (looks_mroIn X ho)) (PySem.F.cmpArgs_ne _ _) ?_))
    have z : wpAny (model prog w) A.in1 (Builtin.«object.__ne__» ⟨[.ref x, b], []⟩) (fun fin s' => ∃ v, fin = .done (.ret v) ∧ ∃ r, v = .bool r ∧ Q v s') E s :=
      ne_body (Q := fun v s' => ∃ r, v = .bool r ∧ Q v s') (A := A.in1) hu X I he hf (wpAny_mono h (fun v s' hv => by obtain ⟨r, rfl, q⟩ := hv; exact ⟨r, rfl, _, rfl, q⟩) fun _ _ z => z)
    refine wpAny_mono z (fun fin s' hv => ?_) fun _ _ y => y
    obtain ⟨v, rfl, r, rfl, q⟩ := hv
    exact ⟨r, rfl, q⟩
  have one : wpAny (model prog w) A (tryCompare (.ref x) "__ne__" b) (fun r s' => ∃ v, r = some v ∧ Q v s') E s := by
    unfold tryCompare
    refine wpAny_bind ?_
    simp only [callSpecialIfBound?, bindSpecialIfBound?]
    refine wpAny_holding (wpAny_bind (wpAny_bind (wpAny_bind (I.type.here ((looks_findIn X hs).here ?_)))))
    simp only [PySem.F.cmp_object.ne.bind]
    refine wpAny_bind (wpAny_askSetting (wpAny_ite ?_))
    have fin : wpAny (model prog w) A (call (.builtin "object.__ne__") ([.ref x] ++ [b]) >>= fun v => pure (some v)) (fun r s' => ∃ v, r = some (.bool v) ∧ Q (.bool v) s') E s :=
      wpAny_bind (wpAny_mono cb (fun v s' h' => by obtain ⟨r, rfl, q⟩ := h'; exact wpAny_pure ⟨r, rfl, q⟩) fun _ _ h' => h')
    have fin2 := wpAny_mono fin (Q' := fun r s' => wpAny (model prog w) A (match r with | some .notImplemented => pure none | none => pure none | some v => pure (some v)) (fun r s' => ∃ v, r = some v ∧ Q v s') E s') (fun r s' h' => by obtain ⟨v, rfl, q⟩ := h'; exact wpAny_pure ⟨_, rfl, q⟩) fun _ _ z => z
    split
    · exact wpAny_bind (wpAny_pure (wpAny_pure fin2))
    · exact wpAny_tryCatch (wpAny_bind (wpAny_pure (wpAny_pure fin2)))
  unfold richCompare
  simp only [oneThing_ref]
  refine wpAny_holding (wpAny_bind (wpAny_cRoomFor hu0 ?_))
  refine wpAny_bind (I.type.here (wpAny_bind (hb.here ?_)))
  split
  · rename_i q
    have e : subIn K tb (.ref C) = some false := by
      rcases Bool.or_eq_true_iff.mp hn with e | e
      · rw [beq_iff_eq.mp e] at q; simp at q
      · exact beq_iff_eq.mp e
    refine wpAny_bind ((looks_subIn X e).here ?_)
    simp only [Bool.false_eq_true, if_false]
    refine wpAny_bind (wpAny_mono one (fun r s' z => ?_) fun _ _ e => e)
    obtain ⟨v, rfl, hq⟩ := z
    exact wpAny_pure hq
  · refine wpAny_bind (wpAny_pure ?_)
    simp only [Bool.false_eq_true, if_false]
    refine wpAny_bind (wpAny_mono one (fun r s' z => ?_) fun _ _ e => e)
    obtain ⟨v, rfl, hq⟩ := z
    exact wpAny_pure hq
end
section
variable {X : Cx} {CX : CXT} {k : Nat} {C f : Addr} {sp : Sp} {E : XK}
/-- o != y: not o == y, by the own == -/
def rNeOwn (C : Addr) (sp : Sp) (E : XK) : R2 := fun x y H Q => (∃ a dx fs, x = .ref a ∧ H a = some (.ins C dx fs)) ∧ (∃ b dy gs, y = .ref b ∧ H b = some (.ins C dy gs)) ∧ sp [x, y] H (fun v H' => ∃ r, v = .bl r ∧ Q (.bl (!r)) H') E
theorem op_neOwn (nf : PySem.W.notFirst X.K C (.ref C) = true) (hs : PySem.W.findIn X.K (.ref C) "__ne__" = some (some (.builtin "object.__ne__"))) (he : PySem.W.findIn X.K (.ref C) "__eq__" = some (some (.ref f))) (fn : PySem.W.isFn X.K (.ref f) = true)
    (ho : PySem.W.mroIn X.K C (.type "object") = some true) (F : FnR X.prog X.w X.K X.mg X.base CX k f sp) (hr : Room (k + 1) X.A) (hx : Passes CX X E) : OpR X (compareOp .NotEq) (rNeOwn C sp E) := by
  intro pins s σ H x y v u Q I rx ry hq
  obtain ⟨⟨a, dx, fs, rfl, ha⟩, ⟨b, dy, gs, rfl, hb⟩, hsp⟩ := hq
  have ev : v = Value.ref a := rx
  have eu : u = Value.ref b := ry
  have sb : Sub X k X.A.in1 := (⟨hr, rfl⟩ : Sub X (k + 1) X.A).in1
  have cl := wpAny_call (run_in (us := [v, u]) (vs := [V.ref a, V.ref b]) sb F hx I (.cons rx (.cons ry .nil)) hsp)
  subst ev eu
  obtain ⟨mA, J, _⟩ := ins_get I.hok ha
  obtain ⟨od, J, _⟩ := J.look
  obtain ⟨mB, J', _⟩ := ins_get I.hok hb
  obtain ⟨od', J', _⟩ := J'.look
  obtain ⟨m, hF⟩ := I.fr
  show wpAny (model X.prog X.w) X.A (richCompare .NotEq (.ref a) (.ref b)) (EP X pins σ Q) X.xe s
  refine ne_K (hu_of hr) hF I.ok.mod.kin J J'.type nf hs he fn ho (wpAny_mono cl (fun v s' hv => ?_) fun _ _ z => z)
  obtain ⟨v', H', I', rv, r, rfl, q⟩ := hv
  exact ⟨r, rv, .bl (!r), H', I', rfl, q⟩
end
end Vx
set_option Elab.async false
set_option linter.all false
set_option maxRecDepth 100000
set_option maxHeartbeats 2000000
namespace Vx
open PySem PySem.Spec PyProof.Rows L2
section
variable {prog : Program} {w : World} {M : Model} {A : Around} {E : Value → Shared → Prop} {s : Shared} {K : PySem.W.Frag} {x C L f : Addr} {h₀ : Heap} {m : Str → Option Value} {ox : Obj} {od : Option Obj} {b : Addr} {i : Int} {t : Tok}
open PySem.W in
theorem intB_ref {nm : String} {g : Int → Int → Sem Fin} {Q : Fin → Shared → Prop} (hb : s.heap.get? b = some ox) (hd : ox.data = .plain) (h : Q (.done (.ret .notImplemented)) s) :
    wpAny M A (Builtin.Int.intBinary nm g false ⟨[.int i t, .ref b], []⟩) Q E s := by
  obtain ⟨cls, dict, data, slots⟩ := ox
  simp only at hd
  subst hd
  unfold Builtin.Int.intBinary Builtin.Int.intOfSelf
  obtain ⟨hh, g0, d, tk, os⟩ := s
  repeat (first | with_reducible refine wpAny_load hb ?_ | wp_step)
  all_goals first | exact h | skip
open PySem.W in
/-- a callSpecial? of an int's operator on an instance declines -/
theorem intM_ref {nm id : String} {n : Str} {g : Int → Int → Sem Fin} (S : Slot "int" n id) (en : entryFor table id = some (Builtin.Int.intBinary nm g false)) (ar : argsOk id ⟨[.int i t, .ref b], []⟩) (hb : s.heap.get? b = some ox) (hd : ox.data = .plain) {Q : Option Value → Shared → Prop} (h : Q none s) :
    wpAny (model prog w) A (tryMethod (.int i t) n (.ref b)) Q E s := by
  unfold tryMethod
  refine wpAny_bind (wpAny_callSpecial?_slot (T := "int") (typeIs_int s i t) S (wpAny_call (codeAny_call_builtin S.plain en (S.check _ _ _ _ _ _ _ _ (typeIs_int s i t) ar ?_))))
  exact intB_ref hb hd (wpAny_pure h)
open PySem.W in
theorem rev_K {op : Operator} {id : String} {g : Int → Int → Sem Fin} {fo ro : Option Value} {Q : Value → Shared → Prop} (S : Slot "int" (PySem.dunder op.info.2) id) (en : ∃ nm, entryFor table id = some (Builtin.Int.intBinary nm g false)) (ar : argsOk id ⟨[.int i t, .ref b], []⟩)
    (F : Fr h₀ L s.heap m) (X₀ : K.In h₀) (I : InstAt s.heap b ox C od) (hd : ox.data = .plain) (hc : selfFirst K C = true)
    (hf : ∃ f0 : Addr, findIn K (.ref C) (PySem.dunder op.info.2) = some (some (.ref f0))) (hr : findIn K (.ref C) (dunderR op.info.2) = some (some (.ref f))) (fn : isFn K (.ref f) = true)
    (h1 : findIn K (.type "int") (PySem.dunder op.info.2) = some fo) (h2 : findIn K (.type "int") (dunderR op.info.2) = some ro) (hsub : subIn K (.ref C) (.type "int") = some false)
    (h : wpAny (model prog w) A (call (.ref f) [.ref b, .int i t]) (PySem.W.CmpBack Q) E s) : wpAny (model prog w) A (binaryOp op (.int i t) (.ref b)) Q E s := by
  have X := X₀.keeps F.keep
  obtain ⟨nm, en⟩ := en
  obtain ⟨cd, rest, hcd, hm⟩ := ksp_first hc
  obtain ⟨f0, hf0⟩ := hf
  rcases hi : op.info with ⟨sym, nm'⟩
  rw [hi] at hf0 hr h1 h2 S
  dsimp only at hf0 hr h1 h2 S
  have one := ksp_try (b := .int i t) X I hr fn h
  have decl : ∀ {Q : Option Value → Shared → Prop}, Q none s → wpAny (model prog w) A (tryMethod (.int i t) (PySem.dunder nm') (.ref b)) Q E s := fun q => intM_ref S en ar I.at_ hd q
  obtain ⟨hh, g0, d, tk, os⟩ := s
  have L1 : Looks (model prog w) hh (typeOf (.ref b)) (.ref C) := I.type
  have L2 : Looks (model prog w) hh (typeOf (.int i t)) (.type "int") := Looks.of_pure rfl
  have L3 : Looks (model prog w) hh (fillsNumberSlot (.ref C) nm') true := fills_K X hcd hm hf0
  have L4 : Looks (model prog w) hh (fillsNumberSlot (.type "int") nm') ((fo.isSome && !isSeqSlot fo) || (ro.isSome && !isSeqSlot ro)) := ksp_fillsT X h1 h2
  have L5 : Looks (model prog w) hh (isSubtype (.ref C) (.type "int")) false := looks_subIn X hsub
  have L7 : Looks (model prog w) hh (numberSlotInPython (.type "int") nm') false := Looks.of_pure rfl
  generalize ((fo.isSome && !isSeqSlot fo) || (ro.isSome && !isSeqSlot ro)) = left at L4
  have hne : (Value.type "int" == Value.ref C) = false := Bool.eq_false_iff.mpr fun q => by cases beq_iff_eq.mp q
  simp only [binaryOp, hi]
  refine wpAny_holding (wpAny_bind ?_)
  unfold binaryOp1
  refine wpAny_bind (L2.at (wpAny_bind (L1.at (wpAny_bind (L4.at ?_)))))
  simp only [hne, Bool.false_eq_true, if_false]
  cases left with
  | false =>
    ksp_lk
    refine wpAny_mono one (fun r s' hr' => ?_) fun _ _ e => e
    obtain ⟨v, rfl, hq⟩ := hr'
    ksp_lk
    exact hq
  | true =>
    ksp_lk
    refine decl ?_
    ksp_lk
    refine wpAny_mono one (fun r s' hr' => ?_) fun _ _ e => e
    obtain ⟨v, rfl, hq⟩ := hr'
    ksp_lk
    exact hq
end
/-- what the text says of a reflected operator of the class at C -/
structure OpRF (K : PySem.W.Frag) (C f : Addr) (op : Operator) : Prop where
  sf : PySem.W.selfFirst K C = true
  at_ : ∃ f0 : Addr, PySem.W.findIn K (.ref C) (PySem.dunder op.info.2) = some (some (.ref f0))
  rat : PySem.W.findIn K (.ref C) (PySem.dunderR op.info.2) = some (some (.ref f))
  fn : PySem.W.isFn K (.ref f) = true
  i1 : ∃ fo, PySem.W.findIn K (.type "int") (PySem.dunder op.info.2) = some fo
  i2 : ∃ ro, PySem.W.findIn K (.type "int") (PySem.dunderR op.info.2) = some ro
  sub : PySem.W.subIn K (.ref C) (.type "int") = some false
section
variable {X : Cx} {CX : CXT} {k : Nat} {C f : Addr} {sp : Sp} {E : XK}
/-- n op o, by the reflected method of o's class -/
def rRev (C : Addr) (sp : Sp) (E : XK) : R2 := fun x y H Q => (∃ i, x = .int i) ∧ (∃ a dx fs, y = .ref a ∧ H a = some (.ins C dx fs)) ∧ sp [y, x] H Q E
theorem op_rev {op : Operator} {id : String} {g : Int → Int → Sem Fin} (S : Slot "int" (PySem.dunder op.info.2) id) (en : ∃ nm, entryFor table id = some (Builtin.Int.intBinary nm g false)) (ar : ∀ u v, argsOk id ⟨[u, v], []⟩) (O : OpRF X.K C f op)
    (F : FnR X.prog X.w X.K X.mg X.base CX k f sp) (hr : Room k X.A) (hx : Passes CX X E) : OpR X (binaryOp op) (rRev C sp E) := by
  intro pins s σ H x y v u Q I rx ry hq
  obtain ⟨⟨i, rfl⟩, ⟨a, dx, fs, rfl, ha⟩, hsp⟩ := hq
  have eu : u = Value.ref a := ry
  have cl := call_cmp F hr hx I (us := [u, v]) (vs := [V.ref a, V.int i]) (.cons ry (.cons rx .nil)) hsp
  obtain ⟨t, rfl⟩ := rx
  subst eu
  obtain ⟨mA, J, _⟩ := ins_get I.hok ha
  obtain ⟨od, J, _⟩ := J.look
  obtain ⟨m, hF⟩ := I.fr
  obtain ⟨fo, i1⟩ := O.i1
  obtain ⟨ro, i2⟩ := O.i2
  exact rev_K S en (ar _ _) hF I.ok.mod.kin J rfl O.sf O.at_ O.rat O.fn i1 i2 O.sub cl
end
end Vx
set_option Elab.async false
set_option linter.all false
set_option maxRecDepth 100000
set_option maxHeartbeats 2000000
namespace Toy
open PySem PySem.Spec PyProof.Rows L2
/-! ### the pot of drawn numbers -/
def Pot (H : Hp) (p c : Addr) : Prop := ∃ (cs : List Int) (at_ : Nat) (x : Int), H p = some (.lst [.ref c, .int at_, .int x]) ∧ H c = some (.lst (cs.map V.int)) ∧ cs.length ≤ 63 ∧ 0 ≤ x ∧ x < 2147483647
theorem Pot.ne {H : Hp} {p c : Addr} (h : Pot H p c) : p ≠ c := by
  obtain ⟨cs, a, x, h1, h2, _⟩ := h
  intro e
  rw [e, h2] at h1
  injection h1 with h1
  injection h1 with h1
  cases cs with
  | nil => cases h1
  | cons y r => injection h1 with z; cases z
theorem Pot.same {H H' : Hp} {p c : Addr} (h : Pot H p c) (s : Same H H') : Pot H' p c := by
  obtain ⟨cs, a, x, h1, h2, r⟩ := h
  exact ⟨cs, a, x, s _ _ h1, s _ _ h2, r⟩
/-- all but the pot stays -/
def Kept (p c : Addr) (H H' : Hp) : Prop := ∀ b o, b ≠ p → b ≠ c → H b = some o → H' b = some o
theorem Kept.rfl' {p c : Addr} {H : Hp} : Kept p c H H := fun _ _ _ _ e => e
theorem Kept.trans {p c : Addr} {H H1 H2 : Hp} (a : Kept p c H H1) (b : Kept p c H1 H2) : Kept p c H H2 := fun x o n m e => b x o n m (a x o n m e)
theorem Kept.of_same {p c : Addr} {H H' : Hp} (s : Same H H') : Kept p c H H' := fun b o _ _ e => s b o e
theorem ixN_nat {n k : Nat} (h : k < n) : ixN n (k : Int) = some k := by
  unfold ixN
  rw [if_pos (Int.natCast_nonneg _), if_pos (by omega), Int.toNat_natCast]
theorem cut63 {xs : List V} (h : xs.length ≤ 63) : cutV xs none (some 63) = xs := by
  unfold cutV
  rw [HT.sIx_none, show HT.sIx xs.length xs.length (some 63) = min 63 xs.length from HT.sIx_nat xs.length xs.length 63, List.drop_zero, Nat.sub_zero]
  exact List.take_of_length_le (by omega)
section
variable {P : Program} {w : World} {K : PySem.W.Frag} {mg : Str → Option Value} {base : Heap} {C : Addr}
def spPot (K : PySem.W.Frag) : Sp := fun vs H Q _ => ∃ (a : Addr) (ns : List Int), vs = [.ref a] ∧ SqL K H a (ns.map V.int) ∧ ns.length ≤ 63 ∧ ∀ H' p c, Same H H' → H p = none → H c = none → Pot H' p c → Q (.ref p) H'
theorem ok_pot {f : Addr} {fd : FuncData} (F : Fun K "_law_pot" "_law_pot" s_law_pot f fd) (mi : mg "int" = none) : FnOk P w K mg base CX0 1 f fd ["script"] (spPot K) := by
  refine F.ok sc_law_pot (fun vs H Q E h => ?_) (fun cdv A outer s H vs Q E hr h => ?_)
  · obtain ⟨a, ns, rfl, _⟩ := h
    rfl
  · obtain ⟨a, ns, rfl, hS, hn, q⟩ := h
    refine ⟨_, pss_one (ps_ret (pe_lst (pa_cons (pe_lc (own := [("cell", 1)]) (g := gName 1) (tt := tYes) rfl sc_law_pot.nd (pi_list (pe_slice sl_list (pv 0) po_none (po_some pe_int)))
        (blkOk_by (own := [("cell", 1)]) (N := ["script", "cell"]) (sc := defScope s_law_pot) (by decide +kernel)) (fun _ _ _ _ _ => pg_name (i := 1) sc_law_pot.nd rfl (Or.inl rfl))
        (fun _ _ _ _ _ => pts_nil) (fun _ _ _ _ _ => pe_callTy call_int1 (by rfl) mi (by decide +kernel) (pa_cons (pv 1) pa_nil))) (pa_cons pe_int (pa_cons pe_int pa_nil))))), ?_⟩
    refine ⟨.ref a, rfl, 63, rfl, a, _, rfl, hS, fun b nb => ?_⟩
    rw [cut63 (by rw [List.length_map]; exact hn)]
    refine ⟨b, rfl, ⟨_, SqL.of upd_same⟩, fun D hD => ?_⟩
    have hb : (upd H b (.lst (ns.map V.int))) b = some (.lst (ns.map V.int)) := upd_same
    have s1 : Same H (upd H b (.lst (ns.map V.int))) := same_upd nb
    have hD0 : H D = none := s1.free hD
    refine lc_list (K := K) (a := b) (xs := ns.map V.int) (fun i H2 => Same (upd H b (.lst (ns.map V.int))) H2 ∧ H2 D = some (.lst ((ns.take i).map V.int))) ⟨same_upd hD, upd_same⟩ (fun i H2 _ z => SqL.of (z.1 _ _ hb)) ?_ ?_
    · rintro i x H2 hx ⟨s2, e2⟩
      obtain ⟨n, hi, rfl⟩ : ∃ n, ns[i]? = some n ∧ x = V.int n := by
        rw [List.getElem?_map] at hx
        cases e : ns[i]? with
        | none => rw [e] at hx; cases hx
        | some n => rw [e] at hx; exact ⟨n, rfl, (Option.some.inj hx).symm⟩
      refine ⟨rfl, ?_⟩
      refine ⟨_, rfl, .inl ⟨n, rfl, _, e2, ?_, fun d o e => ?_, ?_⟩⟩
      · rw [List.length_map, List.length_take]
        exact Nat.lt_of_le_of_lt (Nat.le_trans (Nat.min_le_right _ _) hn) (by decide)
      · rw [upd_ne (ne_of_none e hD)]
        exact s2 _ _ e
      · rw [upd_same, List.take_add_one, hi, List.map_append]
        rfl
    · rintro H2 ⟨s2, e2⟩
      rw [List.length_map, List.take_length] at e2
      refine ⟨(by show 3 ≤ sizeLine; decide), fun p np => ?_⟩
      have s3 : Same H (upd H2 p (.lst [.ref D, .int 0, .int 7])) := s1.trans (s2.trans (same_upd np))
      have hDp : D ≠ p := ne_of_none e2 np
      refine q _ p D s3 ((s1.trans s2).free np) hD0 ⟨ns, 0, 7, upd_same, by rw [upd_ne hDp]; exact e2, hn, by decide, by decide⟩
/-! ### a draw -/
def spDraw : Sp := fun vs H Q _ => ∃ (p c : Addr) (m : Int), vs = [.ref p, .int m] ∧ Pot H p c ∧ 0 < m ∧ m ≤ 2147483648 ∧ ∀ H' r, Pot H' p c → Kept p c H H' → 0 ≤ r → r < m → Q (.int r) H'
theorem fmod_lt {a m : Int} (h : 0 < m) : 0 ≤ a.fmod m ∧ a.fmod m < m := by
  rw [Int.fmod_eq_emod_of_nonneg _ (Int.le_of_lt h)]
  exact ⟨Int.emod_nonneg _ (by omega), Int.emod_lt_of_pos _ h⟩
def nxt (x cell : Int) : Int := (x * 48271 + cell * 69621 + 11).fmod 2147483647
theorem ok_draw {f : Addr} {fd : FuncData} (F : Fun K "_law_draw" "_law_draw" s_law_draw f fd) (mi : mg "int" = none) (ml : mg "len" = none) : FnOk P w K mg base CX0 1 f fd ["pot", "many"] spDraw := by
  refine F.ok sc_law_draw (fun vs H Q E h => ?_) (fun cdv A outer s H vs Q E hr h => ?_)
  · obtain ⟨p, c, m, rfl, _⟩ := h
    rfl
  · obtain ⟨p, c, m, rfl, hP, hm, hm2, q⟩ := h
    refine ⟨_, pss_cons (ps_set (i := 2) sc_law_draw.nd rfl (Or.inl rfl) (pe_ix ix_list (pv 0) pe_int (fun _ _ => rfl)))
      (pss_cons (ps_set (i := 3) sc_law_draw.nd rfl (Or.inl rfl) (pe_ix ix_list (pv 0) pe_int (fun _ _ => rfl)))
      (pss_cons (ps_set (i := 4) sc_law_draw.nd rfl (Or.inl rfl) pe_int)
      (C8.pss_cut (ps_if (pt_cmpR op_lt (pv 3) (pe_callB call_len_seq (by rfl) ml PySem.boot_len (pa_cons (pv 2) pa_nil)) (nomark _))
        (pss_cons (ps_set (i := 4) sc_law_draw.nd rfl (Or.inl rfl) (pe_ix ix_list (pv 2) (pv 3) (fun _ _ => rfl)))
        (pss_cons (ps_if (pt_cmpR op_ge (pv 4) (pe_op op_pow pe_int pe_int) (nomark _))
          (pss_cons (ps_asg (pe_op op_fdivW (pv 4) (pv 1)) (pg_sub (pv 2) (pv 3) set_list))
          (pss_one (ps_ret (pe_op op_modN (pe_callTy call_int1 (by rfl) mi (by decide +kernel) (pa_cons (pv 4) pa_nil)) (pv 1))))) pss_nil)
        (pss_one (ps_asg (pe_op op_add (pv 3) pe_int) (pg_sub (pv 0) pe_int set_list))))) pss_nil)
      (pss_cons (ps_asg (pe_op op_modN (pe_callTy call_int1 (by rfl) mi (by decide +kernel) (pa_cons (pe_op op_add (pe_op op_add (pe_op op_mul (pe_ix ix_list (pv 0) pe_int (fun _ _ => rfl)) pe_int) (pe_op op_mul (pv 4) pe_int)) pe_int) pa_nil)) pe_int) (pg_sub (pv 0) pe_int set_list))
      (pss_one (ps_ret (pe_op op_modN (pe_callTy call_int1 (by rfl) mi (by decide +kernel) (pa_cons (pe_op op_add (pe_op op_fdivN (pe_op op_mul (pe_ix ix_list (pv 0) pe_int (fun _ _ => rfl)) pe_int) pe_int) (pe_ix ix_list (pv 0) pe_int (fun _ _ => rfl))) pa_nil)) (pv 1)))))))), ?_⟩
    have pc : p ≠ c := hP.ne
    obtain ⟨cs, at_, x, h1, h2, hl, x0, x1⟩ := hP
    refine ⟨_, rfl, p, _, _, _, rfl, rfl, SqL.of h1, rfl, ?_⟩
    refine ⟨_, rfl, p, _, _, _, rfl, rfl, SqL.of h1, rfl, ?_⟩
    refine ⟨fun σ' H' => ∃ (a : Nat) (cell : Int), σ' = [some (.ref p), some (.int m), some (.ref c), some (.int at_), some (.int cell)] ∧ H' p = some (.lst [.ref c, .int a, .int x]) ∧ H' c = some (.lst (cs.map V.int)) ∧ Kept p c H H', ?_, ?_⟩
    · refine ⟨_, rfl, _, rfl, c, _, rfl, .inl (SqL.of h2), _, _, rfl, rfl, _, rfl, ?_⟩
      rw [List.length_map]
      refine ite2 (fun hlt => ?_) (fun _ => ⟨at_, 0, rfl, h1, h2, Kept.rfl'⟩)
      have hi : at_ < cs.length := by have := of_decide_eq_true hlt; omega
      have hg : (cs.map V.int)[at_]? = some (.int cs[at_]) := by rw [List.getElem?_map, List.getElem?_eq_getElem hi]; rfl
      refine ⟨_, rfl, _, rfl, c, _, _, _, rfl, rfl, SqL.of h2, atI_nat hg, ?_⟩
      refine ⟨_, rfl, 10, 18, rfl, rfl, ⟨by decide, by decide, by decide⟩, _, _, rfl, rfl, _, rfl, ?_⟩
      refine ite2 (fun _ => ?_) (fun _ => ?_)
      · refine ⟨_, rfl, _, rfl, _, _, rfl, rfl, wide_div (b := 32) hm (by omega) (by decide) (by decide), _, rfl, _, rfl, c, _, _, at_, rfl, rfl, h2, ixN_nat (by rw [List.length_map]; exact hi), ?_⟩
        refine ⟨_, rfl, .inl ⟨_, rfl, _, rfl, _, _, rfl, rfl, by omega, ?_⟩⟩
        have f := fmod_lt (a := cs[at_]) hm
        refine q _ _ ⟨cs.set at_ (cs[at_] / m), at_, x, by rw [upd_ne pc]; exact h1, ?_, by rw [List.length_set]; exact hl, x0, x1⟩ (fun b o n1 n2 e => ?_) f.1 f.2
        · rw [upd_same, List.map_set]
        · rw [upd_ne n2]
          exact e
      · refine ⟨_, rfl, _, _, rfl, rfl, _, rfl, p, _, _, 1, rfl, rfl, h1, rfl, ?_⟩
        refine ⟨at_ + 1, cs[at_], rfl, ?_, by rw [upd_ne pc.symm]; exact h2, fun b o n1 n2 e => ?_⟩
        · rw [upd_same]
          rfl
        · rw [upd_ne n1]
          exact e
    · rintro σ' H1 ⟨a, cell, rfl, g1, g2, kp⟩
      refine ⟨_, rfl, p, _, _, _, rfl, rfl, SqL.of g1, rfl, _, _, rfl, rfl, .inl ⟨by omega, by omega⟩, _, rfl, _, _, rfl, rfl, .inr ⟨by decide, by decide⟩, _, _, rfl, rfl, _, _, rfl, rfl, .inl ⟨_, rfl, _, _, rfl, rfl, (show (2147483647 : Int) ≠ 0 by decide), _, rfl, p, _, _, 2, rfl, rfl, g1, rfl, ?_⟩⟩
      have fy : 0 ≤ nxt x cell ∧ nxt x cell < 2147483647 := fmod_lt (by decide)
      have g3 : (upd H1 p (.lst ([V.ref c, V.int a, V.int x].set 2 (V.int (nxt x cell))))) p = some (.lst [V.ref c, V.int a, V.int (nxt x cell)]) := upd_same
      refine ⟨_, rfl, p, _, _, _, rfl, rfl, SqL.of g3, rfl, _, _, rfl, rfl, .inl ⟨by omega, by omega⟩, _, _, rfl, rfl, ⟨by decide, by decide⟩, _, rfl, p, _, _, _, rfl, rfl, SqL.of g3, rfl, _, _, rfl, rfl, .inl ⟨_, rfl, _, rfl, _, _, rfl, rfl, by omega, ?_⟩⟩
      have f := fmod_lt (a := (nxt x cell * 16807).fdiv 128 + nxt x cell) hm
      refine q _ _ ⟨cs, a, nxt x cell, g3, by rw [upd_ne pc.symm]; exact g2, hl, fy.1, fy.2⟩ (fun b o n1 n2 e => ?_) f.1 f.2
      rw [upd_ne n1]
      exact kp b o n1 n2 e
end
end Toy
set_option Elab.async false
set_option linter.all false
set_option maxRecDepth 100000
set_option maxHeartbeats 2000000
namespace Toy
open PySem PySem.Spec PyProof.Rows L2
/-! ### lists of numbers as data -/
def dk (k : Nat) : PyData := .int k
theorem dpAll_vi {K : PySem.W.Frag} {H : Hp} : ∀ ws : List Nat, DpAll K H (ws.map vi) (ws.map dk)
  | [] => .nil
  | k :: r => .cons (.int _) (dpAll_vi r)
theorem dp_vi {K : PySem.W.Frag} {H : Hp} {a : Addr} {ws : List Nat} (h : H a = some (.lst (ws.map vi))) : Dp K H (.ref a) (.list (ws.map dk)) := .lst (SqL.of h) (dpAll_vi ws)
theorem can_dk : ∀ ws : List Nat, PyData.canLayAll0 (ws.map dk) = true
  | [] => rfl
  | k :: r => by
    rw [List.map_cons]
    show (PyData.canLay0 (.int k) && PyData.canLayAll0 (r.map dk)) = true
    rw [can_dk r]
    rfl
theorem dep_dk : ∀ ws : List Nat, PyData.depthAll (ws.map dk) ≤ 1
  | [] => by decide
  | k :: r => by
    have ih := dep_dk r
    rw [List.map_cons]
    have e : PyData.depthAll (dk k :: r.map dk) = max (PyData.depth (dk k)) (PyData.depthAll (r.map dk)) := rfl
    have e2 : PyData.depth (dk k) ≤ 1 := by first | exact Nat.zero_le _ | exact Nat.le_refl _ | (show (0 : Nat) ≤ 1; decide) | (show (1 : Nat) ≤ 1; decide)
    rw [e]
    omega
theorem shp_dk (ws : List Nat) : SeqAt.shaped (.list (ws.map dk)) = true := by
  have h1 := can_dk ws
  have h2 := dep_dk ws
  unfold SeqAt.shaped
  rw [Bool.and_eq_true]
  refine ⟨h1, decide_eq_true ?_⟩
  have e : PyData.depth (.list (ws.map dk)) = PyData.depthAll (ws.map dk) + 1 := rfl
  omega
theorem eqv_dk : ∀ ws us : List Nat, PyData.eqvAll (ws.map dk) (us.map dk) = decide (ws = us)
  | [], [] => rfl
  | [], _ :: _ => rfl
  | _ :: _, [] => rfl
  | a :: r, b :: t => by
    show ((((a : Nat) : Int) == ((b : Nat) : Int)) && PyData.eqvAll (r.map dk) (t.map dk)) = _
    rw [eqv_dk r t]
    by_cases h : a = b
    · subst h
      simp
    · have h1 : (((a : Nat) : Int) == ((b : Nat) : Int)) = false := by simp; omega
      rw [h1]
      simp [h]
/-! ### the numbers of lists -/
def num (ws : List Nat) (z : Nat) : Nat := ws.foldl (fun a w => a ||| 2 ^ w) z
theorem num_bit : ∀ (ws : List Nat) (z k : Nat), (num ws z).testBit k = (z.testBit k || decide (k ∈ ws))
  | [], z, k => by simp [num]
  | w :: r, z, k => by
    show (num r (z ||| 2 ^ w)).testBit k = _
    rw [num_bit r, Nat.testBit_or, Nat.testBit_two_pow]
    by_cases h : w = k
    · subst h
      simp
    · have h2 : k ≠ w := fun e => h e.symm
      simp [h, h2]
theorem num_lt : ∀ (ws : List Nat) (z : Nat), (∀ w ∈ ws, w < 31) → z < 2147483648 → num ws z < 2147483648
  | [], _, _, hz => hz
  | w :: r, z, h, hz => num_lt r (z ||| 2 ^ w) (fun v hv => h v (List.mem_cons_of_mem _ hv)) (Nat.or_lt_two_pow (n := 31) hz (two_pow_lt (by have := h w (List.mem_cons_self); omega)))
theorem num_bits {n : Nat} (h : n < 2147483648) : num (bits n) 0 = n := by
  apply Nat.eq_of_testBit_eq
  intro k
  rw [num_bit, Nat.zero_testBit, Bool.false_or]
  by_cases hk : k < 31
  · by_cases hb : n.testBit k = true
    · rw [hb]
      exact decide_eq_true (mem_bits.mpr ⟨hk, hb⟩)
    · have hb' : n.testBit k = false := by simpa using hb
      rw [hb']
      exact decide_eq_false fun z => hb (mem_bits.mp z).2
  · rw [decide_eq_false fun z => hk (mem_bits.mp z).1]
    exact (Nat.testBit_lt_two_pow (Nat.lt_of_lt_of_le h (Nat.pow_le_pow_right (n := 2) (by decide) (show 31 ≤ k by omega)))).symm
theorem bits_num {ws : List Nat} (h : ∀ w ∈ ws, w < 31) : (List.range 31).filter (fun k => decide (k ∈ ws)) = bits (num ws 0) := by
  unfold bits
  apply List.filter_congr
  intro k hk
  rw [num_bit, Nat.zero_testBit, Bool.false_or]
theorem bits_inj {n m : Nat} (hn : n < 2147483648) (hm : m < 2147483648) (h : bits n = bits m) : n = m := by
  rw [← num_bits hn, ← num_bits hm, h]
theorem bits_dec {n m : Nat} (hn : n < 2147483648) (hm : m < 2147483648) : decide (bits n = bits m) = decide (n = m) := by
  by_cases h : n = m
  · subst h
    simp
  · rw [decide_eq_false h, decide_eq_false fun z => h (bits_inj hn hm z)]
theorem inside_dec {n m : Nat} (hn : n < 2147483648) : decide ((bits n).filter (fun k => !decide (k ∈ bits m)) = []) = decide (n &&& m = n) := by
  by_cases h : n &&& m = n
  · rw [decide_eq_true h]
    refine decide_eq_true (List.filter_eq_nil_iff.mpr fun k hk => ?_)
    obtain ⟨h1, h2⟩ := mem_bits.mp hk
    have h3 : m.testBit k = true := by
      have z : (n &&& m).testBit k = true := by rw [h]; exact h2
      rw [Nat.testBit_and, Bool.and_eq_true] at z
      exact z.2
    simp [mem_bits.mpr ⟨h1, h3⟩]
  · rw [decide_eq_false h]
    refine decide_eq_false fun z => h ?_
    apply Nat.eq_of_testBit_eq
    intro k
    rw [Nat.testBit_and]
    by_cases hb : n.testBit k = true
    · have hk : k < 31 := by
        rcases Nat.lt_or_ge k 31 with y | y
        · exact y
        · rw [Nat.testBit_lt_two_pow (Nat.lt_of_lt_of_le hn (Nat.pow_le_pow_right (n := 2) (by decide) y))] at hb
          cases hb
      have y := List.filter_eq_nil_iff.mp z k (mem_bits.mpr ⟨hk, hb⟩)
      have y2 : k ∈ bits m := by simpa using y
      rw [hb, (mem_bits.mp y2).2]
      rfl
    · have hb' : n.testBit k = false := by simpa using hb
      rw [hb']
      rfl
section
variable {P : Program} {w : World} {K : PySem.W.Frag} {mg : Str → Option Value} {base : Heap} {C : Addr}
/-! ### _law_bits -/
def spBits : Sp := fun vs H Q _ => ∃ n : Nat, vs = [vi n] ∧ n < 2147483648 ∧ ∀ H' l, Same H H' → H l = none → H' l = some (.lst ((bits n).map vi)) → Q (.ref l) H'
theorem bit_div (n i : Nat) : decide (V.int (((n / 2 ^ i : Nat) : Int).fmod 2) = V.int 1) = n.testBit i := by
  have e : ((n / 2 ^ i : Nat) : Int).fmod 2 = ((n / 2 ^ i % 2 : Nat) : Int) := by
    rw [Int.fmod_eq_emod_of_nonneg _ (by decide)]
    rfl
  rw [e, Nat.testBit_eq_decide_div_mod_eq]
  exact dec_int _ 1
theorem ok_bits {f : Addr} {fd : FuncData} (F : Fun K "_law_bits" "_law_bits" s_law_bits f fd) (mi : mg "int" = none) (mr : mg "range" = none) : FnOk P w K mg base CX0 1 f fd ["number"] spBits := by
  refine F.ok sc_law_bits (fun vs H Q E h => ?_) (fun cdv A outer s H vs Q E hr h => ?_)
  · obtain ⟨n, rfl, _⟩ := h
    rfl
  · obtain ⟨n, rfl, hn, q⟩ := h
    refine ⟨_, pss_cons (ps_set (i := 1) sc_law_bits.nd rfl (Or.inl rfl) (pe_lst pa_nil))
      (pss_cons (ps_for PassesOwn.never rfl (pi_range1 (by rfl) mr (pa_cons pe_int pa_nil)) (pg_name (i := 2) sc_law_bits.nd rfl (Or.inl rfl))
        (C8.pss_cut (ps_if (pt_cmpR op_eq (pe_op op_modN (pe_callTy call_int1 (by rfl) mi (by decide +kernel) (pa_cons (pv 0) pa_nil)) pe_int) pe_int (nomark _))
            (pss_one (ps_expr (pe_bm PySem.F.plainAttrs_list PySem.F.slot_list_append PySem.F.type_list_append mt_append (pv 1) (pa_cons (pv 2) pa_nil)))) pss_nil)
          (pss_one (ps_set (i := 0) sc_law_bits.nd rfl (Or.inl rfl) (pe_op op_fdivN (pv 0) pe_int)))))
      (pss_one (ps_ret (pv 1)))), ?_⟩
    refine ⟨Nat.zero_le _, fun l nl => ?_⟩
    refine ⟨31, rfl, by decide, by decide, for_range (n := 31) (fun i σ H' => ∃ v, σ = [some (vi (n / 2 ^ i)), some (.ref l), v] ∧ Same H H' ∧ H' l = some (.lst (((List.range i).filter fun k => n.testBit k).map vi))) ⟨none, by rw [Nat.pow_zero, Nat.div_one]; rfl, same_upd nl, upd_same⟩ ?_ ?_⟩
    · rintro i σ H' hi ⟨v, rfl, s1, e1⟩
      refine ⟨fun σ' H2 => σ' = [some (vi (n / 2 ^ i)), some (.ref l), some (.int (0 + (i : Int)))] ∧ Same H H2 ∧ H2 l = some (.lst (((List.range (i + 1)).filter fun k => n.testBit k).map vi)), ?_, ?_⟩
      · refine ⟨_, rfl, .inl ⟨_, rfl, _, _, rfl, rfl, (show (2 : Int) ≠ 0 by decide), rfl, _, rfl, ?_⟩⟩
        show if decide (V.int (((n / 2 ^ i : Nat) : Int).fmod 2) = V.int 1) = true then _ else _
        rw [bit_div]
        refine ite2 (fun hb => ?_) (fun hb => ?_)
        · refine ⟨_, rfl, .inl ⟨rfl, _, SqL.of e1⟩, _, rfl, l, _, _, rfl, rfl, e1, acc_len _ hi, rfl, fun b o e => ?_, ?_⟩
          · rw [upd_ne (ne_of_none e nl)]
            exact s1 _ _ e
          · rw [upd_same, bits_succ, if_pos hb, List.map_append, Int.zero_add]
            rfl
        · refine ⟨rfl, s1, ?_⟩
          rw [bits_succ, if_neg hb]
          exact e1
      · rintro σ' H2 ⟨rfl, s2, e2⟩
        refine ⟨_, rfl, _, _, rfl, rfl, ⟨by decide, by decide⟩, some (.int (0 + (i : Int))), ?_, s2, e2⟩
        show [some (V.int (((n / 2 ^ i : Nat) : Int).fdiv 2)), some (V.ref l), some (V.int (0 + (i : Int)))] = _
        have e : ((n / 2 ^ i : Nat) : Int).fdiv 2 = ((n / 2 ^ (i + 1) : Nat) : Int) := by
          rw [Int.fdiv_eq_ediv_of_nonneg _ (by decide), Nat.pow_succ, ← Nat.div_div_eq_div_mul]
          rfl
        rw [e]
        rfl
    · rintro σ H' ⟨v, rfl, s1, e1⟩
      exact ⟨_, rfl, q H' l s1 nl e1⟩
end
end Toy
set_option Elab.async false
set_option linter.all false
set_option maxRecDepth 100000
set_option maxHeartbeats 2000000
namespace Vx
open PySem PySem.Spec PyProof.Rows L2
section
variable {X : Cx} {CX : CXT} {k : Nat} {C f : Addr} {sp : Sp} {E : XK} {x : Str} {p pos : Pos}
theorem pe_makeZ (M : Mk X.K C f) (F : FnR X.prog X.w X.K X.mg X.base CX k f sp) (hr : Room (k + 1) X.A) (hg : Gl X x) (hm : X.mg x = some (.ref C)) (hx : Passes CX X E) (hd : (x == ("__debug__" : Str)) = false := by decide) :
    PE X (.Call (.Name x p) [] [] pos) (tMakeZ C sp E) := by
  refine ⟨fun pins s σ H Q I h => ?_⟩
  refine wpAny_Call_Name_kw (ld_glob I hg hm ?_ hd)
  exact PySem.W.callWith_K0 I.kIn M.kp (StX.run_makeR (us := []) M F hr hx I .nil h)
/-- len(o) of an own class -/
def rLenOwn (C : Addr) (sp : Sp) (E : XK) : List V → Hp → VK → Prop := fun xs H Q => (∃ a dx fs, xs = [.ref a] ∧ H a = some (.ins C dx fs)) ∧ sp xs H (fun v H' => ∃ n : Nat, v = .int n ∧ n < 1000000 ∧ Q (.int n) H') E
theorem call_lenOwn (at_ : PySem.W.findIn X.K (.ref C) "__len__" = some (some (.ref f))) (fn : PySem.W.isFn X.K (.ref f) = true) (F : FnR X.prog X.w X.K X.mg X.base CX k f sp) (hr : Room (k + 1) X.A) (hx : Passes CX X E) : CallR X (.builtin "len") (rLenOwn C sp E) := by
  intro pins s σ H xs us Q I r h
  obtain ⟨⟨a, dx, fs, rfl, ha⟩, hsp⟩ := h
  obtain ⟨u, rfl, rx⟩ := vals1 r
  cases rx
  have sb : Sub X k X.A.in1 := (⟨hr, rfl⟩ : Sub X (k + 1) X.A).in1
  obtain ⟨mA, J, _⟩ := ins_get I.hok ha
  obtain ⟨od, J, _⟩ := J.look
  obtain ⟨m, hF⟩ := I.fr
  refine PySem.W.len_K hF I.ok.mod.kin J at_ fn (wpAny_mono (wpAny_call (run_in (us := [.ref a]) (vs := [V.ref a]) sb F hx I (.cons rfl .nil) hsp)) (fun v s' hv => ?_) fun _ _ z => z)
  obtain ⟨v', H', I', rv, n, rfl, hn, q⟩ := hv
  obtain ⟨t, rfl⟩ := rv
  exact ⟨⟨by omega, by omega⟩, .int n, H', I'.tok _, ⟨_, rfl⟩, q⟩
end
end Vx
namespace Toy
open PySem PySem.Spec PyProof.Rows L2
theorem filter_take_succ {p : Nat → Bool} {ws : List Nat} {i k : Nat} (h : ws[i]? = some k) : (ws.take (i + 1)).filter p = if p k = true then (ws.take i).filter p ++ [k] else (ws.take i).filter p := by
  rw [List.take_add_one, h, List.filter_append]
  by_cases hp : p k = true
  · rw [if_pos hp, Option.toList_some, List.filter_cons_of_pos hp]
    rfl
  · rw [if_neg hp, Option.toList_some, List.filter_cons_of_neg hp, List.filter_nil, List.append_nil]
theorem get_vi {ws : List Nat} {i : Nat} {x : V} (h : (ws.map vi)[i]? = some x) : ∃ k, ws[i]? = some k ∧ x = vi k := by
  rw [List.getElem?_map] at h
  cases e : ws[i]? with
  | none => rw [e] at h; cases h
  | some k => rw [e] at h; exact ⟨k, rfl, (Option.some.inj h).symm⟩
theorem bits_len (n : Nat) : (bits n).length ≤ 31 := Nat.le_trans (List.length_filter_le _ _) (by rw [List.length_range]; exact Nat.le_refl _)
/-! ### cutting -/
def nsub (n m : Nat) : Nat := n - (n &&& m)
theorem nsub_xor (n m : Nat) : nsub n m = n ^^^ (n &&& m) := by
  have h1 : (n ^^^ (n &&& m)) ||| (n &&& m) = n := by
    apply Nat.eq_of_testBit_eq
    intro k
    rw [Nat.testBit_or, Nat.testBit_xor, Nat.testBit_and]
    cases n.testBit k <;> cases m.testBit k <;> rfl
  have h2 : (n ^^^ (n &&& m)) &&& (n &&& m) = 0 := by
    apply Nat.eq_of_testBit_eq
    intro k
    rw [Nat.testBit_and, Nat.testBit_xor, Nat.testBit_and, Nat.zero_testBit]
    cases n.testBit k <;> cases m.testBit k <;> rfl
  have h3 := PyProof.Rows.nat_or_add_and (n ^^^ (n &&& m)) (n &&& m)
  rw [h1, h2] at h3
  unfold nsub
  omega
theorem nsub_bit (n m k : Nat) : (nsub n m).testBit k = (n.testBit k && !m.testBit k) := by
  rw [nsub_xor, Nat.testBit_xor, Nat.testBit_and]
  cases n.testBit k <;> cases m.testBit k <;> rfl
theorem nsub_lt {n m : Nat} (h : n < 2147483648) : nsub n m < 2147483648 := Nat.lt_of_le_of_lt (Nat.sub_le _ _) h
theorem not_pp (n m : Nat) : Builtin.bitAnd (n : Int) (Builtin.bitNot (m : Int)) = ((nsub n m : Nat) : Int) := by
  rw [bitAnd_not, and_pp]
  unfold nsub
  have := Nat.and_le_left (n := n) (m := m)
  omega
section
variable {P : Program} {w : World} {K : PySem.W.Frag} {mg : Str → Option Value} {base : Heap} {C : Addr}
theorem ok_sub {f fN fO pO x : Addr} {mc : Value} {fd fdN : FuncData} (F : Fun K "__sub__" "Moment.__sub__" s_Moment_sub f fd) (T : Txt K mg C) (O : Ops K mg C fN fO pO x mc) (GN : FnOk P w K mg base CX0 4 fN fdN ["value"] (spNum C)) (bN : L2.Binds K fdN ["value"] [])
    (GO : FnR P w K mg base CX0 6 fO (spOf C)) : FnOk P w K mg base CX0 7 f fd ["self", "other"] (spBin C nsub) := by
  refine F.ok sc_Moment_sub (fun vs H Q E h => ?_) (fun cdv A outer s H vs Q E hr h => ?_)
  · obtain ⟨p, n, m, y, rfl, _⟩ := h
    rfl
  · obtain ⟨p, n, m, y, rfl, hp, ha, q⟩ := h
    have hr4 : Room 4 _ := hr.mono (by decide)
    refine ⟨_, pss_cons (ps_set (i := 2) sc_Moment_sub.nd rfl (Or.inl rfl) (pe_call GN hr4 (by rfl) O.gN O.kN bN .nil pass0 (pa_cons (pv 1) pa_nil)))
      (pss_cons (ps_if (pt_cmpR op_isN (pv 2) pe_non (nomark _)) (pss_one ps_never) pss_nil)
      (pss_one (ps_ret (Vx.pe_smeth (pe_glob (v := .ref C) (by rfl) T.mgC rfl) O.rd O.sm GO hr pass0 (pa_cons (pe_op op_and (pe_fld (pv 0) rfl) (pe_un un_inv (pv 2))) pa_nil))))), ?_⟩
    refine ⟨_, rfl, y, m, rfl, ha, ?_⟩
    refine ⟨_, rfl, rfl, _, rfl, iteF ?_⟩
    obtain ⟨hn, dx, hp'⟩ := id hp
    refine ⟨rfl, _, rfl, p, C, dx, _, _, rfl, hp', T.cl, T.nN, rfl, _, rfl, (m : Int), rfl, (n : Int), _, rfl, rfl, nsub n m, ?_, nsub_lt hn, fun H' r s' hr' hm' => q H' r s' hr' hm'⟩
    show [V.int (Builtin.bitAnd (n : Int) (Builtin.bitNot (m : Int)))] = [vi (nsub n m)]
    rw [not_pp]
    rfl
theorem ok_rsub {f fN fO pO x : Addr} {mc : Value} {fd fdN : FuncData} (F : Fun K "__rsub__" "Moment.__rsub__" s_Moment_rsub f fd) (T : Txt K mg C) (O : Ops K mg C fN fO pO x mc) (GN : FnOk P w K mg base CX0 4 fN fdN ["value"] (spNum C)) (bN : L2.Binds K fdN ["value"] [])
    (GO : FnR P w K mg base CX0 6 fO (spOf C)) : FnOk P w K mg base CX0 7 f fd ["self", "other"] (spBin C fun n m => nsub m n) := by
  refine F.ok sc_Moment_rsub (fun vs H Q E h => ?_) (fun cdv A outer s H vs Q E hr h => ?_)
  · obtain ⟨p, n, m, y, rfl, _⟩ := h
    rfl
  · obtain ⟨p, n, m, y, rfl, hp, ha, q⟩ := h
    have hr4 : Room 4 _ := hr.mono (by decide)
    refine ⟨_, pss_cons (ps_set (i := 2) sc_Moment_rsub.nd rfl (Or.inl rfl) (pe_call GN hr4 (by rfl) O.gN O.kN bN .nil pass0 (pa_cons (pv 1) pa_nil)))
      (pss_cons (ps_if (pt_cmpR op_isN (pv 2) pe_non (nomark _)) (pss_one ps_never) pss_nil)
      (pss_one (ps_ret (Vx.pe_smeth (pe_glob (v := .ref C) (by rfl) T.mgC rfl) O.rd O.sm GO hr pass0 (pa_cons (pe_op op_and (pv 2) (pe_un un_inv (pe_fld (pv 0) rfl))) pa_nil))))), ?_⟩
    refine ⟨_, rfl, y, m, rfl, ha, ?_⟩
    refine ⟨_, rfl, rfl, _, rfl, iteF ?_⟩
    obtain ⟨hn, dx, hp'⟩ := id hp
    refine ⟨rfl, _, rfl, _, rfl, p, C, dx, _, _, rfl, hp', T.cl, T.nN, rfl, (n : Int), rfl, (m : Int), _, rfl, rfl, nsub m n, ?_, nsub_lt ha.1, fun H' r s' hr' hm' => q H' r s' hr' hm'⟩
    show [V.int (Builtin.bitAnd (m : Int) (Builtin.bitNot (n : Int)))] = [vi (nsub m n)]
    rw [not_pp]
    rfl
/-- self | other, self & other, behind a reflected sign -/
theorem ok_ror {f fR : Addr} {fd : FuncData} (F : Fun K "__ror__" "Moment.__ror__" s_Moment_ror f fd) (O : Vx.OpF K C fR .BitOr) (GR : FnR P w K mg base CX0 7 fR (spBin C fun n m => n ||| m)) : FnOk P w K mg base CX0 8 f fd ["self", "other"] (spBin C fun n m => n ||| m) := by
  refine F.ok sc_Moment_ror (fun vs H Q E h => ?_) (fun cdv A outer s H vs Q E hr h => ?_)
  · obtain ⟨p, n, m, y, rfl, _⟩ := h
    rfl
  · obtain ⟨p, n, m, y, rfl, hp, ha, q⟩ := h
    refine ⟨_, pss_one (ps_ret (pe_op (Vx.op_own O GR hr pass0) (pv 0) (pv 1))), ?_⟩
    obtain ⟨hn, dx, hp'⟩ := id hp
    refine ⟨_, rfl, _, rfl, ⟨p, dx, _, rfl, hp'⟩, ?_, p, n, m, y, rfl, hp, ha, q⟩
    obtain ⟨_, ⟨b, rfl, hb⟩ | ⟨k, rfl, _⟩⟩ := ha
    · obtain ⟨_, dy, e⟩ := hb
      exact .inl ⟨b, dy, _, rfl, e⟩
    · exact .inr ⟨_, rfl⟩
theorem ok_rand {f fR : Addr} {fd : FuncData} (F : Fun K "__rand__" "Moment.__rand__" s_Moment_rand f fd) (O : Vx.OpF K C fR .BitAnd) (GR : FnR P w K mg base CX0 7 fR (spBin C fun n m => n &&& m)) : FnOk P w K mg base CX0 8 f fd ["self", "other"] (spBin C fun n m => n &&& m) := by
  refine F.ok sc_Moment_rand (fun vs H Q E h => ?_) (fun cdv A outer s H vs Q E hr h => ?_)
  · obtain ⟨p, n, m, y, rfl, _⟩ := h
    rfl
  · obtain ⟨p, n, m, y, rfl, hp, ha, q⟩ := h
    refine ⟨_, pss_one (ps_ret (pe_op (Vx.op_own O GR hr pass0) (pv 0) (pv 1))), ?_⟩
    obtain ⟨hn, dx, hp'⟩ := id hp
    refine ⟨_, rfl, _, rfl, ⟨p, dx, _, rfl, hp'⟩, ?_, p, n, m, y, rfl, hp, ha, q⟩
    obtain ⟨_, ⟨b, rfl, hb⟩ | ⟨k, rfl, _⟩⟩ := ha
    · obtain ⟨_, dy, e⟩ := hb
      exact .inl ⟨b, dy, _, rfl, e⟩
    · exact .inr ⟨_, rfl⟩
/-! ### number, len -/
def spNumber (C : Addr) : Sp := fun vs H Q _ => ∃ (p : Addr) (n : Nat), vs = [.ref p] ∧ MoAt C H p n ∧ Q (vi n) H
theorem ok_number {f : Addr} {fd : FuncData} (F : Fun K "number" "Moment.number" s_Moment_number f fd) (T : Txt K mg C) : FnOk P w K mg base CX0 1 f fd ["self"] (spNumber C) := by
  refine F.ok sc_Moment_number (fun vs H Q E h => ?_) (fun cdv A outer s H vs Q E hr h => ?_)
  · obtain ⟨p, n, rfl, _⟩ := h
    rfl
  · obtain ⟨p, n, rfl, ⟨hn, dx, hp⟩, q⟩ := h
    exact ⟨_, pss_one (ps_ret (pe_fld (pv 0) rfl)), _, rfl, p, C, dx, _, _, rfl, hp, T.cl, T.nN, rfl, q⟩
def spLen (C : Addr) : Sp := fun vs H Q _ => ∃ (p : Addr) (n : Nat), vs = [.ref p] ∧ MoAt C H p n ∧ ∀ H', Same H H' → Q (vi (bits n).length) H'
theorem ok_len {f fW : Addr} {fd fdW : FuncData} (F : Fun K "__len__" "Moment.__len__" s_Moment_len f fd) (T : Txt K mg C) (mW : Meth K C "writers" fW) (GW : FnOk P w K mg base CX0 1 fW fdW ["self"] (spWri C)) (bW : L2.Binds K fdW ["self"] []) : FnOk P w K mg base CX0 2 f fd ["self"] (spLen C) := by
  refine F.ok sc_Moment_len (fun vs H Q E h => ?_) (fun cdv A outer s H vs Q E hr h => ?_)
  · obtain ⟨p, n, rfl, _⟩ := h
    rfl
  · obtain ⟨p, n, rfl, hp, q⟩ := h
    refine ⟨_, pss_one (ps_ret (pe_callB call_len_seq (by rfl) T.len PySem.boot_len (pa_cons (pe_meth0 (pv 0) T.cl mW GW hr bW .nil pass0) pa_nil))), ?_⟩
    obtain ⟨hn, dx, hp'⟩ := id hp
    refine ⟨_, rfl, p, dx, _, rfl, hp', rfl, p, n, rfl, hp, fun H1 l s1 nl e1 => ?_⟩
    refine ⟨l, _, rfl, .inl (SqL.of e1), ?_⟩
    rw [List.length_map]
    exact q H1 s1
end
end Toy
set_option Elab.async false
set_option linter.all false
set_option maxRecDepth 100000
set_option maxHeartbeats 4000000
namespace Toy
open PySem PySem.Spec PyProof.Rows L2
section
variable {P : Program} {w : World} {K : PySem.W.Frag} {mg : Str → Option Value} {base : Heap} {C : Addr}
/-! ### _law_one -/
/-- the list ws holds the bits of n -/
def Is (ws : List Nat) (n : Nat) : Prop := ∀ k, k < 31 → decide (k ∈ ws) = n.testBit k
theorem is_bits (n : Nat) : Is (bits n) n := fun k hk => by
  by_cases h : n.testBit k = true
  · rw [h]
    exact decide_eq_true (mem_bits.mpr ⟨hk, h⟩)
  · have h' : n.testBit k = false := by simpa using h
    rw [h']
    exact decide_eq_false fun z => h (mem_bits.mp z).2
theorem is_one (k : Nat) : Is [k] (2 ^ k) := fun j _ => by
  rw [Nat.testBit_two_pow]
  by_cases h : k = j
  · subst h
    simp
  · have h2 : j ≠ k := fun e => h e.symm
    simp [h, h2]
def sgn : Nat → Str
  | 0 => "or"
  | 1 => "and"
  | _ => "-"
def gOp : Nat → Nat → Nat → Nat
  | 0, n, m => n ||| m
  | 1, n, m => n &&& m
  | _, n, m => nsub n m
def spOne : Sp := fun vs H Q _ => ∃ (a b o : Nat) (ws us : List Nat) (n m : Nat), vs = [.ref a, .ref b, .str (sgn o)] ∧ o < 3 ∧ H a = some (.lst (ws.map vi)) ∧ H b = some (.lst (us.map vi)) ∧ Is ws n ∧ Is us m ∧
  ∀ H' l, Same H H' → H l = none → H' l = some (.lst ((bits (gOp o n m)).map vi)) → Q (.ref l) H'
theorem filt_bits {p : Nat → Bool} {n : Nat} (h : ∀ k, k < 31 → p k = n.testBit k) : (List.range 31).filter p = bits n := List.filter_congr fun k hk => h k (List.mem_range.mp hk)
theorem ok_one {f : Addr} {fd : FuncData} (F : Fun K "_law_one" "_law_one" s_law_one f fd) (T : Txt K mg C) : FnOk P w K mg base CX0 1 f fd ["one", "other", "sign"] spOne := by
  refine F.ok sc_law_one (fun vs H Q E h => ?_) (fun cdv A outer s H vs Q E hr h => ?_)
  · obtain ⟨a, b, o, ws, us, n, m, rfl, _⟩ := h
    rfl
  · obtain ⟨a, b, o, ws, us, n, m, rfl, ho, ha, hb, hn, hm, q⟩ := h
    refine ⟨_, pss_cons (ps_if (pt_cmpR op_eq (pv 2) pe_str (nomark _)) (pss_one (ps_ret (pe_lc (own := [("k", 3)]) (g := gName 3) rfl sc_law_one.nd (pi_range1 (by rfl) T.range (pa_cons pe_int pa_nil))
        (blkOk_by (own := [("k", 3)]) (N := ["one", "other", "sign", "k"]) (sc := defScope s_law_one) (by decide +kernel)) (fun _ _ _ _ _ => pg_name (i := 3) sc_law_one.nd rfl (Or.inl rfl))
        (fun _ _ _ _ _ => pts_one (PW.pt (pw_or (pt_cmpR (Vx.op_inK (K := K) rfl) (pv 3) (pv 0) (by rfl)) (pw_or1 (pt_cmpR (Vx.op_inK (K := K) rfl) (pv 3) (pv 1) (by rfl)))))) (fun _ _ _ _ _ => pv 3)))) pss_nil)
      (pss_cons (ps_if (pt_cmpR op_eq (pv 2) pe_str (nomark _)) (pss_one (ps_ret (pe_lc (own := [("k", 3)]) (g := gName 3) rfl sc_law_one.nd (pi_range1 (by rfl) T.range (pa_cons pe_int pa_nil))
        (blkOk_by (own := [("k", 3)]) (N := ["one", "other", "sign", "k"]) (sc := defScope s_law_one) (by decide +kernel)) (fun _ _ _ _ _ => pg_name (i := 3) sc_law_one.nd rfl (Or.inl rfl))
        (fun _ _ _ _ _ => pts_one (PW.pt (pw_and (pt_cmpR (Vx.op_inK (K := K) rfl) (pv 3) (pv 0) (by rfl)) (pw_and1 (pt_cmpR (Vx.op_inK (K := K) rfl) (pv 3) (pv 1) (by rfl)))))) (fun _ _ _ _ _ => pv 3)))) pss_nil)
      (pss_one (ps_ret (pe_lc (own := [("k", 3)]) (g := gName 3) rfl sc_law_one.nd (pi_range1 (by rfl) T.range (pa_cons pe_int pa_nil))
        (blkOk_by (own := [("k", 3)]) (N := ["one", "other", "sign", "k"]) (sc := defScope s_law_one) (by decide +kernel)) (fun _ _ _ _ _ => pg_name (i := 3) sc_law_one.nd rfl (Or.inl rfl))
        (fun _ _ _ _ _ => pts_one (PW.pt (pw_and (pt_cmpR (Vx.op_inK (K := K) rfl) (pv 3) (pv 0) (by rfl)) (pw_and1 (pt_cmpR (Vx.op_notInK (K := K) rfl) (pv 3) (pv 1) (by rfl)))))) (fun _ _ _ _ _ => pv 3))))), ?_⟩
    have ei : ∀ i : Nat, V.int (0 + (i : Int)) = vi i := fun i => by rw [Int.zero_add]; rfl
    -- one turn: kept or not
    have kp : ∀ (p : Nat → Bool) (H2 : Hp) (D i : Nat), i < 31 → H D = none → p i = true → Same H H2 → H2 D = some (.lst (((List.range i).filter p).map vi)) →
        ∃ acc, H2 D = some (.lst acc) ∧ acc.length < sizeLine ∧ (Same H (upd H2 D (.lst (acc ++ [V.int (0 + (i : Int))]))) ∧ (upd H2 D (.lst (acc ++ [V.int (0 + (i : Int))]))) D = some (.lst (((List.range (i + 1)).filter p).map vi))) := fun p H2 D i hi hD hp s2 e2 => by
      refine ⟨_, e2, acc_len _ hi, fun d o e => ?_, ?_⟩
      · rw [upd_ne (ne_of_none e hD)]
        exact s2 _ _ e
      · rw [upd_same, bits_succ, if_pos hp, List.map_append, ei]
        rfl
    have np : ∀ (p : Nat → Bool) (H2 : Hp) (D i : Nat), p i = false → Same H H2 → H2 D = some (.lst (((List.range i).filter p).map vi)) → Same H H2 ∧ H2 D = some (.lst (((List.range (i + 1)).filter p).map vi)) := fun p H2 D i hp s2 e2 => by
      refine ⟨s2, ?_⟩
      rw [bits_succ, if_neg (by rw [hp]; exact Bool.false_ne_true)]
      exact e2
    rcases o with _ | _ | _ | o
    · refine ⟨_, rfl, rfl, _, rfl, iteT ⟨31, rfl, by decide, by decide, fun D hD => ?_⟩⟩
      refine lc_range (lo := 0) (n := 31) (fun i H2 => Same H H2 ∧ H2 D = some (.lst (((List.range i).filter fun k => decide (k ∈ ws) || decide (k ∈ us)).map vi))) ⟨same_upd hD, upd_same⟩ ?_ ?_
      · rintro i H2 hi ⟨s2, e2⟩
        refine ⟨rfl, .int (0 + (i : Int)), rfl, .ref a, rfl, a, _, rfl, .inl (SqL.of (s2 _ _ ha)), rfl, flat_vi _, decide (i ∈ ws), by rw [← inV_vi, ← ei]; rfl, ?_⟩
        refine ite2 (fun h1 => ?_) (fun h1 => ?_)
        · exact ⟨_, rfl, kp _ H2 D i hi hD (by simp only [h1, Bool.true_or]) s2 e2⟩
        · refine ⟨.int (0 + (i : Int)), rfl, .ref b, rfl, b, _, rfl, .inl (SqL.of (s2 _ _ hb)), rfl, flat_vi _, decide (i ∈ us), by rw [← inV_vi, ← ei]; rfl, ?_⟩
          refine ite2 (fun h2 => ?_) (fun h2 => ?_)
          · exact ⟨_, rfl, kp _ H2 D i hi hD (by simp only [h2, Bool.or_true]) s2 e2⟩
          · exact np _ H2 D i (by simp only [Bool.eq_false_iff.mpr h1, Bool.eq_false_iff.mpr h2, Bool.or_false]) s2 e2
      · rintro H2 ⟨s2, e2⟩
        rw [filt_bits (n := n ||| m) fun k hk => by rw [hn k hk, hm k hk, Nat.testBit_or]] at e2
        exact q H2 D s2 hD e2
    · refine ⟨_, rfl, rfl, _, rfl, iteF ⟨_, rfl, rfl, _, rfl, iteT ⟨31, rfl, by decide, by decide, fun D hD => ?_⟩⟩⟩
      refine lc_range (lo := 0) (n := 31) (fun i H2 => Same H H2 ∧ H2 D = some (.lst (((List.range i).filter fun k => decide (k ∈ ws) && decide (k ∈ us)).map vi))) ⟨same_upd hD, upd_same⟩ ?_ ?_
      · rintro i H2 hi ⟨s2, e2⟩
        refine ⟨rfl, .int (0 + (i : Int)), rfl, .ref a, rfl, a, _, rfl, .inl (SqL.of (s2 _ _ ha)), rfl, flat_vi _, decide (i ∈ ws), by rw [← inV_vi, ← ei]; rfl, ?_⟩
        refine ite2 (fun h1 => ?_) (fun h1 => ?_)
        · refine ⟨.int (0 + (i : Int)), rfl, .ref b, rfl, b, _, rfl, .inl (SqL.of (s2 _ _ hb)), rfl, flat_vi _, decide (i ∈ us), by rw [← inV_vi, ← ei]; rfl, ?_⟩
          refine ite2 (fun h2 => ?_) (fun h2 => ?_)
          · exact ⟨_, rfl, kp _ H2 D i hi hD (by simp only [h1, h2, Bool.true_and]) s2 e2⟩
          · exact np _ H2 D i (by simp only [Bool.eq_false_iff.mpr h2, Bool.and_false]) s2 e2
        · exact np _ H2 D i (by simp only [Bool.eq_false_iff.mpr h1, Bool.false_and]) s2 e2
      · rintro H2 ⟨s2, e2⟩
        rw [filt_bits (n := n &&& m) fun k hk => by rw [hn k hk, hm k hk, Nat.testBit_and]] at e2
        exact q H2 D s2 hD e2
    · refine ⟨_, rfl, rfl, _, rfl, iteF ⟨_, rfl, rfl, _, rfl, iteF ⟨31, rfl, by decide, by decide, fun D hD => ?_⟩⟩⟩
      refine lc_range (lo := 0) (n := 31) (fun i H2 => Same H H2 ∧ H2 D = some (.lst (((List.range i).filter fun k => decide (k ∈ ws) && !decide (k ∈ us)).map vi))) ⟨same_upd hD, upd_same⟩ ?_ ?_
      · rintro i H2 hi ⟨s2, e2⟩
        refine ⟨rfl, .int (0 + (i : Int)), rfl, .ref a, rfl, a, _, rfl, .inl (SqL.of (s2 _ _ ha)), rfl, flat_vi _, decide (i ∈ ws), by rw [← inV_vi, ← ei]; rfl, ?_⟩
        refine ite2 (fun h1 => ?_) (fun h1 => ?_)
        · refine ⟨.int (0 + (i : Int)), rfl, .ref b, rfl, b, _, rfl, .inl (SqL.of (s2 _ _ hb)), rfl, flat_vi _, !decide (i ∈ us), by rw [← inV_vi, ← ei]; rfl, ?_⟩
          refine ite2 (fun h2 => ?_) (fun h2 => ?_)
          · exact ⟨_, rfl, kp _ H2 D i hi hD (by simp only [h1, h2, Bool.true_and]) s2 e2⟩
          · exact np _ H2 D i (by simp only [Bool.eq_false_iff.mpr h2, Bool.and_false]) s2 e2
        · exact np _ H2 D i (by simp only [Bool.eq_false_iff.mpr h1, Bool.false_and]) s2 e2
      · rintro H2 ⟨s2, e2⟩
        rw [filt_bits (n := nsub n m) fun k hk => by rw [hn k hk, hm k hk, nsub_bit]] at e2
        exact q H2 D s2 hD e2
    · omega
end
end Toy
set_option Elab.async false
set_option linter.all false
set_option maxRecDepth 100000
set_option maxHeartbeats 8000000
namespace Toy
open PySem PySem.Spec PyProof.Rows L2
theorem back_bits (n m : Nat) : nsub n m ||| (n &&& m) = n := by
  apply Nat.eq_of_testBit_eq
  intro k
  rw [Nat.testBit_or, nsub_bit, Nat.testBit_and]
  cases n.testBit k <;> cases m.testBit k <;> rfl
theorem both_bits (n m : Nat) : nsub (n ||| m) (n &&& m) = nsub n m ||| nsub m n := by
  apply Nat.eq_of_testBit_eq
  intro k
  rw [nsub_bit, Nat.testBit_or, Nat.testBit_or, nsub_bit, nsub_bit, Nat.testBit_and]
  cases n.testBit k <;> cases m.testBit k <;> rfl
theorem and_filter (n m : Nat) : (bits m).filter (fun k => decide (k ∈ bits n)) = bits (m &&& n) := by
  unfold bits
  rw [List.filter_filter]
  apply List.filter_congr
  intro k hk
  have h : k < 31 := List.mem_range.mp hk
  rw [Nat.testBit_and, Bool.and_comm]
  congr 1
  exact is_bits n k h
theorem eqv_bits {n m : Nat} (hn : n < 2147483648) (hm : m < 2147483648) : PyData.eqv (.list ((bits n).map dk)) (.list ((bits m).map dk)) = decide (n = m) := by
  show PyData.eqvAll _ _ = _
  rw [eqv_dk, bits_dec hn hm]
theorem row_ne {l r : Addr} {xs : List V} {ws : List Nat} {H : Hp} {a : Addr} (h1 : H l = some (.lst (.ref a :: xs))) (h2 : H r = some (.lst (ws.map vi))) : l ≠ r := by
  intro e
  rw [e, h2] at h1
  injection h1 with h1
  injection h1 with h1
  cases ws with
  | nil => cases h1
  | cons y t => injection h1 with z; cases z
/-- a pair of a moment and the list due -/
def PairV (C : Addr) (H : Hp) (v : V) : Prop := ∃ (t x d : Addr) (n : Nat), v = .ref t ∧ H t = some (.tup [.ref x, .ref d]) ∧ MoAt C H x n ∧ H d = some (.lst ((bits n).map vi))
theorem PairV.same {C : Addr} {H H' : Hp} {v : V} (h : PairV C H v) (s : Same H H') : PairV C H' v := by
  obtain ⟨t, x, d, n, e, h1, h2, h3⟩ := h
  exact ⟨t, x, d, n, e, s _ _ h1, h2.same s, s _ _ h3⟩
/-- what stands while the pairs are made -/
structure St (C : Addr) (H : Hp) (one ot la lb : Addr) (n m : Nat) : Prop where
  o1 : MoAt C H one n
  o2 : MoAt C H ot m
  r1 : H la = some (.lst ((bits n).map vi))
  r2 : H lb = some (.lst ((bits m).map vi))
theorem St.same {C : Addr} {H H' : Hp} {one ot la lb : Addr} {n m : Nat} (h : St C H one ot la lb n m) (s : Same H H') : St C H' one ot la lb n m := ⟨h.o1.same s, h.o2.same s, s _ _ h.r1, s _ _ h.r2⟩
structure Prs (C : Addr) (H : Hp) (l : Addr) (t0 : Addr) (vs : List V) : Prop where
  at_ : H l = some (.lst (.ref t0 :: vs))
  all : ∀ v ∈ V.ref t0 :: vs, PairV C H v
theorem Prs.same {C : Addr} {H H' : Hp} {l t0 : Addr} {vs : List V} (h : Prs C H l t0 vs) (s : Same H H') : Prs C H' l t0 vs := ⟨s _ _ h.at_, fun v hv => (h.all v hv).same s⟩
theorem mo_upd {C : Addr} {H : Hp} {l x n : Nat} {xs : List V} {o : HO} (h : MoAt C H x n) (hl : H l = some (.lst xs)) : MoAt C (upd H l o) x n := by
  obtain ⟨h0, dx, e⟩ := h
  have nx : x ≠ l := ne_of e hl (by intro z; cases z)
  exact ⟨h0, dx, by rw [upd_ne nx]; exact e⟩
/-- another pair laid behind the others -/
theorem more {C : Addr} {H : Hp} {one ot la lb l t0 x d t : Addr} {n m k : Nat} {vs : List V} (S : St C H one ot la lb n m) (Ps : Prs C H l t0 vs) (hx : MoAt C H x k) (hd : H d = some (.lst ((bits k).map vi))) (nt : H t = none) :
    (upd H t (.tup [.ref x, .ref d])) l = some (.lst (.ref t0 :: vs)) ∧ St C (upd (upd H t (.tup [.ref x, .ref d])) l (.lst ((.ref t0 :: vs) ++ [.ref t]))) one ot la lb n m ∧ Prs C (upd (upd H t (.tup [.ref x, .ref d])) l (.lst ((.ref t0 :: vs) ++ [.ref t]))) l t0 (vs ++ [.ref t]) := by
  have s : Same H (upd H t (.tup [.ref x, .ref d])) := same_upd nt
  have S1 := S.same s
  have P1 := Ps.same s
  have hl := P1.at_
  have row : ∀ {z k : Nat}, (upd H t (.tup [.ref x, .ref d])) z = some (.lst ((bits k).map vi)) → (upd (upd H t (.tup [.ref x, .ref d])) l (.lst ((.ref t0 :: vs) ++ [.ref t]))) z = some (.lst ((bits k).map vi)) := fun {z k} h => by
    rw [upd_ne (row_ne hl h).symm]
    exact h
  have tl : t ≠ l := by
    intro e
    rw [e, Ps.at_] at nt
    cases nt
  refine ⟨hl, ⟨mo_upd S1.o1 hl, mo_upd S1.o2 hl, row S1.r1, row S1.r2⟩, upd_same, fun v hv => ?_⟩
  rw [← List.cons_append] at hv
  rcases List.mem_append.mp hv with h | h
  · obtain ⟨t', x', d', k', e, h1, h2, h3⟩ := P1.all v h
    have nt' : t' ≠ l := ne_of h1 hl (by intro z; cases z)
    exact ⟨t', x', d', k', e, by rw [upd_ne nt']; exact h1, mo_upd h2 hl, row h3⟩
  · rw [List.mem_singleton.mp h]
    exact ⟨t, x, d, k, rfl, by rw [upd_ne tl]; exact upd_same, mo_upd (hx.same s) hl, row (s _ _ hd)⟩
end Toy
set_option Elab.async false
set_option linter.all false
set_option maxRecDepth 100000
set_option maxHeartbeats 16000000
namespace Toy
open PySem PySem.Spec PyProof.Rows L2
section
variable {P : Program} {w : World} {K : PySem.W.Frag} {mg : Str → Option Value} {base : Heap} {C : Addr}
def spLaw (K : PySem.W.Frag) : Sp := fun vs H Q _ => ∃ (a : Addr) (ns : List Int), vs = [.ref a] ∧ SqL K H a (ns.map V.int) ∧ ns.length ≤ 63 ∧ ∀ H', Q (.bl true) H'
structure Calls (P : Program) (w : World) (K : PySem.W.Frag) (mg : Str → Option Value) (base : Heap) (C fP fB fD fOne fW fN fLen fOr fAn fSu fRor fRan fRsu fI fO pO : Addr) (mc : Value) (fdP fdB fdD fdOne fdW fdN : FuncData) : Prop where
  gP : mg "_law_pot" = some (.ref fP)
  kP : PySem.W.keepIn K (.ref fP) = true
  bP : L2.Binds K fdP ["script"] []
  P1 : FnOk P w K mg base CX0 1 fP fdP ["script"] (spPot K)
  gB : mg "_law_bits" = some (.ref fB)
  kB : PySem.W.keepIn K (.ref fB) = true
  bB : L2.Binds K fdB ["number"] []
  B1 : FnOk P w K mg base CX0 1 fB fdB ["number"] spBits
  gD : mg "_law_draw" = some (.ref fD)
  kD : PySem.W.keepIn K (.ref fD) = true
  bD : L2.Binds K fdD ["pot", "many"] []
  D1 : FnOk P w K mg base CX0 1 fD fdD ["pot", "many"] spDraw
  gOne : mg "_law_one" = some (.ref fOne)
  kOne : PySem.W.keepIn K (.ref fOne) = true
  bOne : L2.Binds K fdOne ["one", "other", "sign"] []
  One1 : FnOk P w K mg base CX0 1 fOne fdOne ["one", "other", "sign"] spOne
  mW : Meth K C "writers" fW
  bW : L2.Binds K fdW ["self"] []
  W1 : FnOk P w K mg base CX0 1 fW fdW ["self"] (spWri C)
  mN : Meth K C "number" fN
  bN : L2.Binds K fdN ["self"] []
  N1 : FnOk P w K mg base CX0 1 fN fdN ["self"] (spNumber C)
  aLen : PySem.W.findIn K (.ref C) "__len__" = some (some (.ref fLen))
  iLen : PySem.W.isFn K (.ref fLen) = true
  Len1 : FnR P w K mg base CX0 2 fLen (spLen C)
  oOr : Vx.OpF K C fOr .BitOr
  Or1 : FnR P w K mg base CX0 7 fOr (spBin C fun n m => n ||| m)
  oAn : Vx.OpF K C fAn .BitAnd
  An1 : FnR P w K mg base CX0 7 fAn (spBin C fun n m => n &&& m)
  oSu : Vx.OpF K C fSu .Sub
  Su1 : FnR P w K mg base CX0 7 fSu (spBin C nsub)
  oRor : Vx.OpRF K C fRor .BitOr
  Ror1 : FnR P w K mg base CX0 8 fRor (spBin C fun n m => n ||| m)
  oRan : Vx.OpRF K C fRan .BitAnd
  Ran1 : FnR P w K mg base CX0 8 fRan (spBin C fun n m => n &&& m)
  oRsu : Vx.OpRF K C fRsu .Sub
  Rsu1 : FnR P w K mg base CX0 7 fRsu (spBin C fun n m => nsub m n)
  M : Mk K C fI
  GM : FnR P w K mg base CX0 4 fI (spMk C)
  rd : ClX.CRead K C mc
  sm : Vx.SMet K C mc "of" pO fO
  GO : FnR P w K mg base CX0 6 fO (spOf C)
abbrev nL : List Str := ["script", "pot", "first", "second", "one", "a", "b", "k", "other", "writer", "pairs", "moment", "due", "joined"]
theorem ok_law {f fP fB fD fOne fW fN fLen fOr fAn fSu fRor fRan fRsu fI fO pO : Addr} {mc : Value} {fd fdP fdB fdD fdOne fdW fdN : FuncData} (F : Fun K "law" "law" s_law f fd) (T : Txt K mg C)
    (Z : Calls P w K mg base C fP fB fD fOne fW fN fLen fOr fAn fSu fRor fRan fRsu fI fO pO mc fdP fdB fdD fdOne fdW fdN) : FnOk P w K mg base CX0 9 f fd ["script"] (spLaw K) := by
  refine F.ok sc_law (fun vs H Q E h => ?_) (fun cdv A outer s H vs Q E hr h => ?_)
  · obtain ⟨a, ns, rfl, _⟩ := h
    rfl
  · obtain ⟨sc, ns, rfl, hS, hlen, q⟩ := h
    have hr1 : Room 1 _ := hr.mono (by decide)
    have hr3 : Room 3 _ := hr.mono (by decide)
    have hr5 : Room 5 _ := hr.mono (by decide)
    have hr6 : Room 6 _ := hr.mono (by decide)
    have hr7 : Room 7 _ := hr.mono (by decide)
    have hr8 : Room 8 _ := hr.mono (by decide)
    have sz1 : 1 ≤ sizeLine := by decide
    have ins : ∀ {z k : Nat} {H' : Hp}, MoAt C H' z k → ∃ a dx fs, V.ref z = .ref a ∧ H' a = some (.ins C dx fs) := fun h => by
      obtain ⟨_, dx, e⟩ := h
      exact ⟨_, dx, _, rfl, e⟩
    refine ⟨_, pss_cons (ps_set (i := 1) sc_law.nd rfl (Or.inl rfl) (pe_call Z.P1 hr1 (by rfl) Z.gP Z.kP Z.bP .nil pass0 (pa_cons (pv 0) pa_nil)))
      (pss_cons (ps_set (i := 2) sc_law.nd rfl (Or.inl rfl) (pe_call Z.D1 hr1 (by rfl) Z.gD Z.kD Z.bD .nil pass0 (pa_cons (pv 1) (pa_cons pe_int pa_nil))))
      (pss_cons (ps_set (i := 3) sc_law.nd rfl (Or.inl rfl) (pe_call Z.D1 hr1 (by rfl) Z.gD Z.kD Z.bD .nil pass0 (pa_cons (pv 1) (pa_cons pe_int pa_nil))))
      (pss_cons (ps_set (i := 4) sc_law.nd rfl (Or.inl rfl) (Vx.pe_smeth (pe_glob (v := .ref C) (by rfl) T.mgC rfl) Z.rd Z.sm Z.GO hr6 pass0 (pa_cons (pv 2) pa_nil)))
      (pss_cons (ps_set (i := 5) sc_law.nd rfl (Or.inr rfl) (pe_call Z.B1 hr1 (by rfl) Z.gB Z.kB Z.bB .nil pass0 (pa_cons (pv 2) pa_nil)))
      (pss_cons (ps_set (i := 6) sc_law.nd rfl (Or.inl rfl) (pe_call Z.B1 hr1 (by rfl) Z.gB Z.kB Z.bB .nil pass0 (pa_cons (pv 3) pa_nil)))
      (C8.pss_cut (ps_if (pt_cmpR op_eq (pe_call Z.D1 hr1 (by rfl) Z.gD Z.kD Z.bD .nil pass0 (pa_cons (pv 1) (pa_cons pe_int pa_nil))) pe_int (nomark _)) (pss_one (ps_setLc (i := 6) (own := [("k", 7)]) (g := gName 7) rfl sc_law.nd rfl rfl (sw_true rfl rfl rfl (by decide +kernel)) (pi_list (pv 6)) (blkOk_by (own := [("k", 7)]) (N := nL) (sc := defScope s_law) (by decide +kernel)) (fun _ _ _ _ _ => pg_name (i := 7) sc_law.nd rfl (Or.inl rfl)) (fun _ _ _ _ _ => pts_one (pt_cmpR (Vx.op_inK (K := K) rfl) (pv 7) (pv 5) (by rfl))) (fun _ _ _ _ _ => pv 7))) pss_nil)
      (pss_cons (ps_set (i := 8) sc_law.nd rfl (Or.inl rfl) (Vx.pe_makeZ Z.M Z.GM hr5 (by rfl) T.mgC pass0))
      (pss_cons (ps_for PassesOwn.never rfl (pi_list (pv 6)) (pg_name (i := 7) sc_law.nd rfl (Or.inl rfl)) (pss_one (ps_set (i := 8) sc_law.nd rfl (Or.inl rfl) (pe_op (Vx.op_own Z.oOr Z.Or1 hr7 pass0) (pv 8) (pv 7)))))
      (pss_cons (ps_if (pt_cmpR (op_neD hr.units) (pe_meth0 (pv 8) T.cl Z.mW Z.W1 hr1 Z.bW .nil pass0) (pv 6) (nomark _)) (pss_one ps_never) pss_nil)
      (pss_cons (ps_set (i := 9) sc_law.nd rfl (Or.inl rfl) (pe_call Z.D1 hr1 (by rfl) Z.gD Z.kD Z.bD .nil pass0 (pa_cons (pv 1) (pa_cons pe_int pa_nil))))
      (pss_cons (ps_set (i := 10) sc_law.nd rfl (Or.inl rfl) (pe_lst (pa_cons (pe_tup (pa_cons (pe_op (Vx.op_own Z.oOr Z.Or1 hr7 pass0) (pv 4) (pv 8)) (pa_cons (pe_call Z.One1 hr1 (by rfl) Z.gOne Z.kOne Z.bOne .nil pass0 (pa_cons (pv 5) (pa_cons (pv 6) (pa_cons pe_str pa_nil)))) pa_nil))) (pa_cons (pe_tup (pa_cons (pe_op (Vx.op_own Z.oAn Z.An1 hr7 pass0) (pv 4) (pv 8)) (pa_cons (pe_call Z.One1 hr1 (by rfl) Z.gOne Z.kOne Z.bOne .nil pass0 (pa_cons (pv 5) (pa_cons (pv 6) (pa_cons pe_str pa_nil)))) pa_nil))) pa_nil))))
      (pss_cons (ps_expr (pe_bm PySem.F.plainAttrs_list PySem.F.slot_list_append PySem.F.type_list_append mt_append (pv 10) (pa_cons (pe_tup (pa_cons (pe_op (Vx.op_own Z.oSu Z.Su1 hr7 pass0) (pv 4) (pv 8)) (pa_cons (pe_call Z.One1 hr1 (by rfl) Z.gOne Z.kOne Z.bOne .nil pass0 (pa_cons (pv 5) (pa_cons (pv 6) (pa_cons pe_str pa_nil)))) pa_nil))) pa_nil)))
      (pss_cons (ps_expr (pe_bm PySem.F.plainAttrs_list PySem.F.slot_list_append PySem.F.type_list_append mt_append (pv 10) (pa_cons (pe_tup (pa_cons (pe_op (Vx.op_own Z.oSu Z.Su1 hr7 pass0) (pv 8) (pv 4)) (pa_cons (pe_call Z.One1 hr1 (by rfl) Z.gOne Z.kOne Z.bOne .nil pass0 (pa_cons (pv 6) (pa_cons (pv 5) (pa_cons pe_str pa_nil)))) pa_nil))) pa_nil)))
      (pss_cons (ps_expr (pe_bm PySem.F.plainAttrs_list PySem.F.slot_list_append PySem.F.type_list_append mt_append (pv 10) (pa_cons (pe_tup (pa_cons (pe_op (Vx.op_own Z.oOr Z.Or1 hr7 pass0) (pv 4) (pv 9)) (pa_cons (pe_call Z.One1 hr1 (by rfl) Z.gOne Z.kOne Z.bOne .nil pass0 (pa_cons (pv 5) (pa_cons (pe_lst (pa_cons (pv 9) pa_nil)) (pa_cons pe_str pa_nil)))) pa_nil))) pa_nil)))
      (pss_cons (ps_expr (pe_bm PySem.F.plainAttrs_list PySem.F.slot_list_append PySem.F.type_list_append mt_append (pv 10) (pa_cons (pe_tup (pa_cons (pe_op (Vx.op_rev (op := .BitOr) PySem.F.slot_int_or ⟨_, PySem.F.entry_int_or⟩ (fun _ _ => PySem.F.args_int_or_2 _ _) Z.oRor Z.Ror1 hr8 pass0) (pv 9) (pv 4)) (pa_cons (pe_call Z.One1 hr1 (by rfl) Z.gOne Z.kOne Z.bOne .nil pass0 (pa_cons (pv 5) (pa_cons (pe_lst (pa_cons (pv 9) pa_nil)) (pa_cons pe_str pa_nil)))) pa_nil))) pa_nil)))
      (pss_cons (ps_expr (pe_bm PySem.F.plainAttrs_list PySem.F.slot_list_append PySem.F.type_list_append mt_append (pv 10) (pa_cons (pe_tup (pa_cons (pe_op (Vx.op_own Z.oAn Z.An1 hr7 pass0) (pv 4) (pv 9)) (pa_cons (pe_call Z.One1 hr1 (by rfl) Z.gOne Z.kOne Z.bOne .nil pass0 (pa_cons (pv 5) (pa_cons (pe_lst (pa_cons (pv 9) pa_nil)) (pa_cons pe_str pa_nil)))) pa_nil))) pa_nil)))
      (pss_cons (ps_expr (pe_bm PySem.F.plainAttrs_list PySem.F.slot_list_append PySem.F.type_list_append mt_append (pv 10) (pa_cons (pe_tup (pa_cons (pe_op (Vx.op_rev (op := .BitAnd) PySem.F.slot_int_and ⟨_, PySem.F.entry_int_and⟩ (fun _ _ => PySem.F.args_int_and_2 _ _) Z.oRan Z.Ran1 hr8 pass0) (pv 9) (pv 4)) (pa_cons (pe_call Z.One1 hr1 (by rfl) Z.gOne Z.kOne Z.bOne .nil pass0 (pa_cons (pv 5) (pa_cons (pe_lst (pa_cons (pv 9) pa_nil)) (pa_cons pe_str pa_nil)))) pa_nil))) pa_nil)))
      (pss_cons (ps_expr (pe_bm PySem.F.plainAttrs_list PySem.F.slot_list_append PySem.F.type_list_append mt_append (pv 10) (pa_cons (pe_tup (pa_cons (pe_op (Vx.op_own Z.oSu Z.Su1 hr7 pass0) (pv 4) (pv 9)) (pa_cons (pe_call Z.One1 hr1 (by rfl) Z.gOne Z.kOne Z.bOne .nil pass0 (pa_cons (pv 5) (pa_cons (pe_lst (pa_cons (pv 9) pa_nil)) (pa_cons pe_str pa_nil)))) pa_nil))) pa_nil)))
      (pss_cons (ps_expr (pe_bm PySem.F.plainAttrs_list PySem.F.slot_list_append PySem.F.type_list_append mt_append (pv 10) (pa_cons (pe_tup (pa_cons (pe_op (Vx.op_rev (op := .Sub) PySem.F.slot_int_sub ⟨_, PySem.F.entry_int_sub⟩ (fun _ _ => PySem.F.args_int_sub_2 _ _) Z.oRsu Z.Rsu1 hr7 pass0) (pv 9) (pv 4)) (pa_cons (pe_call Z.One1 hr1 (by rfl) Z.gOne Z.kOne Z.bOne .nil pass0 (pa_cons (pe_lst (pa_cons (pv 9) pa_nil)) (pa_cons (pv 5) (pa_cons pe_str pa_nil)))) pa_nil))) pa_nil)))
      (pss_cons (ps_expr (pe_bm PySem.F.plainAttrs_list PySem.F.slot_list_append PySem.F.type_list_append mt_append (pv 10) (pa_cons (pe_tup (pa_cons (pe_op (Vx.op_own Z.oOr Z.Or1 hr7 pass0) (pe_op (Vx.op_own Z.oSu Z.Su1 hr7 pass0) (pv 4) (pv 8)) (pe_op (Vx.op_own Z.oAn Z.An1 hr7 pass0) (pv 4) (pv 8))) (pa_cons (pv 5) pa_nil))) pa_nil)))
      (pss_cons (ps_expr (pe_bm PySem.F.plainAttrs_list PySem.F.slot_list_append PySem.F.type_list_append mt_append (pv 10) (pa_cons (pe_tup (pa_cons (pe_op (Vx.op_own Z.oSu Z.Su1 hr7 pass0) (pe_op (Vx.op_own Z.oOr Z.Or1 hr7 pass0) (pv 4) (pv 8)) (pe_op (Vx.op_own Z.oAn Z.An1 hr7 pass0) (pv 4) (pv 8))) (pa_cons (pe_call Z.One1 hr1 (by rfl) Z.gOne Z.kOne Z.bOne .nil pass0 (pa_cons (pe_call Z.One1 hr1 (by rfl) Z.gOne Z.kOne Z.bOne .nil pass0 (pa_cons (pv 5) (pa_cons (pv 6) (pa_cons pe_str pa_nil)))) (pa_cons (pe_call Z.One1 hr1 (by rfl) Z.gOne Z.kOne Z.bOne .nil pass0 (pa_cons (pv 6) (pa_cons (pv 5) (pa_cons pe_str pa_nil)))) (pa_cons pe_str pa_nil)))) pa_nil))) pa_nil)))
      (pss_cons (ps_for PassesOwn.never rfl (pi_list (pv 10)) (pg_tup rfl (pgs_cons (pg_name (i := 11) sc_law.nd rfl (Or.inl rfl)) (pgs_cons (pg_name (i := 12) sc_law.nd rfl (Or.inl rfl)) pgs_nil))) (pss_one (ps_if (PW.pt (pw_or (pt_cmpR (op_neD hr.units) (pe_meth0 (pv 11) T.cl Z.mW Z.W1 hr1 Z.bW .nil pass0) (pv 12) (nomark _)) (pw_or1 (pt_cmpR op_ne (pe_callB (Vx.call_lenOwn Z.aLen Z.iLen Z.Len1 hr3 pass0) (by rfl) T.len PySem.boot_len (pa_cons (pv 11) pa_nil)) (pe_callB call_len_seq (by rfl) T.len PySem.boot_len (pa_cons (pv 12) pa_nil)) (nomark _))))) (pss_one ps_never) pss_nil)))
      (pss_cons (ps_set (i := 13) sc_law.nd rfl (Or.inl rfl) (pv 4))
      (pss_cons (ps_set (i := 13) sc_law.nd rfl (Or.inl rfl) (pe_op (Vx.op_own Z.oOr Z.Or1 hr7 pass0) (pv 13) (pv 9)))
      (pss_cons (ps_set (i := 13) sc_law.nd rfl (Or.inl rfl) (pe_op (Vx.op_own Z.oSu Z.Su1 hr7 pass0) (pv 13) (pv 8)))
      (pss_cons (ps_if (pt_cmpR (op_neD hr.units) (pe_meth0 (pv 13) T.cl Z.mW Z.W1 hr1 Z.bW .nil pass0) (pe_call Z.One1 hr1 (by rfl) Z.gOne Z.kOne Z.bOne .nil pass0 (pa_cons (pe_call Z.One1 hr1 (by rfl) Z.gOne Z.kOne Z.bOne .nil pass0 (pa_cons (pv 5) (pa_cons (pe_lst (pa_cons (pv 9) pa_nil)) (pa_cons pe_str pa_nil)))) (pa_cons (pv 6) (pa_cons pe_str pa_nil)))) (nomark _)) (pss_one ps_never) pss_nil)
      (pss_one (ps_ret (pe_and (pe_cmpR (op_eqD hr.units) (pe_meth0 (pv 4) T.cl Z.mW Z.W1 hr1 Z.bW .nil pass0) (pv 5) (nomark _)) (pe_and (pe_cmpR (op_eqD hr.units) (pe_meth0 (pv 8) T.cl Z.mW Z.W1 hr1 Z.bW .nil pass0) (pv 6) (nomark _)) (pe_one (pe_cmpR op_eq (pe_meth0 (pv 4) T.cl Z.mN Z.N1 hr1 Z.bN .nil pass0) (pv 2) (nomark _))))))))))))))))))))))))))))))))), ?_⟩
    -- pot, first, second
    refine ⟨_, rfl, sc, ns, rfl, hS, hlen, fun HA p c sA p0 c0 PA => ?_⟩
    refine ⟨_, rfl, p, c, 2147483648, rfl, PA, by decide, by decide, fun HB d1 PB KB d10 d11 => ?_⟩
    refine ⟨_, rfl, p, c, 2147483648, rfl, PB, by decide, by decide, fun HC d2 PC KC d20 d21 => ?_⟩
    obtain ⟨n, rfl⟩ : ∃ n : Nat, d1 = (n : Int) := ⟨d1.toNat, (Int.toNat_of_nonneg d10).symm⟩
    obtain ⟨m0, rfl⟩ : ∃ m : Nat, d2 = (m : Int) := ⟨d2.toNat, (Int.toNat_of_nonneg d20).symm⟩
    have hn : n < 2147483648 := by omega
    have hm0 : m0 < 2147483648 := by omega
    -- one, a, b
    refine ⟨rfl, _, rfl, n, rfl, hn, fun HD one sD nD o1 => ?_⟩
    refine ⟨_, rfl, n, rfl, hn, fun HE la sE nE r1 => ?_⟩
    refine ⟨_, rfl, m0, rfl, hm0, fun HF lb0 sF nF r20 => ?_⟩
    have sCF : Same HC HF := (sD.trans sE).trans sF
    have PF := PC.same sCF
    have o1F : MoAt C HF one n := (o1.same sE).same sF
    have r1F : HF la = some (.lst ((bits n).map vi)) := sF _ _ r1
    obtain ⟨cs, at_, x, gp, gc, _⟩ := id PF
    have onp : one ≠ p ∧ one ≠ c := by
      obtain ⟨_, dx, e⟩ := o1F
      exact ⟨ne_of e gp (by intro z; cases z), ne_of e gc (by intro z; cases z)⟩
    obtain ⟨cs2, at2, x2, gp2, gc2, _⟩ := id (PC.same sD)
    have lanp : la ≠ p ∧ la ≠ c := ⟨(ne_of_none gp2 nE).symm, (ne_of_none gc2 nE).symm⟩
    obtain ⟨cs3, at3_, x3, gp3, gc3, _⟩ := id ((PC.same sD).same sE)
    have lbnp : lb0 ≠ p ∧ lb0 ≠ c := ⟨(ne_of_none gp3 nF).symm, (ne_of_none gc3 nF).symm⟩
    have keep : ∀ {H1 H2 : Hp} {z k : Nat}, Kept p c H1 H2 → z ≠ p → z ≠ c → MoAt C H1 z k → MoAt C H2 z k := fun kk h1 h2 h => by
      obtain ⟨h0, dx, e⟩ := h
      exact ⟨h0, dx, kk _ _ h1 h2 e⟩
    refine ⟨fun σ' H' => ∃ (lb m : Nat) (v7 : Option V), σ' = [some (.ref sc), some (.ref p), some (vi n), some (vi m0), some (.ref one), some (.ref la), some (.ref lb), v7, none, none, none, none, none, none] ∧ Pot H' p c ∧ MoAt C H' one n ∧ H' la = some (.lst ((bits n).map vi)) ∧ m < 2147483648 ∧ H' lb = some (.lst ((bits m).map vi)) ∧ lb ≠ p ∧ lb ≠ c, ?_, ?_⟩
    · refine ⟨_, rfl, p, c, 4, rfl, PF, by decide, by decide, fun HG d PG KG d0 d1 => ⟨rfl, _, rfl, ?_⟩⟩
      have o1G := keep KG onp.1 onp.2 o1F
      have r1G := KG _ _ lanp.1 lanp.2 r1F
      have r2G := KG _ _ lbnp.1 lbnp.2 r20
      refine ite2 (fun _ => ?_) (fun _ => ⟨lb0, m0, none, rfl, PG, o1G, r1G, hm0, r2G, lbnp.1, lbnp.2⟩)
      refine ⟨_, rfl, lb0, rfl, ⟨_, SqL.of r2G⟩, fun D hD => ?_⟩
      refine lc_list (K := K) (a := lb0) (xs := (bits m0).map vi) (fun i H2 => Same HG H2 ∧ H2 D = some (.lst ((((bits m0).take i).filter fun k => decide (k ∈ bits n)).map vi))) ⟨same_upd hD, upd_same⟩ (fun i H2 _ z => SqL.of (z.1 _ _ r2G)) ?_ ?_
      · rintro i x H2 hx ⟨s2, e2⟩
        obtain ⟨k, hk, rfl⟩ := get_vi hx
        refine ⟨rfl, _, rfl, .ref la, rfl, la, _, rfl, .inl (SqL.of (s2 _ _ r1G)), rfl, flat_vi _, decide (k ∈ bits n), by rw [← inV_vi]; rfl, ?_⟩
        refine ite2 (fun hm => ?_) (fun hm => ?_)
        · refine ⟨_, rfl, _, e2, ?_, fun d o e => ?_, ?_⟩
          · rw [List.length_map]
            exact Nat.lt_of_le_of_lt (Nat.le_trans (List.length_filter_le _ _) (Nat.le_trans (by rw [List.length_take]; exact Nat.min_le_right _ _) (bits_len m0))) (by decide)
          · rw [upd_ne (ne_of_none e hD)]
            exact s2 _ _ e
          · rw [upd_same, filter_take_succ hk, if_pos hm, List.map_append]
            rfl
        · refine ⟨s2, ?_⟩
          rw [filter_take_succ hk, if_neg hm]
          exact e2
      · rintro H2 ⟨s2, e2⟩
        rw [List.length_map, List.take_length, and_filter] at e2
        obtain ⟨cs4, at4, x4, gp4, gc4, _⟩ := id PG
        exact ⟨D, m0 &&& n, none, rfl, PG.same s2, o1G.same s2, s2 _ _ r1G, Nat.lt_of_le_of_lt Nat.and_le_left hm0, e2, (ne_of_none gp4 hD).symm, (ne_of_none gc4 hD).symm⟩
    · rintro σ' HG ⟨lb, m, v7, rfl, PG, o1G, r1G, hm, r2G, lbp, lbc⟩
      -- other
      intro x dx nx ndx ne
      refine ⟨HG, x, dx, 0, rfl, by decide, fun b o e => ?_, nx, upd_same, fun HH sH eH => ⟨rfl, ?_⟩⟩
      · rw [upd_ne (ne_of_none e nx), upd_ne (ne_of_none e ndx)]
        exact e
      refine ⟨_, rfl, lb, rfl, ⟨_, SqL.of (sH _ _ r2G)⟩, for_list (K := K) (a := lb) (xs := (bits m).map vi) (fun i σ H' => ∃ (r : Nat) (v : Option V), σ = [some (.ref sc), some (.ref p), some (vi n), some (vi m0), some (.ref one), some (.ref la), some (.ref lb), v, some (.ref r), none, none, none, none, none] ∧ Same HG H' ∧ MoAt C H' r (num ((bits m).take i) 0)) ⟨x, v7, rfl, sH, (by decide : (0:Nat) < 2147483648), dx, eH⟩ (fun i σ H' _ ⟨_, _, _, z, _⟩ => SqL.of (z _ _ r2G)) ?_ ?_⟩
      · rintro i y σ H' hi ⟨r, v, rfl, s2, hmo⟩
        obtain ⟨k, hk, rfl⟩ := get_vi hi
        have hk31 : k < 31 := (mem_bits.mp (List.mem_of_getElem? hk)).1
        refine ⟨_, rfl, _, rfl, ins hmo, .inr ⟨k, rfl⟩, r, _, 2 ^ k, _, rfl, hmo, ⟨two_pow_lt (by omega), .inr ⟨k, rfl, by omega, rfl⟩⟩, fun H3 r3 s3 _ m3 => ?_⟩
        refine ⟨r3, _, rfl, s2.trans s3, ?_⟩
        have e : num ((bits m).take (i + 1)) 0 = num ((bits m).take i) 0 ||| 2 ^ k := by
          unfold num
          rw [List.take_add_one, hk, List.foldl_append]
          rfl
        rw [e]
        exact m3
      rintro σ HI ⟨ot, v, rfl, sI, o2⟩
      rw [List.length_map, List.take_length, num_bits hm] at o2
      -- other.writers() != b
      obtain ⟨_, dot, hIn⟩ := id o2
      refine ⟨_, rfl, ot, dot, _, rfl, hIn, rfl, ot, m, rfl, o2, fun HJ lw sJ nlw eJ => ?_⟩
      refine ⟨_, rfl, _, _, dp_vi eJ, dp_vi (sJ _ _ (sI _ _ r2G)), shp_dk _, shp_dk _, _, rfl, ?_⟩
      rw [eqv_bits hm hm, decide_eq_true rfl]
      refine iteF ?_
      -- writer
      have sGJ := sI.trans sJ
      have PJ := PG.same sGJ
      obtain ⟨cs5, at5, x5, gp5, gc5, _⟩ := id PJ
      have otp : ot ≠ p ∧ ot ≠ c := by
        have e := sJ _ _ hIn
        exact ⟨ne_of e gp5 (by intro z; cases z), ne_of e gc5 (by intro z; cases z)⟩
      refine ⟨_, rfl, p, c, 31, rfl, PJ, by decide, by decide, fun HK dw PK KK dw0 dw1 => ?_⟩
      obtain ⟨k, rfl⟩ : ∃ k : Nat, dw = (k : Int) := ⟨dw.toNat, (Int.toNat_of_nonneg dw0).symm⟩
      have hk : k ≤ 30 := by omega
      have S : St C HK one ot la lb n m := ⟨keep KK onp.1 onp.2 (o1G.same sGJ), keep KK otp.1 otp.2 (o2.same sJ), KK _ _ lanp.1 lanp.2 (sGJ _ _ r1G), KK _ _ lbp lbc (sGJ _ _ r2G)⟩
      -- pairs
      refine ⟨_, rfl, _, rfl, ins S.o1, .inl (ins S.o2), one, n, m, _, rfl, S.o1, ⟨hm, .inl ⟨ot, rfl, S.o2⟩⟩, fun H1 xa s1 nxa mxa => ?_⟩
      have S1 := S.same s1
      refine ⟨_, rfl, _, rfl, la, lb, 0, bits n, bits m, n, m, rfl, by decide, S1.r1, S1.r2, is_bits n, is_bits m, fun H2 da s2 nda eda => ?_⟩
      refine ⟨(by show 2 ≤ sizeLine; decide), fun t0 nt0 => ?_⟩
      have S2 := (S1.same s2).same (same_upd nt0 (o := .tup [.ref xa, .ref da]))
      have pv0 : PairV C (upd H2 t0 (.tup [.ref xa, .ref da])) (.ref t0) := ⟨t0, xa, da, _, rfl, upd_same, (mxa.same s2).same (same_upd nt0), same_upd nt0 _ _ eda⟩
      refine ⟨_, rfl, _, rfl, ins S2.o1, .inl (ins S2.o2), one, n, m, _, rfl, S2.o1, ⟨hm, .inl ⟨ot, rfl, S2.o2⟩⟩, fun H3 xb s3 nxb mxb => ?_⟩
      have S3 := S2.same s3
      refine ⟨_, rfl, _, rfl, la, lb, 1, bits n, bits m, n, m, rfl, by decide, S3.r1, S3.r2, is_bits n, is_bits m, fun H4 db s4 ndb edb => ?_⟩
      refine ⟨(by show 2 ≤ sizeLine; decide), fun t1 nt1 => ?_⟩
      have S4 := (S3.same s4).same (same_upd nt1 (o := .tup [.ref xb, .ref db]))
      have pv1 : PairV C (upd H4 t1 (.tup [.ref xb, .ref db])) (.ref t1) := ⟨t1, xb, db, _, rfl, upd_same, (mxb.same s4).same (same_upd nt1), same_upd nt1 _ _ edb⟩
      have pv0' := ((pv0.same s3).same s4).same (same_upd nt1 (o := .tup [.ref xb, .ref db]))
      refine ⟨(by show 2 ≤ sizeLine; decide), fun l nl => ?_⟩
      have sl := same_upd nl (o := .lst [.ref t0, .ref t1])
      have S := S4.same sl
      have Ps : Prs C (upd (upd H4 t1 (.tup [.ref xb, .ref db])) l (.lst [.ref t0, .ref t1])) l t0 [.ref t1] := ⟨upd_same, fun v hv => by
        rcases List.mem_cons.mp hv with rfl | hv
        · exact pv0'.same sl
        · rw [List.mem_singleton.mp hv]
          exact pv1.same sl⟩
      refine ⟨_, rfl, .inl ⟨rfl, _, SqL.of Ps.at_⟩, _, rfl, _, rfl, ins S.o1, .inl (ins S.o2), one, n, m, _, rfl, S.o1, ⟨hm, .inl ⟨ot, rfl, S.o2⟩⟩, fun H1 x s1 nx mx => ?_⟩
      have S1 := S.same s1
      refine ⟨_, rfl, _, rfl, la, lb, 2, bits n, bits m, n, m, rfl, by decide, S1.r1, S1.r2, is_bits n, is_bits m, fun H2 d s2 nd ed => ?_⟩
      refine ⟨(by show 2 ≤ sizeLine; decide), fun t nt => ?_⟩
      obtain ⟨hl, S, Ps⟩ := more (S1.same s2) ((Ps.same s1).same s2) (mx.same s2) ed nt
      refine ⟨l, _, _, rfl, rfl, hl, (Nat.lt_of_lt_of_le (by simp : _ < 100) (by decide)), ?_⟩
      refine ⟨_, rfl, .inl ⟨rfl, _, SqL.of Ps.at_⟩, _, rfl, _, rfl, ins S.o2, .inl (ins S.o1), ot, m, n, _, rfl, S.o2, ⟨hn, .inl ⟨one, rfl, S.o1⟩⟩, fun H1 x s1 nx mx => ?_⟩
      have S1 := S.same s1
      refine ⟨_, rfl, _, rfl, lb, la, 2, bits m, bits n, m, n, rfl, by decide, S1.r2, S1.r1, is_bits m, is_bits n, fun H2 d s2 nd ed => ?_⟩
      refine ⟨(by show 2 ≤ sizeLine; decide), fun t nt => ?_⟩
      obtain ⟨hl, S, Ps⟩ := more (S1.same s2) ((Ps.same s1).same s2) (mx.same s2) ed nt
      refine ⟨l, _, _, rfl, rfl, hl, (Nat.lt_of_lt_of_le (by simp : _ < 100) (by decide)), ?_⟩
      refine ⟨_, rfl, .inl ⟨rfl, _, SqL.of Ps.at_⟩, _, rfl, _, rfl, ins S.o1, .inr ⟨_, rfl⟩, one, n, 2 ^ k, _, rfl, S.o1, ⟨two_pow_lt hk, .inr ⟨k, rfl, hk, rfl⟩⟩, fun H1 x s1 nx mx => ?_⟩
      have S1 := S.same s1
      refine ⟨_, rfl, _, rfl, sz1, fun u nu => ⟨la, u, 0, bits n, [k], n, 2 ^ k, rfl, by decide, (S1.same (same_upd nu)).r1, upd_same, is_bits n, is_one k, fun H2' d s2' nd ed => ?_⟩⟩
      have s2 : Same H1 H2' := (same_upd nu).trans s2'
      refine ⟨(by show 2 ≤ sizeLine; decide), fun t nt => ?_⟩
      obtain ⟨hl, S, Ps⟩ := more (S1.same s2) ((Ps.same s1).same s2) (mx.same s2) ed nt
      refine ⟨l, _, _, rfl, rfl, hl, (Nat.lt_of_lt_of_le (by simp : _ < 100) (by decide)), ?_⟩
      refine ⟨_, rfl, .inl ⟨rfl, _, SqL.of Ps.at_⟩, _, rfl, _, rfl, ⟨_, rfl⟩, ins S.o1, one, n, 2 ^ k, _, rfl, S.o1, ⟨two_pow_lt hk, .inr ⟨k, rfl, hk, rfl⟩⟩, fun H1 x s1 nx mx => ?_⟩
      have S1 := S.same s1
      refine ⟨_, rfl, _, rfl, sz1, fun u nu => ⟨la, u, 0, bits n, [k], n, 2 ^ k, rfl, by decide, (S1.same (same_upd nu)).r1, upd_same, is_bits n, is_one k, fun H2' d s2' nd ed => ?_⟩⟩
      have s2 : Same H1 H2' := (same_upd nu).trans s2'
      refine ⟨(by show 2 ≤ sizeLine; decide), fun t nt => ?_⟩
      obtain ⟨hl, S, Ps⟩ := more (S1.same s2) ((Ps.same s1).same s2) (mx.same s2) ed nt
      refine ⟨l, _, _, rfl, rfl, hl, (Nat.lt_of_lt_of_le (by simp : _ < 100) (by decide)), ?_⟩
      refine ⟨_, rfl, .inl ⟨rfl, _, SqL.of Ps.at_⟩, _, rfl, _, rfl, ins S.o1, .inr ⟨_, rfl⟩, one, n, 2 ^ k, _, rfl, S.o1, ⟨two_pow_lt hk, .inr ⟨k, rfl, hk, rfl⟩⟩, fun H1 x s1 nx mx => ?_⟩
      have S1 := S.same s1
      refine ⟨_, rfl, _, rfl, sz1, fun u nu => ⟨la, u, 1, bits n, [k], n, 2 ^ k, rfl, by decide, (S1.same (same_upd nu)).r1, upd_same, is_bits n, is_one k, fun H2' d s2' nd ed => ?_⟩⟩
      have s2 : Same H1 H2' := (same_upd nu).trans s2'
      refine ⟨(by show 2 ≤ sizeLine; decide), fun t nt => ?_⟩
      obtain ⟨hl, S, Ps⟩ := more (S1.same s2) ((Ps.same s1).same s2) (mx.same s2) ed nt
      refine ⟨l, _, _, rfl, rfl, hl, (Nat.lt_of_lt_of_le (by simp : _ < 100) (by decide)), ?_⟩
      refine ⟨_, rfl, .inl ⟨rfl, _, SqL.of Ps.at_⟩, _, rfl, _, rfl, ⟨_, rfl⟩, ins S.o1, one, n, 2 ^ k, _, rfl, S.o1, ⟨two_pow_lt hk, .inr ⟨k, rfl, hk, rfl⟩⟩, fun H1 x s1 nx mx => ?_⟩
      have S1 := S.same s1
      refine ⟨_, rfl, _, rfl, sz1, fun u nu => ⟨la, u, 1, bits n, [k], n, 2 ^ k, rfl, by decide, (S1.same (same_upd nu)).r1, upd_same, is_bits n, is_one k, fun H2' d s2' nd ed => ?_⟩⟩
      have s2 : Same H1 H2' := (same_upd nu).trans s2'
      refine ⟨(by show 2 ≤ sizeLine; decide), fun t nt => ?_⟩
      obtain ⟨hl, S, Ps⟩ := more (S1.same s2) ((Ps.same s1).same s2) (mx.same s2) ed nt
      refine ⟨l, _, _, rfl, rfl, hl, (Nat.lt_of_lt_of_le (by simp : _ < 100) (by decide)), ?_⟩
      refine ⟨_, rfl, .inl ⟨rfl, _, SqL.of Ps.at_⟩, _, rfl, _, rfl, ins S.o1, .inr ⟨_, rfl⟩, one, n, 2 ^ k, _, rfl, S.o1, ⟨two_pow_lt hk, .inr ⟨k, rfl, hk, rfl⟩⟩, fun H1 x s1 nx mx => ?_⟩
      have S1 := S.same s1
      refine ⟨_, rfl, _, rfl, sz1, fun u nu => ⟨la, u, 2, bits n, [k], n, 2 ^ k, rfl, by decide, (S1.same (same_upd nu)).r1, upd_same, is_bits n, is_one k, fun H2' d s2' nd ed => ?_⟩⟩
      have s2 : Same H1 H2' := (same_upd nu).trans s2'
      refine ⟨(by show 2 ≤ sizeLine; decide), fun t nt => ?_⟩
      obtain ⟨hl, S, Ps⟩ := more (S1.same s2) ((Ps.same s1).same s2) (mx.same s2) ed nt
      refine ⟨l, _, _, rfl, rfl, hl, (Nat.lt_of_lt_of_le (by simp : _ < 100) (by decide)), ?_⟩
      refine ⟨_, rfl, .inl ⟨rfl, _, SqL.of Ps.at_⟩, _, rfl, _, rfl, ⟨_, rfl⟩, ins S.o1, one, n, 2 ^ k, _, rfl, S.o1, ⟨two_pow_lt hk, .inr ⟨k, rfl, hk, rfl⟩⟩, fun H1 x s1 nx mx => ?_⟩
      have S1 := S.same s1
      refine ⟨_, rfl, sz1, fun u nu => ⟨_, rfl, u, la, 2, [k], bits n, 2 ^ k, n, rfl, by decide, upd_same, (S1.same (same_upd nu)).r1, is_one k, is_bits n, fun H2' d s2' nd ed => ?_⟩⟩
      have s2 : Same H1 H2' := (same_upd nu).trans s2'
      refine ⟨(by show 2 ≤ sizeLine; decide), fun t nt => ?_⟩
      obtain ⟨hl, S, Ps⟩ := more (S1.same s2) ((Ps.same s1).same s2) (mx.same s2) ed nt
      refine ⟨l, _, _, rfl, rfl, hl, (Nat.lt_of_lt_of_le (by simp : _ < 100) (by decide)), ?_⟩
      refine ⟨_, rfl, .inl ⟨rfl, _, SqL.of Ps.at_⟩, _, rfl, _, rfl, ins S.o1, .inl (ins S.o2), one, n, m, _, rfl, S.o1, ⟨hm, .inl ⟨ot, rfl, S.o2⟩⟩, fun Ha xa sa nxa ma => ?_⟩
      have Sa := S.same sa
      refine ⟨_, rfl, _, rfl, ins Sa.o1, .inl (ins Sa.o2), one, n, m, _, rfl, Sa.o1, ⟨hm, .inl ⟨ot, rfl, Sa.o2⟩⟩, fun Hb xb sb nxb mb => ?_⟩
      refine ⟨ins (ma.same sb), .inl (ins mb), xa, nsub n m, n &&& m, _, rfl, ma.same sb, ⟨Nat.lt_of_le_of_lt Nat.and_le_left hn, .inl ⟨xb, rfl, mb⟩⟩, fun H1 x s1' nx mx => ?_⟩
      have mx : MoAt C H1 x (nsub n m ||| (n &&& m)) := mx
      rw [back_bits] at mx
      have s1 := (sa.trans sb).trans s1'
      have S1 := S.same s1
      have s2 : Same H1 H1 := fun _ _ e => e
      have ed := S1.r1
      refine ⟨_, rfl, ?_⟩
      refine ⟨(by show 2 ≤ sizeLine; decide), fun t nt => ?_⟩
      obtain ⟨hl, S, Ps⟩ := more (S1.same s2) ((Ps.same s1).same s2) (mx.same s2) ed nt
      refine ⟨l, _, _, rfl, rfl, hl, (Nat.lt_of_lt_of_le (by simp : _ < 100) (by decide)), ?_⟩
      refine ⟨_, rfl, .inl ⟨rfl, _, SqL.of Ps.at_⟩, _, rfl, _, rfl, ins S.o1, .inl (ins S.o2), one, n, m, _, rfl, S.o1, ⟨hm, .inl ⟨ot, rfl, S.o2⟩⟩, fun Ha xa sa nxa ma => ?_⟩
      have Sa := S.same sa
      refine ⟨_, rfl, _, rfl, ins Sa.o1, .inl (ins Sa.o2), one, n, m, _, rfl, Sa.o1, ⟨hm, .inl ⟨ot, rfl, Sa.o2⟩⟩, fun Hb xb sb nxb mb => ?_⟩
      refine ⟨ins (ma.same sb), .inl (ins mb), xa, n ||| m, n &&& m, _, rfl, ma.same sb, ⟨Nat.lt_of_le_of_lt Nat.and_le_left hn, .inl ⟨xb, rfl, mb⟩⟩, fun H1 x s1' nx mx => ?_⟩
      have mx : MoAt C H1 x (nsub (n ||| m) (n &&& m)) := mx
      rw [both_bits] at mx
      have s1 := (sa.trans sb).trans s1'
      have S1 := S.same s1
      refine ⟨_, rfl, _, rfl, la, lb, 2, bits n, bits m, n, m, rfl, by decide, S1.r1, S1.r2, is_bits n, is_bits m, fun Hc dc sc_ ndc edc => ?_⟩
      have Sc := S1.same sc_
      refine ⟨_, rfl, _, rfl, lb, la, 2, bits m, bits n, m, n, rfl, by decide, Sc.r2, Sc.r1, is_bits m, is_bits n, fun Hd dd sd ndd edd => ?_⟩
      have Sd := Sc.same sd
      refine ⟨dc, dd, 0, bits (nsub n m), bits (nsub m n), nsub n m, nsub m n, rfl, by decide, sd _ _ edc, edd, is_bits _, is_bits _, fun H2 d s2' nd ed => ?_⟩
      have s2 : Same H1 H2 := (sc_.trans sd).trans s2'
      refine ⟨(by show 2 ≤ sizeLine; decide), fun t nt => ?_⟩
      obtain ⟨hl, S, Ps⟩ := more (S1.same s2) ((Ps.same s1).same s2) (mx.same s2) ed nt
      refine ⟨l, _, _, rfl, rfl, hl, (Nat.lt_of_lt_of_le (by simp : _ < 100) (by decide)), ?_⟩
      -- the pairs, one by one
      refine ⟨_, rfl, l, rfl, ⟨_, SqL.of Ps.at_⟩, for_list (K := K) (a := l) (xs := _) (fun i σ H' => ∃ v7 v11 v12 : Option V, σ = [some (.ref sc), some (.ref p), some (vi n), some (vi m0), some (.ref one), some (.ref la), some (.ref lb), v7, some (.ref ot), some (vi k), some (.ref l), v11, v12, none] ∧ Same _ H') ⟨v, none, none, rfl, fun _ _ e => e⟩ (fun i σ H' _ ⟨_, _, _, _, z⟩ => SqL.of (z _ _ Ps.at_)) ?_ ?_⟩
      · rintro i y σ H' hi ⟨v7, v11, v12, rfl, z⟩
        obtain ⟨t, x, d, k2, rfl, h1, h2, h3⟩ := (Ps.same z).all y (List.mem_of_getElem? hi)
        obtain ⟨hk2, dx, hIn⟩ := id h2
        refine ⟨t, [.ref x, .ref d], rfl, SqT.of h1, rfl, .ref x, [.ref d], rfl, .ref d, [], rfl, rfl, ?_⟩
        refine ⟨_, rfl, x, dx, _, rfl, hIn, rfl, x, k2, rfl, h2, fun H1 lw s1 nl e1 => ?_⟩
        refine ⟨_, rfl, _, _, dp_vi e1, dp_vi (s1 _ _ h3), shp_dk _, shp_dk _, _, rfl, ?_⟩
        rw [eqv_bits hk2 hk2, decide_eq_true rfl]
        refine iteF ?_
        refine ⟨_, rfl, ⟨x, dx, _, rfl, s1 _ _ hIn⟩, x, k2, rfl, h2.same s1, fun H2 s2 => ⟨(bits k2).length, rfl, Nat.lt_of_le_of_lt (bits_len k2) (by decide), ?_⟩⟩
        refine ⟨_, rfl, d, _, rfl, .inl (SqL.of (s2 _ _ (s1 _ _ h3))), rfl, _, rfl, ?_⟩
        rw [List.length_map]
        exact iteNS rfl ⟨v7, _, _, rfl, (fun b o e => s2 _ _ (s1 _ _ (z b o e)))⟩
      · rintro σ H' ⟨v7, v11, v12, rfl, z⟩
        have S := S.same z
        -- joined
        refine ⟨_, rfl, ?_⟩
        refine ⟨_, rfl, _, rfl, ins S.o1, .inr ⟨_, rfl⟩, one, n, 2 ^ k, _, rfl, S.o1, ⟨two_pow_lt hk, .inr ⟨k, rfl, hk, rfl⟩⟩, fun H1 x s1 _ mx => ?_⟩
        have S1 := S.same s1
        refine ⟨_, rfl, _, rfl, ins mx, .inl (ins S1.o2), x, n ||| 2 ^ k, m, _, rfl, mx, ⟨hm, .inl ⟨ot, rfl, S1.o2⟩⟩, fun H2 y s2 _ my => ?_⟩
        have S2 := S1.same s2
        obtain ⟨hz, dy, hIn⟩ := id my
        refine ⟨_, rfl, y, dy, _, rfl, hIn, rfl, y, nsub (n ||| 2 ^ k) m, rfl, my, fun H3 lw s3 nl e3 => ?_⟩
        have S3 := S2.same s3
        refine ⟨_, rfl, _, rfl, sz1, fun u nu => ⟨la, u, 0, bits n, [k], n, 2 ^ k, rfl, by decide, (S3.same (same_upd nu)).r1, upd_same, is_bits n, is_one k, fun H4 d s4 nd ed => ?_⟩⟩
        have s4' : Same H3 H4 := (same_upd nu).trans s4
        have S4 := S3.same s4'
        refine ⟨_, rfl, d, lb, 2, bits (n ||| 2 ^ k), bits m, n ||| 2 ^ k, m, rfl, by decide, ed, S4.r2, is_bits _, is_bits m, fun H5 e5l s5 ne5 e5 => ?_⟩
        have S5 := S4.same s5
        have e5' : H5 e5l = some (.lst ((bits (nsub (n ||| 2 ^ k) m)).map vi)) := e5
        refine ⟨_, _, dp_vi (s5 _ _ (s4' _ _ e3)), dp_vi e5', shp_dk _, shp_dk _, _, rfl, ?_⟩
        rw [eqv_bits hz hz, decide_eq_true rfl]
        refine iteF ?_
        -- the end
        obtain ⟨_, d1, hI1⟩ := id S5.o1
        refine ⟨_, rfl, one, d1, _, rfl, hI1, rfl, one, n, rfl, S5.o1, fun H6 l6 s6 n6 e6 => ?_⟩
        have S6 := S5.same s6
        refine ⟨_, rfl, _, _, dp_vi e6, dp_vi S6.r1, shp_dk _, shp_dk _, true, by rw [eqv_bits hn hn, decide_eq_true rfl], iteT ?_⟩
        obtain ⟨_, d2, hI2⟩ := id S6.o2
        refine ⟨_, rfl, ot, d2, _, rfl, hI2, rfl, ot, m, rfl, S6.o2, fun H7 l7 s7 n7 e7 => ?_⟩
        have S7 := S6.same s7
        refine ⟨_, rfl, _, _, dp_vi e7, dp_vi S7.r2, shp_dk _, shp_dk _, true, by rw [eqv_bits hm hm, decide_eq_true rfl], iteT ?_⟩
        obtain ⟨_, d3, hI3⟩ := id S7.o1
        refine ⟨_, rfl, one, d3, _, rfl, hI3, rfl, one, n, rfl, S7.o1, _, rfl, rfl, ?_⟩
        rw [decide_eq_true rfl]
        exact q _
end
end Toy
set_option Elab.async false
set_option linter.all false
set_option maxRecDepth 100000
set_option maxHeartbeats 4000000
namespace Toy
open PySem PySem.Spec PyProof.Rows L2
theorem all_mk {l : PySem.W.OpenLaw} {w : World} {K : PySem.W.Frag} {h : Heap} {mg : Str → Option Value} {fa C f_is_whole f_is_between f_is_writer_number f_number_of f_law_pot f_law_draw f_law_bits f_law_one f_law f_init f_number f_writers f_len f_or f_ror f_and f_rand f_sub f_rsub f_of pO : Addr} {restO : List Value} {tw tl : Tok} {io1v io2v ia1v ia2v is1v is2v : Option Value} (X : K.In h) (G : h.Ns mainGlobals mg) (hfa : mg "law" = some (.ref fa))
    {od_is_whole an_is_whole : Option Addr} {sl_is_whole : Array (Option Value)} {oc_is_whole kV_is_whole dc_is_whole pm_is_whole cd_is_whole ct_is_whole : Value} {od_is_between an_is_between : Option Addr} {sl_is_between : Array (Option Value)} {oc_is_between kV_is_between dc_is_between pm_is_between cd_is_between ct_is_between : Value} {od_is_writer_number an_is_writer_number : Option Addr} {sl_is_writer_number : Array (Option Value)} {oc_is_writer_number kV_is_writer_number dc_is_writer_number pm_is_writer_number cd_is_writer_number ct_is_writer_number : Value} {od_number_of an_number_of : Option Addr} {sl_number_of : Array (Option Value)} {oc_number_of kV_number_of dc_number_of pm_number_of cd_number_of ct_number_of : Value} {od_law_pot an_law_pot : Option Addr} {sl_law_pot : Array (Option Value)} {oc_law_pot kV_law_pot dc_law_pot pm_law_pot cd_law_pot ct_law_pot : Value} {od_law_draw an_law_draw : Option Addr} {sl_law_draw : Array (Option Value)} {oc_law_draw kV_law_draw dc_law_draw pm_law_draw cd_law_draw ct_law_draw : Value} {od_law_bits an_law_bits : Option Addr} {sl_law_bits : Array (Option Value)} {oc_law_bits kV_law_bits dc_law_bits pm_law_bits cd_law_bits ct_law_bits : Value} {od_law_one an_law_one : Option Addr} {sl_law_one : Array (Option Value)} {oc_law_one kV_law_one dc_law_one pm_law_one cd_law_one ct_law_one : Value} {od_law an_law : Option Addr} {sl_law : Array (Option Value)} {oc_law kV_law dc_law pm_law cd_law ct_law : Value} {od_init an_init : Option Addr} {sl_init : Array (Option Value)} {oc_init kV_init dc_init pm_init cd_init ct_init : Value} {od_number an_number : Option Addr} {sl_number : Array (Option Value)} {oc_number kV_number dc_number pm_number cd_number ct_number : Value} {od_writers an_writers : Option Addr} {sl_writers : Array (Option Value)} {oc_writers kV_writers dc_writers pm_writers cd_writers ct_writers : Value} {od_len an_len : Option Addr} {sl_len : Array (Option Value)} {oc_len kV_len dc_len pm_len cd_len ct_len : Value} {od_or an_or : Option Addr} {sl_or : Array (Option Value)} {oc_or kV_or dc_or pm_or cd_or ct_or : Value} {od_ror an_ror : Option Addr} {sl_ror : Array (Option Value)} {oc_ror kV_ror dc_ror pm_ror cd_ror ct_ror : Value} {od_and an_and : Option Addr} {sl_and : Array (Option Value)} {oc_and kV_and dc_and pm_and cd_and ct_and : Value} {od_rand an_rand : Option Addr} {sl_rand : Array (Option Value)} {oc_rand kV_rand dc_rand pm_rand cd_rand ct_rand : Value} {od_sub an_sub : Option Addr} {sl_sub : Array (Option Value)} {oc_sub kV_sub dc_sub pm_sub cd_sub ct_sub : Value} {od_rsub an_rsub : Option Addr} {sl_rsub : Array (Option Value)} {oc_rsub kV_rsub dc_rsub pm_rsub cd_rsub ct_rsub : Value} {od_of an_of : Option Addr} {sl_of : Array (Option Value)} {oc_of kV_of dc_of pm_of cd_of ct_of : Value}
    (aC : PySem.W.nsIn K mainGlobals "Moment" = some (some (.ref C)))
    (a_is_whole : PySem.W.nsIn K mainGlobals "is_whole" = some (some (.ref f_is_whole)))
    (l_is_whole : K.lookup f_is_whole = some ⟨oc_is_whole, od_is_whole, .func (PySem.W.fnOf "is_whole" "is_whole" (defArgs s_is_whole) (defBody s_is_whole) (defScope s_is_whole) .none kV_is_whole dc_is_whole pm_is_whole an_is_whole cd_is_whole ct_is_whole), sl_is_whole⟩)
    (c_is_whole : PySem.W.codeIn K cd_is_whole "is_whole" = true)
    (k_is_whole : PySem.W.keepIn K (.ref f_is_whole) = true)
    (a_is_between : PySem.W.nsIn K mainGlobals "is_between" = some (some (.ref f_is_between)))
    (l_is_between : K.lookup f_is_between = some ⟨oc_is_between, od_is_between, .func (PySem.W.fnOf "is_between" "is_between" (defArgs s_is_between) (defBody s_is_between) (defScope s_is_between) .none kV_is_between dc_is_between pm_is_between an_is_between cd_is_between ct_is_between), sl_is_between⟩)
    (c_is_between : PySem.W.codeIn K cd_is_between "is_between" = true)
    (k_is_between : PySem.W.keepIn K (.ref f_is_between) = true)
    (a_is_writer_number : PySem.W.nsIn K mainGlobals "is_writer_number" = some (some (.ref f_is_writer_number)))
    (l_is_writer_number : K.lookup f_is_writer_number = some ⟨oc_is_writer_number, od_is_writer_number, .func (PySem.W.fnOf "is_writer_number" "is_writer_number" (defArgs s_is_writer_number) (defBody s_is_writer_number) (defScope s_is_writer_number) .none kV_is_writer_number dc_is_writer_number pm_is_writer_number an_is_writer_number cd_is_writer_number ct_is_writer_number), sl_is_writer_number⟩)
    (c_is_writer_number : PySem.W.codeIn K cd_is_writer_number "is_writer_number" = true)
    (k_is_writer_number : PySem.W.keepIn K (.ref f_is_writer_number) = true)
    (a_number_of : PySem.W.nsIn K mainGlobals "_number_of" = some (some (.ref f_number_of)))
    (l_number_of : K.lookup f_number_of = some ⟨oc_number_of, od_number_of, .func (PySem.W.fnOf "_number_of" "_number_of" (defArgs s_number_of) (defBody s_number_of) (defScope s_number_of) .none kV_number_of dc_number_of pm_number_of an_number_of cd_number_of ct_number_of), sl_number_of⟩)
    (c_number_of : PySem.W.codeIn K cd_number_of "_number_of" = true)
    (k_number_of : PySem.W.keepIn K (.ref f_number_of) = true)
    (a_law_pot : PySem.W.nsIn K mainGlobals "_law_pot" = some (some (.ref f_law_pot)))
    (l_law_pot : K.lookup f_law_pot = some ⟨oc_law_pot, od_law_pot, .func (PySem.W.fnOf "_law_pot" "_law_pot" (defArgs s_law_pot) (defBody s_law_pot) (defScope s_law_pot) .none kV_law_pot dc_law_pot pm_law_pot an_law_pot cd_law_pot ct_law_pot), sl_law_pot⟩)
    (c_law_pot : PySem.W.codeIn K cd_law_pot "_law_pot" = true)
    (k_law_pot : PySem.W.keepIn K (.ref f_law_pot) = true)
    (a_law_draw : PySem.W.nsIn K mainGlobals "_law_draw" = some (some (.ref f_law_draw)))
    (l_law_draw : K.lookup f_law_draw = some ⟨oc_law_draw, od_law_draw, .func (PySem.W.fnOf "_law_draw" "_law_draw" (defArgs s_law_draw) (defBody s_law_draw) (defScope s_law_draw) .none kV_law_draw dc_law_draw pm_law_draw an_law_draw cd_law_draw ct_law_draw), sl_law_draw⟩)
    (c_law_draw : PySem.W.codeIn K cd_law_draw "_law_draw" = true)
    (k_law_draw : PySem.W.keepIn K (.ref f_law_draw) = true)
    (a_law_bits : PySem.W.nsIn K mainGlobals "_law_bits" = some (some (.ref f_law_bits)))
    (l_law_bits : K.lookup f_law_bits = some ⟨oc_law_bits, od_law_bits, .func (PySem.W.fnOf "_law_bits" "_law_bits" (defArgs s_law_bits) (defBody s_law_bits) (defScope s_law_bits) .none kV_law_bits dc_law_bits pm_law_bits an_law_bits cd_law_bits ct_law_bits), sl_law_bits⟩)
    (c_law_bits : PySem.W.codeIn K cd_law_bits "_law_bits" = true)
    (k_law_bits : PySem.W.keepIn K (.ref f_law_bits) = true)
    (a_law_one : PySem.W.nsIn K mainGlobals "_law_one" = some (some (.ref f_law_one)))
    (l_law_one : K.lookup f_law_one = some ⟨oc_law_one, od_law_one, .func (PySem.W.fnOf "_law_one" "_law_one" (defArgs s_law_one) (defBody s_law_one) (defScope s_law_one) .none kV_law_one dc_law_one pm_law_one an_law_one cd_law_one ct_law_one), sl_law_one⟩)
    (c_law_one : PySem.W.codeIn K cd_law_one "_law_one" = true)
    (k_law_one : PySem.W.keepIn K (.ref f_law_one) = true)
    (a_law : PySem.W.nsIn K mainGlobals "law" = some (some (.ref f_law)))
    (l_law : K.lookup f_law = some ⟨oc_law, od_law, .func (PySem.W.fnOf "law" "law" (defArgs s_law) (defBody s_law) (defScope s_law) .none kV_law dc_law pm_law an_law cd_law ct_law), sl_law⟩)
    (c_law : PySem.W.codeIn K cd_law "law" = true)
    (k_law : PySem.W.keepIn K (.ref f_law) = true)
    (a_init : PySem.W.findIn K (.ref C) "__init__" = some (some (.ref f_init)))
    (i_init : PySem.W.isFn K (.ref f_init) = true)
    (l_init : K.lookup f_init = some ⟨oc_init, od_init, .func (PySem.W.fnOf "__init__" "Moment.__init__" (defArgs s_Moment_init) (defBody s_Moment_init) (defScope s_Moment_init) .none kV_init dc_init pm_init an_init cd_init ct_init), sl_init⟩)
    (c_init : PySem.W.codeIn K cd_init "Moment.__init__" = true)
    (k_init : PySem.W.keepIn K (.ref f_init) = true)
    (a_number : PySem.W.findIn K (.ref C) "number" = some (some (.ref f_number)))
    (i_number : PySem.W.isFn K (.ref f_number) = true)
    (l_number : K.lookup f_number = some ⟨oc_number, od_number, .func (PySem.W.fnOf "number" "Moment.number" (defArgs s_Moment_number) (defBody s_Moment_number) (defScope s_Moment_number) .none kV_number dc_number pm_number an_number cd_number ct_number), sl_number⟩)
    (c_number : PySem.W.codeIn K cd_number "Moment.number" = true)
    (k_number : PySem.W.keepIn K (.ref f_number) = true)
    (a_writers : PySem.W.findIn K (.ref C) "writers" = some (some (.ref f_writers)))
    (i_writers : PySem.W.isFn K (.ref f_writers) = true)
    (l_writers : K.lookup f_writers = some ⟨oc_writers, od_writers, .func (PySem.W.fnOf "writers" "Moment.writers" (defArgs s_Moment_writers) (defBody s_Moment_writers) (defScope s_Moment_writers) .none kV_writers dc_writers pm_writers an_writers cd_writers ct_writers), sl_writers⟩)
    (c_writers : PySem.W.codeIn K cd_writers "Moment.writers" = true)
    (k_writers : PySem.W.keepIn K (.ref f_writers) = true)
    (a_len : PySem.W.findIn K (.ref C) "__len__" = some (some (.ref f_len)))
    (i_len : PySem.W.isFn K (.ref f_len) = true)
    (l_len : K.lookup f_len = some ⟨oc_len, od_len, .func (PySem.W.fnOf "__len__" "Moment.__len__" (defArgs s_Moment_len) (defBody s_Moment_len) (defScope s_Moment_len) .none kV_len dc_len pm_len an_len cd_len ct_len), sl_len⟩)
    (c_len : PySem.W.codeIn K cd_len "Moment.__len__" = true)
    (k_len : PySem.W.keepIn K (.ref f_len) = true)
    (a_or : PySem.W.findIn K (.ref C) "__or__" = some (some (.ref f_or)))
    (i_or : PySem.W.isFn K (.ref f_or) = true)
    (l_or : K.lookup f_or = some ⟨oc_or, od_or, .func (PySem.W.fnOf "__or__" "Moment.__or__" (defArgs s_Moment_or) (defBody s_Moment_or) (defScope s_Moment_or) .none kV_or dc_or pm_or an_or cd_or ct_or), sl_or⟩)
    (c_or : PySem.W.codeIn K cd_or "Moment.__or__" = true)
    (k_or : PySem.W.keepIn K (.ref f_or) = true)
    (a_ror : PySem.W.findIn K (.ref C) "__ror__" = some (some (.ref f_ror)))
    (i_ror : PySem.W.isFn K (.ref f_ror) = true)
    (l_ror : K.lookup f_ror = some ⟨oc_ror, od_ror, .func (PySem.W.fnOf "__ror__" "Moment.__ror__" (defArgs s_Moment_ror) (defBody s_Moment_ror) (defScope s_Moment_ror) .none kV_ror dc_ror pm_ror an_ror cd_ror ct_ror), sl_ror⟩)
    (c_ror : PySem.W.codeIn K cd_ror "Moment.__ror__" = true)
    (k_ror : PySem.W.keepIn K (.ref f_ror) = true)
    (a_and : PySem.W.findIn K (.ref C) "__and__" = some (some (.ref f_and)))
    (i_and : PySem.W.isFn K (.ref f_and) = true)
    (l_and : K.lookup f_and = some ⟨oc_and, od_and, .func (PySem.W.fnOf "__and__" "Moment.__and__" (defArgs s_Moment_and) (defBody s_Moment_and) (defScope s_Moment_and) .none kV_and dc_and pm_and an_and cd_and ct_and), sl_and⟩)
    (c_and : PySem.W.codeIn K cd_and "Moment.__and__" = true)
    (k_and : PySem.W.keepIn K (.ref f_and) = true)
    (a_rand : PySem.W.findIn K (.ref C) "__rand__" = some (some (.ref f_rand)))
    (i_rand : PySem.W.isFn K (.ref f_rand) = true)
    (l_rand : K.lookup f_rand = some ⟨oc_rand, od_rand, .func (PySem.W.fnOf "__rand__" "Moment.__rand__" (defArgs s_Moment_rand) (defBody s_Moment_rand) (defScope s_Moment_rand) .none kV_rand dc_rand pm_rand an_rand cd_rand ct_rand), sl_rand⟩)
    (c_rand : PySem.W.codeIn K cd_rand "Moment.__rand__" = true)
    (k_rand : PySem.W.keepIn K (.ref f_rand) = true)
    (a_sub : PySem.W.findIn K (.ref C) "__sub__" = some (some (.ref f_sub)))
    (i_sub : PySem.W.isFn K (.ref f_sub) = true)
    (l_sub : K.lookup f_sub = some ⟨oc_sub, od_sub, .func (PySem.W.fnOf "__sub__" "Moment.__sub__" (defArgs s_Moment_sub) (defBody s_Moment_sub) (defScope s_Moment_sub) .none kV_sub dc_sub pm_sub an_sub cd_sub ct_sub), sl_sub⟩)
    (c_sub : PySem.W.codeIn K cd_sub "Moment.__sub__" = true)
    (k_sub : PySem.W.keepIn K (.ref f_sub) = true)
    (a_rsub : PySem.W.findIn K (.ref C) "__rsub__" = some (some (.ref f_rsub)))
    (i_rsub : PySem.W.isFn K (.ref f_rsub) = true)
    (l_rsub : K.lookup f_rsub = some ⟨oc_rsub, od_rsub, .func (PySem.W.fnOf "__rsub__" "Moment.__rsub__" (defArgs s_Moment_rsub) (defBody s_Moment_rsub) (defScope s_Moment_rsub) .none kV_rsub dc_rsub pm_rsub an_rsub cd_rsub ct_rsub), sl_rsub⟩)
    (c_rsub : PySem.W.codeIn K cd_rsub "Moment.__rsub__" = true)
    (k_rsub : PySem.W.keepIn K (.ref f_rsub) = true)
    (a_of : PySem.W.findCls K (.ref C) (.type "type") "of" = some (.get (.builtin "staticmethod.__get__") (.ref pO) .none (.ref C)))
    (r_of : PySem.W.recIn K pO "staticmethod" = some (.ref f_of :: restO))
    (l_of : K.lookup f_of = some ⟨oc_of, od_of, .func (PySem.W.fnOf "of" "Moment.of" (defArgs s_Moment_of) (defBody s_Moment_of) (defScope s_Moment_of) .none kV_of dc_of pm_of an_of cd_of ct_of), sl_of⟩)
    (c_of : PySem.W.codeIn K cd_of "Moment.of" = true)
    (k_of : PySem.W.keepIn K (.ref f_of) = true)
    (rd : PySem.W.readsIn K C (.type "type") = true)
    (ga : PySem.W.specialIn K (.ref C) "__getattribute__" = some (some (.builtin "type.__getattribute__")))
    (pg : PySem.W.plainGet K C Str.empty = true)
    (hd : PySem.W.hasDictIn K C = true)
    (po : PySem.W.plainOver K C = true)
    (sa : PySem.W.findIn K (.ref C) "__setattr__" = some (some (.builtin "object.__setattr__")))
    (mk : PySem.W.makesIn K C = true)
    (kc : PySem.W.keepIn K (.ref C) = true)
    (nN : PySem.W.findIn K (.ref C) "_number" = some none)
    (cC : PySem.W.findIn K (.ref C) "__class__" = some (some (.builtin "object.__class__")))
    (cG : PySem.W.specialIn K (.builtin "object.__class__") "__get__" = some (some (.builtin "getset_descriptor.__get__")))
    (cT : PySem.W.takesIn K (.builtin "object.__class__") = some true)
    (cM : PySem.W.mroIn K C (.type "object") = some true)
    (kCC : PySem.W.kitOne K (.ref C) (.ref C) = some true)
    (kIC : PySem.W.kitOne K (.type "int") (.ref C) = some false)
    (lw : PySem.W.nsIn K mainGlobals "LAST_WRITER" = some (some (.int 30 tw)))
    (ln : PySem.W.nsIn K mainGlobals "LAST_NUMBER" = some (some (.int 2147483647 tl)))
    (sf : PySem.W.selfFirst K C = true)
    (nf : PySem.W.notFirst K C (.ref C) = true)
    (sub0 : PySem.W.subIn K (.type "int") (.ref C) = some false)
    (io1 : PySem.W.findIn K (.type "int") "__or__" = some io1v)
    (io2 : PySem.W.findIn K (.type "int") "__ror__" = some io2v)
    (ia1 : PySem.W.findIn K (.type "int") "__and__" = some ia1v)
    (ia2 : PySem.W.findIn K (.type "int") "__rand__" = some ia2v)
    (is1 : PySem.W.findIn K (.type "int") "__sub__" = some is1v)
    (is2 : PySem.W.findIn K (.type "int") "__rsub__" = some is2v)
    (sub2 : PySem.W.subIn K (.ref C) (.type "int") = some false)
    (z_len : PySem.W.nsIn K mainGlobals "len" = some none)
    (z_int : PySem.W.nsIn K mainGlobals "int" = some none)
    (z_bool : PySem.W.nsIn K mainGlobals "bool" = some none)
    (z_isinstance : PySem.W.nsIn K mainGlobals "isinstance" = some none)
    (z_range : PySem.W.nsIn K mainGlobals "range" = some none)
    (z_sum : PySem.W.nsIn K mainGlobals "sum" = some none)
    (z_list : PySem.W.nsIn K mainGlobals "list" = some none) :
    ∃ fd : FuncData, (∀ (s : Shared) (v : Value), BindsTo s fd ⟨[v], []⟩ [("script", v)]) ∧ ∀ base : Heap, K.In base → base.Ns mainGlobals mg → FnOk l.prog w K mg base CX0 9 fa fd ["script"] (spLaw K) := by
  have e := hfa.symm.trans (PySem.W.mg_of X G a_law)
  cases e
  have T : Txt K mg C := ⟨⟨pg, hd, po, sa⟩, nN, PySem.W.mg_of X G aC, PySem.W.mg_none_of X G z_len, PySem.W.mg_none_of X G z_int, PySem.W.mg_none_of X G z_bool, PySem.W.mg_none_of X G z_isinstance, PySem.W.mg_none_of X G z_range, PySem.W.mg_none_of X G z_sum, PySem.W.mg_none_of X G z_list,
    cC, cG, cT, cM, kCC, kIC, ⟨tw, PySem.W.mg_of X G lw⟩, ⟨tl, PySem.W.mg_of X G ln⟩⟩
  have F_is_whole := fun_mk (st := s_is_whole) l_is_whole c_is_whole k_is_whole
  have b_is_whole := F_is_whole.binds (ps := ["value"]) fun _ _ _ _ _ _ us hl => match us, hl with | [_], _ => rfl
  have F_is_between := fun_mk (st := s_is_between) l_is_between c_is_between k_is_between
  have b_is_between := F_is_between.binds (ps := ["value", "low", "high"]) fun _ _ _ _ _ _ us hl => match us, hl with | [_, _, _], _ => rfl
  have F_is_writer_number := fun_mk (st := s_is_writer_number) l_is_writer_number c_is_writer_number k_is_writer_number
  have b_is_writer_number := F_is_writer_number.binds (ps := ["value"]) fun _ _ _ _ _ _ us hl => match us, hl with | [_], _ => rfl
  have F_number_of := fun_mk (st := s_number_of) l_number_of c_number_of k_number_of
  have b_number_of := F_number_of.binds (ps := ["value"]) fun _ _ _ _ _ _ us hl => match us, hl with | [_], _ => rfl
  have F_law_pot := fun_mk (st := s_law_pot) l_law_pot c_law_pot k_law_pot
  have b_law_pot := F_law_pot.binds (ps := ["script"]) fun _ _ _ _ _ _ us hl => match us, hl with | [_], _ => rfl
  have F_law_draw := fun_mk (st := s_law_draw) l_law_draw c_law_draw k_law_draw
  have b_law_draw := F_law_draw.binds (ps := ["pot", "many"]) fun _ _ _ _ _ _ us hl => match us, hl with | [_, _], _ => rfl
  have F_law_bits := fun_mk (st := s_law_bits) l_law_bits c_law_bits k_law_bits
  have b_law_bits := F_law_bits.binds (ps := ["number"]) fun _ _ _ _ _ _ us hl => match us, hl with | [_], _ => rfl
  have F_law_one := fun_mk (st := s_law_one) l_law_one c_law_one k_law_one
  have b_law_one := F_law_one.binds (ps := ["one", "other", "sign"]) fun _ _ _ _ _ _ us hl => match us, hl with | [_, _, _], _ => rfl
  have F_law := fun_mk (st := s_law) l_law c_law k_law
  have F_number := fun_mk (st := s_Moment_number) l_number c_number k_number
  have b_number := F_number.binds (ps := ["self"]) fun _ _ _ _ _ _ us hl => match us, hl with | [_], _ => rfl
  have F_writers := fun_mk (st := s_Moment_writers) l_writers c_writers k_writers
  have b_writers := F_writers.binds (ps := ["self"]) fun _ _ _ _ _ _ us hl => match us, hl with | [_], _ => rfl
  have F_len := fun_mk (st := s_Moment_len) l_len c_len k_len
  have b_len := F_len.binds (ps := ["self"]) fun _ _ _ _ _ _ us hl => match us, hl with | [_], _ => rfl
  have F_or := fun_mk (st := s_Moment_or) l_or c_or k_or
  have b_or := F_or.binds (ps := ["self", "other"]) fun _ _ _ _ _ _ us hl => match us, hl with | [_, _], _ => rfl
  have F_ror := fun_mk (st := s_Moment_ror) l_ror c_ror k_ror
  have b_ror := F_ror.binds (ps := ["self", "other"]) fun _ _ _ _ _ _ us hl => match us, hl with | [_, _], _ => rfl
  have F_and := fun_mk (st := s_Moment_and) l_and c_and k_and
  have b_and := F_and.binds (ps := ["self", "other"]) fun _ _ _ _ _ _ us hl => match us, hl with | [_, _], _ => rfl
  have F_rand := fun_mk (st := s_Moment_rand) l_rand c_rand k_rand
  have b_rand := F_rand.binds (ps := ["self", "other"]) fun _ _ _ _ _ _ us hl => match us, hl with | [_, _], _ => rfl
  have F_sub := fun_mk (st := s_Moment_sub) l_sub c_sub k_sub
  have b_sub := F_sub.binds (ps := ["self", "other"]) fun _ _ _ _ _ _ us hl => match us, hl with | [_, _], _ => rfl
  have F_rsub := fun_mk (st := s_Moment_rsub) l_rsub c_rsub k_rsub
  have b_rsub := F_rsub.binds (ps := ["self", "other"]) fun _ _ _ _ _ _ us hl => match us, hl with | [_, _], _ => rfl
  have F_of := fun_mk (st := s_Moment_of) l_of c_of k_of
  have b_of := F_of.binds (ps := ["number"]) fun _ _ _ _ _ _ us hl => match us, hl with | [_], _ => rfl
  refine ⟨PySem.W.fnOf "law" "law" (defArgs s_law) (defBody s_law) (defScope s_law) .none kV_law dc_law pm_law an_law cd_law ct_law, fun s v => .of_eq rfl, fun base _ _ => ?_⟩
  have M : Mk K C f_init := ⟨mk, a_init, i_init, kc⟩
  have GB : FnOk l.prog w K mg base CX0 2 f_is_between _ ["value", "low", "high"] spBetw := ok_is_between F_is_between T F_is_whole b_is_whole (PySem.W.mg_of X G a_is_whole)
  have GI : FnOk l.prog w K mg base CX0 3 f_is_writer_number _ ["value"] spIsW := ok_is_writer F_is_writer_number T GB k_is_between b_is_between (PySem.W.mg_of X G a_is_between)
  have GN : FnOk l.prog w K mg base CX0 4 f_number_of _ ["value"] (spNum C) := ok_number_of F_number_of T GI k_is_writer_number b_is_writer_number (PySem.W.mg_of X G a_is_writer_number)
  have GM : FnR l.prog w K mg base CX0 4 f_init (spMk C) := ok_init l_init c_init T GI k_is_writer_number b_is_writer_number (PySem.W.mg_of X G a_is_writer_number)
  have GO : FnOk l.prog w K mg base CX0 6 f_of _ ["number"] (spOf C) := ok_of F_of T GB k_is_between b_is_between (PySem.W.mg_of X G a_is_between) M GM
  have O : Ops K mg C f_number_of f_of pO pO (.type "type") := ⟨PySem.W.mg_of X G a_number_of, k_number_of, ⟨rd, ga⟩, ⟨a_of, ⟨_, r_of⟩, k_of⟩⟩
  have GO' := Vx.fnR GO b_of
  have Gor : FnR l.prog w K mg base CX0 7 f_or (spBin C fun n m => n ||| m) := Vx.fnR (ok_or F_or T O GN b_number_of GO') b_or
  have Gand : FnR l.prog w K mg base CX0 7 f_and (spBin C fun n m => n &&& m) := Vx.fnR (ok_and F_and T O GN b_number_of GO') b_and
  have Gsub : FnR l.prog w K mg base CX0 7 f_sub (spBin C nsub) := Vx.fnR (ok_sub F_sub T O GN b_number_of GO') b_sub
  have Grsub : FnR l.prog w K mg base CX0 7 f_rsub (spBin C fun n m => nsub m n) := Vx.fnR (ok_rsub F_rsub T O GN b_number_of GO') b_rsub
  have oOr : Vx.OpF K C f_or .BitOr := ⟨sf, a_or, i_or, ⟨_, a_ror, .inr ⟨_, rfl⟩⟩, ⟨_, io1⟩, ⟨_, io2⟩, sub0⟩
  have oAn : Vx.OpF K C f_and .BitAnd := ⟨sf, a_and, i_and, ⟨_, a_rand, .inr ⟨_, rfl⟩⟩, ⟨_, ia1⟩, ⟨_, ia2⟩, sub0⟩
  have oSu : Vx.OpF K C f_sub .Sub := ⟨sf, a_sub, i_sub, ⟨_, a_rsub, .inr ⟨_, rfl⟩⟩, ⟨_, is1⟩, ⟨_, is2⟩, sub0⟩
  have oRor : Vx.OpRF K C f_ror .BitOr := ⟨sf, ⟨_, a_or⟩, a_ror, i_ror, ⟨_, io1⟩, ⟨_, io2⟩, sub2⟩
  have oRan : Vx.OpRF K C f_rand .BitAnd := ⟨sf, ⟨_, a_and⟩, a_rand, i_rand, ⟨_, ia1⟩, ⟨_, ia2⟩, sub2⟩
  have oRsu : Vx.OpRF K C f_rsub .Sub := ⟨sf, ⟨_, a_sub⟩, a_rsub, i_rsub, ⟨_, is1⟩, ⟨_, is2⟩, sub2⟩
  have Gror : FnR l.prog w K mg base CX0 8 f_ror (spBin C fun n m => n ||| m) := Vx.fnR (ok_ror F_ror oOr Gor) b_ror
  have Grand : FnR l.prog w K mg base CX0 8 f_rand (spBin C fun n m => n &&& m) := Vx.fnR (ok_rand F_rand oAn Gand) b_rand
  have GW : FnOk l.prog w K mg base CX0 1 f_writers _ ["self"] (spWri C) := ok_writers F_writers T
  have Glen : FnR l.prog w K mg base CX0 2 f_len (spLen C) := Vx.fnR (ok_len F_len T ⟨a_writers, i_writers, k_writers⟩ GW b_writers) b_len
  have GD : FnOk l.prog w K mg base CX0 1 f_law_draw _ ["pot", "many"] spDraw := ok_draw F_law_draw T.int T.len
  refine ok_law F_law T (Calls.mk (PySem.W.mg_of X G a_law_pot) k_law_pot b_law_pot (ok_pot F_law_pot T.int) (PySem.W.mg_of X G a_law_bits) k_law_bits b_law_bits (ok_bits F_law_bits T.int T.range) (PySem.W.mg_of X G a_law_draw) k_law_draw b_law_draw GD
    (PySem.W.mg_of X G a_law_one) k_law_one b_law_one (ok_one F_law_one T) ⟨a_writers, i_writers, k_writers⟩ b_writers GW ⟨a_number, i_number, k_number⟩ b_number (ok_number F_number T) a_len i_len Glen
    oOr Gor oAn Gand oSu Gsub oRor Gror oRan Grand oRsu Grsub M GM ⟨rd, ga⟩ ⟨a_of, ⟨_, r_of⟩, k_of⟩ GO')
theorem walk {l : PySem.W.OpenLaw} {q : Program} {loose : List Str} {XP : (Str → Option Value) → Heap → Prop} {YP : World → Heap → Prop} {d : DefRec} {K : Params → PySem.W.Frag} (hn : l.most = some 63) (hdf : d.params.defaults = [])
    (hY : ∀ (w : World) (h : Heap), YP w h → (K w.params).In h)
    (F : ∀ (w : World) (mg : Str → Option Value) (fa : Addr) (h : Heap), (K w.params).In h → h.Ns mainGlobals mg → mg d.name = some (.ref fa) →
      ∃ fd : FuncData, (∀ (s : Shared) (u : Value), BindsTo s fd ⟨[u], []⟩ [("script", u)]) ∧ ∀ base : Heap, (K w.params).In base → base.Ns mainGlobals mg → FnOk l.prog w (K w.params) mg base CX0 9 fa fd ["script"] (spLaw (K w.params))) :
    PySem.W.WalkO q loose XP YP l.row.toRowW d [] (fun f vs => PySem.call f vs) :=
  L2.walk_of (n := 63) (k := 9) (x := "script") (CX := fun _ => CX0) (sp := fun w => spLaw (K w.params)) hn (by decide) hdf ⟨rfl, by decide, by decide⟩ hY F (fun _ _ a ns hl _ hS => ⟨a, ns, rfl, hS, hl, fun _ => rfl⟩) fun _ _ _ _ _ z => z
end Toy
open PySem PySem.W PyProof.Rows in
set_option maxRecDepth 100000 in
set_option maxHeartbeats 0 in
theorem PySem.Challenge.cw_trustedpages_k03_sums_and_cuts_of_moment_holds : PySem.Challenge.rw_trustedpages_k03_sums_and_cuts_of_moment.Holds := by
  w_on; o_law; k_head; (case hw => w_witness2)
  k_fill
  refine Toy.walk (l := PySem.Challenge.rw_trustedpages_k03_sums_and_cuts_of_moment) rfl rfl (fun w h Y => PySem.W.kIn_of Y) ?F
  case F =>
    intro w mg fa h KX G hmg
    refine' Toy.all_mk KX G hmg ?aC ?a_is_whole ?l_is_whole ?c_is_whole ?k_is_whole ?a_is_between ?l_is_between ?c_is_between ?k_is_between ?a_is_writer_number ?l_is_writer_number ?c_is_writer_number ?k_is_writer_number ?a_number_of ?l_number_of ?c_number_of ?k_number_of ?a_law_pot ?l_law_pot ?c_law_pot ?k_law_pot ?a_law_draw ?l_law_draw ?c_law_draw ?k_law_draw ?a_law_bits ?l_law_bits ?c_law_bits ?k_law_bits ?a_law_one ?l_law_one ?c_law_one ?k_law_one ?a_law ?l_law ?c_law ?k_law ?a_init ?i_init ?l_init ?c_init ?k_init ?a_number ?i_number ?l_number ?c_number ?k_number ?a_writers ?i_writers ?l_writers ?c_writers ?k_writers ?a_len ?i_len ?l_len ?c_len ?k_len ?a_or ?i_or ?l_or ?c_or ?k_or ?a_ror ?i_ror ?l_ror ?c_ror ?k_ror ?a_and ?i_and ?l_and ?c_and ?k_and ?a_rand ?i_rand ?l_rand ?c_rand ?k_rand ?a_sub ?i_sub ?l_sub ?c_sub ?k_sub ?a_rsub ?i_rsub ?l_rsub ?c_rsub ?k_rsub ?a_of ?r_of ?l_of ?c_of ?k_of ?rd ?ga ?pg ?hd ?po ?sa ?mk ?kc ?nN ?cC ?cG ?cT ?cM ?kCC ?kIC ?lw ?ln ?sf ?nf ?sub0 ?io1 ?io2 ?ia1 ?ia2 ?is1 ?is2 ?sub2 ?z_len ?z_int ?z_bool ?z_isinstance ?z_range ?z_sum ?z_list
    (case aC => k_is)
    (case a_is_whole => k_is)
    (case l_is_whole => k_is)
    (case c_is_whole => k_is)
    (case k_is_whole => k_is)
    (case a_is_between => k_is)
    (case l_is_between => k_is)
    (case c_is_between => k_is)
    (case k_is_between => k_is)
    (case a_is_writer_number => k_is)
    (case l_is_writer_number => k_is)
    (case c_is_writer_number => k_is)
    (case k_is_writer_number => k_is)
    (case a_number_of => k_is)
    (case l_number_of => k_is)
    (case c_number_of => k_is)
    (case k_number_of => k_is)
    (case a_law_pot => k_is)
    (case l_law_pot => k_is)
    (case c_law_pot => k_is)
    (case k_law_pot => k_is)
    (case a_law_draw => k_is)
    (case l_law_draw => k_is)
    (case c_law_draw => k_is)
    (case k_law_draw => k_is)
    (case a_law_bits => k_is)
    (case l_law_bits => k_is)
    (case c_law_bits => k_is)
    (case k_law_bits => k_is)
    (case a_law_one => k_is)
    (case l_law_one => k_is)
    (case c_law_one => k_is)
    (case k_law_one => k_is)
    (case a_law => k_is)
    (case l_law => k_is)
    (case c_law => k_is)
    (case k_law => k_is)
    (case a_init => k_is)
    (case i_init => k_is)
    (case l_init => k_is)
    (case c_init => k_is)
    (case k_init => k_is)
    (case a_number => k_is)
    (case i_number => k_is)
    (case l_number => k_is)
    (case c_number => k_is)
    (case k_number => k_is)
    (case a_writers => k_is)
    (case i_writers => k_is)
    (case l_writers => k_is)
    (case c_writers => k_is)
    (case k_writers => k_is)
    (case a_len => k_is)
    (case i_len => k_is)
    (case l_len => k_is)
    (case c_len => k_is)
    (case k_len => k_is)
    (case a_or => k_is)
    (case i_or => k_is)
    (case l_or => k_is)
    (case c_or => k_is)
    (case k_or => k_is)
    (case a_ror => k_is)
    (case i_ror => k_is)
    (case l_ror => k_is)
    (case c_ror => k_is)
    (case k_ror => k_is)
    (case a_and => k_is)
    (case i_and => k_is)
    (case l_and => k_is)
    (case c_and => k_is)
    (case k_and => k_is)
    (case a_rand => k_is)
    (case i_rand => k_is)
    (case l_rand => k_is)
    (case c_rand => k_is)
    (case k_rand => k_is)
    (case a_sub => k_is)
    (case i_sub => k_is)
    (case l_sub => k_is)
    (case c_sub => k_is)
    (case k_sub => k_is)
    (case a_rsub => k_is)
    (case i_rsub => k_is)
    (case l_rsub => k_is)
    (case c_rsub => k_is)
    (case k_rsub => k_is)
    (case a_of => k_is)
    (case r_of => k_is)
    (case l_of => k_is)
    (case c_of => k_is)
    (case k_of => k_is)
    (case rd => k_is)
    (case ga => k_is)
    (case pg => k_is)
    (case hd => k_is)
    (case po => k_is)
    (case sa => k_is)
    (case mk => k_is)
    (case kc => k_is)
    (case nN => k_is)
    (case cC => k_is)
    (case cG => k_is)
    (case cT => k_is)
    (case cM => k_is)
    (case kCC => exact if_pos (beq_self_eq_true _))
    (case kIC => kit_is)
    (case lw => k_is)
    (case ln => k_is)
    (case sf => k_is)
    (case nf => k_is)
    (case sub0 => k_is)
    (case io1 => k_is)
    (case io2 => k_is)
    (case ia1 => k_is)
    (case ia2 => k_is)
    (case is1 => k_is)
    (case is2 => k_is)
    (case sub2 => k_is)
    (case z_len => k_is)
    (case z_int => k_is)
    (case z_bool => k_is)
    (case z_isinstance => k_is)
    (case z_range => k_is)
    (case z_sum => k_is)
    (case z_list => k_is)
