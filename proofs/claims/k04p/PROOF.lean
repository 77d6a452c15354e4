import PyProof.Rows.All
import Wide.All
import OpenK.AllK
import Wide.FinOn
import PyProof.EqAt
import PyProof.EqKinds
import PyProof.TupleCall
import KE.KOpsOwn
import HandS.ForMost
import HandS.OwnEq
import HandS.Star
import HandS.ClsMeth
import HandS.IsInst
import HandS.Codes
import HandS.Flow
import HandS.Wide
import PySem.Challenge.RW_trustedpages_k04_moments_in_order
import Open.Row
import KE.RegKIsAll
set_option Elab.async false
set_option linter.all false
set_option maxRecDepth 100000
set_option maxHeartbeats 2000000
/-! own operators, static methods, an own class called with a star -/
namespace Vx
open PySem PySem.Spec PyProof.Rows L2
section
variable {P : Program} {w : World} {K : PySem.W.Frag} {mg : Str → Option Value} {base : Heap} {CX : CXT} {k : Nat} {f : Addr} {fd : FuncData} {ps : List Str} {sp : Sp}
theorem fnR (F : FnOk P w K mg base CX k f fd ps sp) (hb : L2.Binds K fd ps []) : FnR P w K mg base CX k f sp := by
  intro A outer s H us vs Q E hr e0 r hsp
  have hl := F.len _ _ _ _ hsp
  have KX : K.In s.heap := e0.mod.kin.keeps fun b o e => (e0.bs b o e).1
  refine F.run A outer s H ⟨us, []⟩ us vs Q E hr e0 ?_ r hsp
  have := hb s us KX (by rw [List.append_nil, ← r.length]; exact hl)
  simpa using this
end
section
variable {X : Cx} {CX : CXT} {k : Nat} {C f : Addr} {sp : Sp} {E : XK} {pins : List (Addr × Obj)} {σ : L2.St} {H : Hp} {s : Shared} {Q : VK}
theorem cmpBack_of {v : Value} {s' : Shared} (h : EP X pins σ Q v s') : PySem.W.CmpBack (EP X pins σ Q) v s' := by
  cases v with
  | notImplemented =>
    obtain ⟨v', H', I', r, q⟩ := h
    cases v' with
    | int i => obtain ⟨t, e⟩ := r; cases e
    | str i => obtain ⟨t, e⟩ := r; cases e
    | byt i => obtain ⟨t, e⟩ := r; cases e
    | flt i => obtain ⟨t, e⟩ := r; cases e
    | non => cases r
    | bl b => cases r
    | ref a => cases r
    | ty n => cases r
  | _ => exact h
theorem call_cmp {us : List Value} {vs : List V} (F : FnR X.prog X.w X.K X.mg X.base CX k f sp) (hr : Room k X.A) (hx : Passes CX X E) (I : L2.Inv X pins σ H s) (r : Vals vs us) (h : sp vs H Q E) :
    wpAny (model X.prog X.w) X.A (call (.ref f) us) (PySem.W.CmpBack (EP X pins σ Q)) X.xe s :=
  wpAny_mono (wpAny_call (run_fnR F hr hx I r h)) (fun _ _ z => cmpBack_of z) fun _ _ z => z
/-- o op y by the own method of o's class; y of the same class, or an int -/
def rOwn (C : Addr) (sp : Sp) (E : XK) : R2 := fun x y H Q => (∃ a dx fs, x = .ref a ∧ H a = some (.ins C dx fs)) ∧ ((∃ b dy gs, y = .ref b ∧ H b = some (.ins C dy gs)) ∨ ∃ i, y = .int i) ∧ sp [x, y] H Q E
/-- what the text says of an operator of the class at C -/
structure OpF (K : PySem.W.Frag) (C f : Addr) (op : Operator) : Prop where
  sf : PySem.W.selfFirst K C = true
  at_ : PySem.W.findIn K (.ref C) (PySem.dunder op.info.2) = some (some (.ref f))
  fn : PySem.W.isFn K (.ref f) = true
  rf : ∃ rc, PySem.W.findIn K (.ref C) (PySem.dunderR op.info.2) = some rc ∧ (rc = none ∨ ∃ g : Addr, rc = some (.ref g))
  i1 : ∃ fo, PySem.W.findIn K (.type "int") (PySem.dunder op.info.2) = some fo
  i2 : ∃ ro, PySem.W.findIn K (.type "int") (PySem.dunderR op.info.2) = some ro
  sub : PySem.W.subIn K (.type "int") (.ref C) = some false
theorem op_own {op : Operator} (O : OpF X.K C f op) (F : FnR X.prog X.w X.K X.mg X.base CX k f sp) (hr : Room k X.A) (hx : Passes CX X E) : OpR X (binaryOp op) (rOwn C sp E) := by
  intro pins s σ H x y v u Q I rx ry hq
  obtain ⟨⟨a, dx, fs, rfl, ha⟩, hy, hsp⟩ := hq
  have ev : v = Value.ref a := rx
  have cl := call_cmp F hr hx I (us := [v, u]) (vs := [V.ref a, y]) (.cons rx (.cons ry .nil)) hsp
  subst ev
  obtain ⟨mA, J, _⟩ := ins_get I.hok ha
  obtain ⟨od, J, _⟩ := J.look
  obtain ⟨m, hF⟩ := I.fr
  rcases hy with ⟨b, dy, gs, rfl, hb⟩ | ⟨i, rfl⟩
  · have eu : u = Value.ref b := ry
    subst eu
    obtain ⟨mB, J', _⟩ := ins_get I.hok hb
    obtain ⟨od', J', _⟩ := J'.look
    exact PySem.W.binop_K hF I.ok.mod.kin J J'.type O.sf O.at_ O.fn cl
  · obtain ⟨t, rfl⟩ := ry
    obtain ⟨rc, r1, r2⟩ := O.rf
    obtain ⟨fo, i1⟩ := O.i1
    obtain ⟨ro, i2⟩ := O.i2
    exact PySem.W.ksp_binT (T := "int") hF I.ok.mod.kin J rfl O.sf O.at_ O.fn r1 r2 i1 i2 O.sub cl
/-- o cmp y by the own method, y of the same class -/
def rCmp (C : Addr) (sp : Sp) (E : XK) : R2 := fun x y H Q => (∃ a dx fs, x = .ref a ∧ H a = some (.ins C dx fs)) ∧ (∃ b dy gs, y = .ref b ∧ H b = some (.ins C dy gs)) ∧ sp [x, y] H Q E
theorem op_cmpOwn {op : CmpOp} (hc : ∀ v u, compareOp op v u = richCompare op v u) (nf : PySem.W.notFirst X.K C (.ref C) = true) (at_ : PySem.W.findIn X.K (.ref C) (cmpInfo op).2.1 = some (some (.ref f))) (fn : PySem.W.isFn X.K (.ref f) = true)
    (F : FnR X.prog X.w X.K X.mg X.base CX k f sp) (hr : Room k X.A) (hx : Passes CX X E) : OpR X (compareOp op) (rCmp C sp E) := by
  intro pins s σ H x y v u Q I rx ry hq
  obtain ⟨⟨a, dx, fs, rfl, ha⟩, ⟨b, dy, gs, rfl, hb⟩, hsp⟩ := hq
  have ev : v = Value.ref a := rx
  have eu : u = Value.ref b := ry
  have cl := call_cmp F hr hx I (us := [v, u]) (vs := [V.ref a, V.ref b]) (.cons rx (.cons ry .nil)) hsp
  subst ev eu
  obtain ⟨mA, J, _⟩ := ins_get I.hok ha
  obtain ⟨od, J, _⟩ := J.look
  obtain ⟨mB, J', _⟩ := ins_get I.hok hb
  obtain ⟨od', J', _⟩ := J'.look
  obtain ⟨m, hF⟩ := I.fr
  rw [hc]
  exact PySem.W.cmp_K hr.units0 hF I.ok.mod.kin J J'.type nf at_ fn cl
/-- x in o by the own method -/
def rInOwn (C : Addr) (sp : Sp) (E : XK) (neg : Bool) : R2 := fun x y H Q => (∃ a dx fs, y = .ref a ∧ H a = some (.ins C dx fs)) ∧ sp [y, x] H (fun v H' => ∃ b, v = .bl b ∧ Q (.bl (if neg then !b else b)) H') E
theorem op_inOwn (at_ : PySem.W.findIn X.K (.ref C) "__contains__" = some (some (.ref f))) (fn : PySem.W.isFn X.K (.ref f) = true)
    (F : FnR X.prog X.w X.K X.mg X.base CX k f sp) (hr : Room k X.A) (hx : Passes CX X E) : OpR X (compareOp .In) (rInOwn C sp E false) := by
  intro pins s σ H x y v u Q I rx ry hq
  obtain ⟨⟨a, dx, fs, rfl, ha⟩, hsp⟩ := hq
  have eu : u = Value.ref a := ry
  have cl := wpAny_call (run_fnR (us := [u, v]) (vs := [V.ref a, x]) F hr hx I (.cons ry (.cons rx .nil)) hsp)
  subst eu
  obtain ⟨mA, J, _⟩ := ins_get I.hok ha
  obtain ⟨od, J, _⟩ := J.look
  obtain ⟨m, hF⟩ := I.fr
  refine PySem.W.in_K hF I.ok.mod.kin J at_ fn (wpAny_mono cl (fun r s' z => ?_) fun _ _ z => z)
  obtain ⟨v', H', I', rv, b, rfl, q⟩ := z
  have er : r = Value.bool b := rv
  subst er
  exact wpAny_truthy_bool ⟨.bl b, H', I', rfl, q⟩
end
/-! static methods -/
structure SMet (K : PySem.W.Frag) (C : Addr) (mc : Value) (m : Str) (p g : Addr) : Prop where
  at_ : PySem.W.findCls K (.ref C) mc m = some (.get (.builtin "staticmethod.__get__") (.ref p) .none (.ref C))
  rc : ∃ rest, PySem.W.recIn K p "staticmethod" = some (.ref g :: rest)
  kp : PySem.W.keepIn K (.ref g) = true
def tSMeth (C : Addr) (sp : Sp) (E : XK) (ta : TE) (t : TA) : TE := fun σ H Q => ta σ H fun x H1 => x = .ref C ∧ t σ H1 fun vs H2 => sp vs H2 Q E
section
variable {X : Cx} {CX : CXT} {k : Nat} {C p g : Addr} {mc : Value} {sp : Sp} {E : XK} {o e : Expr} {es : List Expr} {m : Str} {pos apos : Pos} {ta : TE} {t : TA} {pl : Sem Bool}
theorem pe_smeth (he : PE X o ta) (r : ClX.CRead X.K C mc) (c : SMet X.K C mc m p g) (F : FnR X.prog X.w X.K X.mg X.base CX k g sp) (hr : Room k X.A) (hx : Passes CX X E) (ha : PA X (e :: es) t)
    (hst : starEach (e :: es) X.env = (false, eval e X.env) :: starEach es X.env := by rfl) (hpl : (backTo pos (starEach es X.env)).any (·.1) = false := by rfl)
    (ht : eval (.Call (.Attribute o m apos) (e :: es) [] pos) X.env = (do
      let ov ← eval o X.env
      standAt apos.atName
      let (f, first) ← holding [ov] (getMethod ov m pl)
      callWith pos f first (backTo pos (starEach (e :: es) X.env)) (backToKw pos (keywordEach [] X.env))) := by rfl) :
    PE X (.Call (.Attribute o m apos) (e :: es) [] pos) (tSMeth C sp E ta t) := by
  refine ⟨fun pins s σ H Q I h => ?_⟩
  refine PySem.W.methodCall_KW (pl := pl) (thn (he.run pins s σ H _ I h) fun u s1 ⟨x, H1, I1, rx, ex, q⟩ => ?_) ht
  subst ex
  obtain rfl : u = Value.ref C := rx
  obtain ⟨rest, hp⟩ := c.rc
  refine PySem.W.method_cls I1.kIn r.ga (PySem.W.cls_bind I1.kIn r.rd c.at_ (wpAny_call (PySem.W.sm_get (s := { s1 with toks := s1.toks + 1 }) I1.kIn hp (PySem.W.handed_on rfl ?_))))
  have I2 : L2.Inv X pins σ H1 { s1 with toks := s1.toks + 1 } := I1.tok _
  refine PySem.W.callWith_K (h₀ := X.base) I2.ok.mod.kin c.kp (thn (ha.run pos pins _ σ H1 _ I2 q) fun us s3 ⟨vs, H2, I3, rv, q2⟩ => ⟨I3.kIn, ?_⟩) hst hpl
  exact wpAny_call (run_fnR F hr hx I3 rv q2)
end
/-! C(*xs) -/
section
variable {X : Cx} {CX : CXT} {k : Nat} {f C : Addr} {sp : Sp} {E : XK} {x : Str} {e : Expr} {te : TE} {p pos sp_ : Pos}
def tMakeS (K : PySem.W.Frag) (C : Addr) (sp : Sp) (E : XK) (te : TE) : TE := fun σ H Q => te σ H fun y H1 => ∃ a xs, y = V.ref a ∧ (SqT K H1 a xs ∨ SqL K H1 a xs) ∧ ∀ x dx, H1 x = Option.none → H1 dx = Option.none → dx ≠ x →
  sp (V.ref x :: xs) (upd (upd H1 dx (.own x)) x (.ins C dx [])) (fun v H2 => v = .non ∧ Q (.ref x) H2) E
theorem pe_makeS (M : Mk X.K C f) (F : FnR X.prog X.w X.K X.mg X.base CX k f sp) (hr : Room (k + 1) X.A) (hg : Gl X x) (hm : X.mg x = some (.ref C)) (hx : Passes CX X E) (he : PE X e te) (hd : (x == ("__debug__" : Str)) = false := by decide)
    (hst : starEach [.Starred e sp_] X.env = [(true, eval e X.env)] := by rfl) :
    PE X (.Call (.Name x p) [.Starred e sp_] [] pos) (tMakeS X.K C sp E te) := by
  refine ⟨fun pins s σ H Q I h => ?_⟩
  refine wpAny_Call_Name_kw (ld_glob I hg hm ?_ hd)
  refine PySem.W.callWith_S (h₀ := X.base) I.ok.mod.kin M.kp (thn (he.run pins s σ H _ I h) fun v s1 ⟨y, H1, I1, ry, a, xs, ey, hxs, q⟩ => ?_) hst
  subst ey
  obtain rfl : v = Value.ref a := ry
  exact StX.star_any I1 hxs fun us s2 I2 rv => ⟨I2.kIn, StX.run_makeR M F hr hx I2 rv q⟩
def tMakeZ (C : Addr) (sp : Sp) (E : XK) : TE := fun _ H Q => ∀ x dx, H x = Option.none → H dx = Option.none → dx ≠ x →
  sp [V.ref x] (upd (upd H dx (.own x)) x (.ins C dx [])) (fun v H2 => v = .non ∧ Q (.ref x) H2) E
end
end Vx
set_option Elab.async false
set_option linter.all false
set_option maxRecDepth 100000
namespace Toy
open PySem PySem.Spec PyProof.Rows L2
def topS (i : Nat) : Stmt := PySem.Challenge.pw_trustedpages_k04_moments_in_order.main.body.getD i (.Pass ⟨0, 0, 0, 0⟩)
abbrev s_is_whole : Stmt := topS 4
theorem sc_is_whole : FnScope ["value"] ["value"] (defScope s_is_whole) := ⟨rfl, rfl, rfl, by decide +kernel, rfl, by decide +kernel, by decide +kernel⟩
-- is_whole cells []
abbrev s_is_between : Stmt := topS 5
theorem sc_is_between : FnScope ["value", "low", "high"] ["value", "low", "high"] (defScope s_is_between) := ⟨rfl, rfl, rfl, by decide +kernel, rfl, by decide +kernel, by decide +kernel⟩
-- is_between cells []
abbrev s_is_writer_number : Stmt := topS 9
theorem sc_is_writer_number : FnScope ["value"] ["value"] (defScope s_is_writer_number) := ⟨rfl, rfl, rfl, by decide +kernel, rfl, by decide +kernel, by decide +kernel⟩
-- is_writer_number cells []
abbrev s_number_of : Stmt := topS 10
theorem sc_number_of : FnScope ["value"] ["value"] (defScope s_number_of) := ⟨rfl, rfl, rfl, by decide +kernel, rfl, by decide +kernel, by decide +kernel⟩
-- number_of cells []
abbrev s_Moment_init : Stmt := inClass (topS 11) 0
theorem sc_Moment_init : FnScope ["self", "writers", "writer", "k"] ["self", "writers"] (defScope s_Moment_init) := ⟨rfl, rfl, rfl, by decide +kernel, rfl, by decide +kernel, by decide +kernel⟩
-- Moment_init cells ['writers']
abbrev s_Moment_of : Stmt := inClass (topS 11) 1
theorem sc_Moment_of : FnScope ["number", "writers", "k"] ["number"] (defScope s_Moment_of) := ⟨rfl, rfl, rfl, by decide +kernel, rfl, by decide +kernel, by decide +kernel⟩
-- Moment_of cells ['number']
abbrev s_Moment_writers : Stmt := inClass (topS 11) 3
theorem sc_Moment_writers : FnScope ["self", "k"] ["self"] (defScope s_Moment_writers) := ⟨rfl, rfl, rfl, by decide +kernel, rfl, by decide +kernel, by decide +kernel⟩
-- Moment_writers cells ['self']
abbrev s_Moment_or : Stmt := inClass (topS 11) 6
theorem sc_Moment_or : FnScope ["self", "other", "number"] ["self", "other"] (defScope s_Moment_or) := ⟨rfl, rfl, rfl, by decide +kernel, rfl, by decide +kernel, by decide +kernel⟩
-- Moment_or cells []
abbrev s_Moment_and : Stmt := inClass (topS 11) 8
theorem sc_Moment_and : FnScope ["self", "other", "number"] ["self", "other"] (defScope s_Moment_and) := ⟨rfl, rfl, rfl, by decide +kernel, rfl, by decide +kernel, by decide +kernel⟩
-- Moment_and cells []
abbrev s_Moment_eq : Stmt := inClass (topS 11) 12
theorem sc_Moment_eq : FnScope ["self", "other"] ["self", "other"] (defScope s_Moment_eq) := ⟨rfl, rfl, rfl, by decide +kernel, rfl, by decide +kernel, by decide +kernel⟩
-- Moment_eq cells []
abbrev s_Moment_le : Stmt := inClass (topS 11) 13
theorem sc_Moment_le : FnScope ["self", "other"] ["self", "other"] (defScope s_Moment_le) := ⟨rfl, rfl, rfl, by decide +kernel, rfl, by decide +kernel, by decide +kernel⟩
-- Moment_le cells []
abbrev s_Moment_lt : Stmt := inClass (topS 11) 14
theorem sc_Moment_lt : FnScope ["self", "other"] ["self", "other"] (defScope s_Moment_lt) := ⟨rfl, rfl, rfl, by decide +kernel, rfl, by decide +kernel, by decide +kernel⟩
-- Moment_lt cells []
abbrev s_Moment_ge : Stmt := inClass (topS 11) 15
theorem sc_Moment_ge : FnScope ["self", "other"] ["self", "other"] (defScope s_Moment_ge) := ⟨rfl, rfl, rfl, by decide +kernel, rfl, by decide +kernel, by decide +kernel⟩
-- Moment_ge cells []
abbrev s_Moment_gt : Stmt := inClass (topS 11) 16
theorem sc_Moment_gt : FnScope ["self", "other"] ["self", "other"] (defScope s_Moment_gt) := ⟨rfl, rfl, rfl, by decide +kernel, rfl, by decide +kernel, by decide +kernel⟩
-- Moment_gt cells []
abbrev s_law_pot : Stmt := topS 13
theorem sc_law_pot : FnScope ["script", "cell"] ["script"] (defScope s_law_pot) := ⟨rfl, rfl, rfl, by decide +kernel, rfl, by decide +kernel, by decide +kernel⟩
-- law_pot cells []
abbrev s_law_draw : Stmt := topS 14
theorem sc_law_draw : FnScope ["pot", "many", "cells", "at", "cell"] ["pot", "many"] (defScope s_law_draw) := ⟨rfl, rfl, rfl, by decide +kernel, rfl, by decide +kernel, by decide +kernel⟩
-- law_draw cells []
abbrev s_law_bits : Stmt := topS 15
theorem sc_law_bits : FnScope ["number", "bits", "k"] ["number"] (defScope s_law_bits) := ⟨rfl, rfl, rfl, by decide +kernel, rfl, by decide +kernel, by decide +kernel⟩
-- law_bits cells []
abbrev s_law_inside : Stmt := topS 16
theorem sc_law_inside : FnScope ["a", "b", "k"] ["a", "b"] (defScope s_law_inside) := ⟨rfl, rfl, rfl, by decide +kernel, rfl, by decide +kernel, by decide +kernel⟩
-- law_inside cells ['b']
abbrev s_law_right : Stmt := topS 17
theorem sc_law_right : FnScope ["one", "other", "a", "b"] ["one", "other", "a", "b"] (defScope s_law_right) := ⟨rfl, rfl, rfl, by decide +kernel, rfl, by decide +kernel, by decide +kernel⟩
-- law_right cells []
abbrev s_law_more : Stmt := topS 18
theorem sc_law_more : FnScope ["pot", "a", "b", "k"] ["pot", "a"] (defScope s_law_more) := ⟨rfl, rfl, rfl, by decide +kernel, rfl, by decide +kernel, by decide +kernel⟩
-- law_more cells ['b']
abbrev s_law_moment : Stmt := topS 19
theorem sc_law_moment : FnScope ["a", "moment", "k"] ["a"] (defScope s_law_moment) := ⟨rfl, rfl, rfl, by decide +kernel, rfl, by decide +kernel, by decide +kernel⟩
-- law_moment cells []
abbrev s_law : Stmt := topS 20
theorem sc_law : FnScope ["script", "pot", "k", "rows", "moments", "i", "j", "joined", "cut", "row", "moment"] ["script"] (defScope s_law) := ⟨rfl, rfl, rfl, by decide +kernel, rfl, by decide +kernel, by decide +kernel⟩
-- law cells ['pot']
end Toy
set_option Elab.async false
set_option linter.all false
set_option maxRecDepth 100000
set_option maxHeartbeats 2000000
namespace Toy
open PySem PySem.Spec PyProof.Rows L2
/-! ### heaps -/
theorem same_upd {H : Hp} {p : Addr} {o : HO} (h : H p = none) : Same H (upd H p o) := fun b x e => by
  rw [upd_ne (ne_of_none e h)]
  exact e
/-! ### moments as numbers -/
def mo (n : Nat) : List (Str × V) := [("_number", .int n)]
def MoAt (C : Addr) (H : Hp) (p : Addr) (n : Nat) : Prop := n < 2147483648 ∧ ∃ dx, H p = some (.ins C dx (mo n))
theorem MoAt.same {C : Addr} {H H' : Hp} {p : Addr} {n : Nat} (h : MoAt C H p n) (s : Same H H') : MoAt C H' p n := ⟨h.1, h.2.imp fun _ e => s _ _ e⟩
def vi (k : Nat) : V := .int k
def bits (n : Nat) : List Nat := (List.range 31).filter fun k => n.testBit k
/-- what the text says of the class and the names -/
structure Txt (K : PySem.W.Frag) (mg : Str → Option Value) (C : Addr) : Prop where
  cl : Cls K C
  nN : NoAttr K C "_number"
  mgC : mg "Moment" = some (.ref C)
  len : mg "len" = none
  int : mg "int" = none
  bool : mg "bool" = none
  isi : mg "isinstance" = none
  range : mg "range" = none
  sum : mg "sum" = none
  list : mg "list" = none
  cC : PySem.W.findIn K (.ref C) "__class__" = some (some (.builtin "object.__class__"))
  cG : PySem.W.specialIn K (.builtin "object.__class__") "__get__" = some (some (.builtin "getset_descriptor.__get__"))
  cT : PySem.W.takesIn K (.builtin "object.__class__") = some true
  cM : PySem.W.mroIn K C (.type "object") = some true
  kCC : PySem.W.kitOne K (.ref C) (.ref C) = some true
  kIC : PySem.W.kitOne K (.type "int") (.ref C) = some false
  lw : ∃ t, mg "LAST_WRITER" = some (.int 30 t)
  ln : ∃ t, mg "LAST_NUMBER" = some (.int 2147483647 t)
section
variable {P : Program} {w : World} {K : PySem.W.Frag} {mg : Str → Option Value} {base : Heap} {C : Addr}
/-! ### is_whole -/
def spWhole : Sp := fun vs H Q _ => ∃ i : Int, vs = [.int i] ∧ Q (.bl true) H
theorem ok_is_whole {f : Addr} {fd : FuncData} (F : Fun K "is_whole" "is_whole" s_is_whole f fd) (T : Txt K mg C) : FnOk P w K mg base CX0 1 f fd ["value"] spWhole := by
  refine F.ok sc_is_whole (fun vs H Q E h => ?_) (fun cdv A outer s H vs Q E hr h => ?_)
  · obtain ⟨i, rfl, _⟩ := h
    rfl
  · obtain ⟨i, rfl, q⟩ := h
    refine ⟨_, pss_one (ps_ret (pe_and (pe_callB call_isi (by rfl) T.isi (by decide +kernel) (pa_cons (pv 0) (pa_cons (pe_bltn (v := .ty "int") (by rfl) T.int (by decide +kernel) rfl) pa_nil)))
      (pe_one (pe_not (pe_callB call_isi (by rfl) T.isi (by decide +kernel) (pa_cons (pv 0) (pa_cons (pe_bltn (v := .ty "bool") (by rfl) T.bool (by decide +kernel) rfl) pa_nil))))))), ?_⟩
    refine ⟨_, rfl, .int i, .ty "int", _, _, true, rfl, .ty _, .base (.int i), kit_ty (by decide +kernel), true, rfl, iteT ?_⟩
    exact ⟨_, rfl, .int i, .ty "bool", _, _, false, rfl, .ty _, .base (.int i), kit_ty (by decide +kernel), false, rfl, q⟩
/-! ### is_between -/
def spBetw : Sp := fun vs H Q _ => ∃ i l h : Int, vs = [.int i, .int l, .int h] ∧ Q (.bl (decide (l ≤ i ∧ i ≤ h))) H
theorem ok_is_between {f fW : Addr} {fd fdW : FuncData} (F : Fun K "is_between" "is_between" s_is_between f fd) (T : Txt K mg C) (FW : Fun K "is_whole" "is_whole" s_is_whole fW fdW) (bW : L2.Binds K fdW ["value"] []) (gW : mg "is_whole" = some (.ref fW)) :
    FnOk P w K mg base CX0 2 f fd ["value", "low", "high"] spBetw := by
  have GW : FnOk P w K mg base CX0 1 fW fdW ["value"] spWhole := ok_is_whole FW T
  refine F.ok sc_is_between (fun vs H Q E h => ?_) (fun cdv A outer s H vs Q E hr h => ?_)
  · obtain ⟨i, l, h, rfl, _⟩ := h
    rfl
  · obtain ⟨i, l, u, rfl, q⟩ := h
    refine ⟨_, pss_one (ps_ret (pe_and (pe_call GW hr (by rfl) gW FW.kp bW .nil pass0 (pa_cons (pv 0) pa_nil)) (pe_one (pe_chain op_le op_le (pv 1) (pv 0) (pv 2))))), ?_⟩
    refine ⟨_, rfl, i, rfl, true, rfl, iteT ?_⟩
    refine ⟨_, rfl, _, rfl, l, i, rfl, rfl, decide (l ≤ i), rfl, ?_⟩
    by_cases h1 : l ≤ i
    · rw [decide_eq_true h1]
      refine iteT ⟨_, rfl, i, u, rfl, rfl, ?_⟩
      have e : decide (l ≤ i ∧ i ≤ u) = decide (i ≤ u) := by by_cases h2 : i ≤ u <;> simp [h1, h2]
      rw [e] at q
      exact q
    · rw [decide_eq_false h1]
      have e : decide (l ≤ i ∧ i ≤ u) = false := by simp [h1]
      rw [e] at q
      exact iteF q
end
end Toy
set_option Elab.async false
set_option linter.all false
set_option maxRecDepth 100000
set_option maxHeartbeats 2000000
namespace Toy
open PySem PySem.Spec PyProof.Rows L2
/-! ### the mathematics of bits -/
theorem bits_succ (p : Nat → Bool) (i : Nat) : (List.range (i + 1)).filter p = if p i = true then (List.range i).filter p ++ [i] else (List.range i).filter p := by
  rw [List.range_succ, List.filter_append]
  by_cases h : p i = true
  · rw [if_pos h, List.filter_cons_of_pos h]
    rfl
  · rw [if_neg h, List.filter_cons_of_neg h, List.filter_nil, List.append_nil]
theorem mod_succ (n i : Nat) : n % 2 ^ (i + 1) = n % 2 ^ i + (if n.testBit i = true then 2 ^ i else 0) := by
  rw [Nat.pow_succ, Nat.mod_mul, Nat.testBit_eq_decide_div_mod_eq]
  by_cases h : n / 2 ^ i % 2 = 1
  · rw [h, if_pos (by decide), Nat.mul_one]
  · have h0 : n / 2 ^ i % 2 = 0 := by omega
    rw [h0, if_neg (by decide), Nat.mul_zero]
theorem sum_bits (n : Nat) : ∀ i : Nat, (((List.range i).filter fun k => n.testBit k).map fun k => ((2 ^ k : Nat) : Int)).sum = ((n % 2 ^ i : Nat) : Int)
  | 0 => by simp [Nat.mod_one]
  | i + 1 => by
    have ih := sum_bits n i
    rw [bits_succ, mod_succ]
    by_cases h : n.testBit i = true
    · rw [if_pos h, if_pos h, List.map_append, List.sum_append, ih]
      simp
    · rw [if_neg h, if_neg h, ih]
      simp
theorem mem_bits {n k : Nat} : k ∈ bits n ↔ k < 31 ∧ n.testBit k = true := by
  unfold bits
  rw [List.mem_filter, List.mem_range]
theorem inV_vi (k : Nat) (ws : List Nat) : inV (vi k) (ws.map vi) = decide (k ∈ ws) := by
  unfold inV
  induction ws with
  | nil => rfl
  | cons a r ih =>
    rw [List.map_cons, List.any_cons, ih]
    show ((((a : Nat) : Int) == ((k : Nat) : Int)) || decide (k ∈ r)) = decide (k ∈ a :: r)
    by_cases h : a = k
    · subst h
      simp
    · have h1 : (((a : Nat) : Int) == ((k : Nat) : Int)) = false := by
        simp
        omega
      rw [h1]
      have h2 : k ≠ a := fun e => h e.symm
      simp [h2]
theorem flat_vi (ws : List Nat) : (ws.map vi).all flatV = true := by
  rw [List.all_map]
  simp [Function.comp, vi, flatV]
theorem filter_bits_mem (n : Nat) (i : Nat) (hi : i ≤ 31) : (List.range i).filter (fun k => decide (k ∈ bits n)) = (List.range i).filter (fun k => n.testBit k) := by
  apply List.filter_congr
  intro k hk
  have h : k < 31 := Nat.lt_of_lt_of_le (List.mem_range.mp hk) hi
  by_cases b : n.testBit k = true
  · rw [b]
    exact decide_eq_true (mem_bits.mpr ⟨h, b⟩)
  · have b' : n.testBit k = false := by simpa using b
    rw [b']
    exact decide_eq_false fun z => b (mem_bits.mp z).2
theorem bit_test (n k : Nat) : ((Builtin.bitAnd ((n : Int) / 2 ^ k) 1 : Int) != 0) = n.testBit k := by
  have e : ((n : Int) / 2 ^ k) = ((n / 2 ^ k : Nat) : Int) := by simp
  rw [e, bitAnd_pp (Int.natCast_nonneg _) (by decide), Int.toNat_natCast]
  show (((n / 2 ^ k &&& 1 : Nat) : Int) != 0) = _
  rw [Nat.testBit_eq_decide_div_mod_eq, Nat.and_one_is_mod]
  by_cases h : n / 2 ^ k % 2 = 1
  · rw [h]
    decide
  · have h0 : n / 2 ^ k % 2 = 0 := by omega
    rw [h0]
    decide
section
variable {P : Program} {w : World} {K : PySem.W.Frag} {mg : Str → Option Value} {base : Heap} {C : Addr}
/-! ### is_writer_number -/
def spIsW : Sp := fun vs H Q _ => ∃ i : Int, vs = [.int i] ∧ Q (.bl (decide (0 ≤ i ∧ i ≤ 30))) H
theorem ok_is_writer {f fB : Addr} {fd fdB : FuncData} (F : Fun K "is_writer_number" "is_writer_number" s_is_writer_number f fd) (T : Txt K mg C) (GB : FnOk P w K mg base CX0 2 fB fdB ["value", "low", "high"] spBetw) (kB : PySem.W.keepIn K (.ref fB) = true)
    (bB : L2.Binds K fdB ["value", "low", "high"] []) (gB : mg "is_between" = some (.ref fB)) : FnOk P w K mg base CX0 3 f fd ["value"] spIsW := by
  obtain ⟨t, lw⟩ := T.lw
  refine F.ok sc_is_writer_number (fun vs H Q E h => ?_) (fun cdv A outer s H vs Q E hr h => ?_)
  · obtain ⟨i, rfl, _⟩ := h
    rfl
  · obtain ⟨i, rfl, q⟩ := h
    refine ⟨_, pss_one (ps_ret (pe_call GB hr (by rfl) gB kB bB .nil pass0 (pa_cons (pv 0) (pa_cons pe_int (pa_cons (pe_glob (v := .int 30) (by rfl) lw ⟨_, rfl⟩) pa_nil))))), ?_⟩
    exact ⟨_, rfl, i, 0, 30, rfl, q⟩
/-! ### _number_of -/
/-- what stands on the right: a moment or a writer, with its number -/
def Arg (C : Addr) (H : Hp) (y : V) (m : Nat) : Prop := m < 2147483648 ∧ ((∃ b, y = .ref b ∧ MoAt C H b m) ∨ ∃ k : Nat, y = vi k ∧ k ≤ 30 ∧ m = 2 ^ k)
def spNum (C : Addr) : Sp := fun vs H Q _ => ∃ (v : V) (m : Nat), vs = [v] ∧ Arg C H v m ∧ Q (vi m) H
theorem ok_number_of {f fI : Addr} {fd fdI : FuncData} (F : Fun K "_number_of" "_number_of" s_number_of f fd) (T : Txt K mg C) (GI : FnOk P w K mg base CX0 3 fI fdI ["value"] spIsW) (kI : PySem.W.keepIn K (.ref fI) = true)
    (bI : L2.Binds K fdI ["value"] []) (gI : mg "is_writer_number" = some (.ref fI)) : FnOk P w K mg base CX0 4 f fd ["value"] (spNum C) := by
  refine F.ok sc_number_of (fun vs H Q E h => ?_) (fun cdv A outer s H vs Q E hr h => ?_)
  · obtain ⟨i, m, rfl, _⟩ := h
    rfl
  · obtain ⟨v, m, rfl, ha, q⟩ := h
    refine ⟨_, pss_cons (ps_if (pt_val (pe_callB call_isi (by rfl) T.isi (by decide +kernel) (pa_cons (pv 0) (pa_cons (pe_glob (v := .ref C) (by rfl) T.mgC rfl) pa_nil)))) (pss_one (ps_ret (pe_fld (pv 0) rfl))) pss_nil)
      (pss_cons (ps_if (pt_val (pe_call GI hr (by rfl) gI kI bI .nil pass0 (pa_cons (pv 0) pa_nil))) (pss_one (ps_ret (pe_op op_shl pe_int (pv 0)))) pss_nil) (pss_one (ps_ret pe_non))), ?_⟩
    obtain ⟨hm, ⟨p, rfl, hn, dx, hp⟩ | ⟨k, rfl, hk, rfl⟩⟩ := ha
    · refine ⟨_, rfl, .ref p, .ref C, .ref C, .ref C, true, rfl, .own C, .base (.ins hp T.cl T.cC T.cG T.cT T.cM), T.kCC, true, rfl, iteT ?_⟩
      exact ⟨_, rfl, p, C, dx, _, _, rfl, hp, T.cl, T.nN, rfl, q⟩
    · refine ⟨_, rfl, .int k, .ref C, .type "int", .ref C, false, rfl, .own C, .base (.int k), T.kIC, false, rfl, iteF ?_⟩
      refine ⟨_, rfl, (k : Int), rfl, _, rfl, ?_⟩
      have e : decide ((0 : Int) ≤ (k : Int) ∧ (k : Int) ≤ 30) = true := decide_eq_true ⟨by omega, by omega⟩
      rw [e]
      refine iteT ⟨_, rfl, 1, (k : Int), rfl, rfl, ⟨by omega, by omega, by decide⟩, ?_⟩
      have e2 : ((1 : Int) * 2 ^ ((k : Int)).toNat) = ((2 ^ k : Nat) : Int) := by simp
      show Q (.int (1 * 2 ^ ((k : Int)).toNat)) H
      rw [e2]
      exact q
end
end Toy
set_option Elab.async false
set_option linter.all false
set_option maxRecDepth 100000
set_option maxHeartbeats 2000000
namespace Toy
open PySem PySem.Spec PyProof.Rows L2
theorem not_upd {H : Hp} {p q : Addr} {o : HO} (h : p ≠ q) : (upd H q o) p = H p := upd_ne h
section
variable {P : Program} {w : World} {K : PySem.W.Frag} {mg : Str → Option Value} {base : Heap} {C : Addr}
/-! ### __init__: the body, with its tuple of writers -/
def spInit (C : Addr) : Sp := fun vs H Q _ => ∃ (H0 : Hp) (p dx t : Addr) (n : Nat), vs = [.ref p, .ref t] ∧ n < 2147483648 ∧ Same H0 H ∧ H0 p = none ∧ H p = some (.ins C dx []) ∧ H t = some (.tup ((bits n).map vi)) ∧
  ∀ H', Same H0 H' → H' p = some (.ins C dx (mo n)) → Q .non H'
theorem body_init {A : Around} {outer : List Env} {s : Shared} {H : Hp} {vs : List V} {Q : VK} {E : XK} {f fI : Addr} {fdI : FuncData} {cdv : Value} (T : Txt K mg C) (GI : FnOk P w K mg base CX0 3 fI fdI ["value"] spIsW) (kI : PySem.W.keepIn K (.ref fI) = true)
    (bI : L2.Binds K fdI ["value"] []) (gI : mg "is_writer_number" = some (.ref fI)) (hr : Room 3 (A.deeper (envOfC "Moment.__init__" (defScope s_Moment_init) s.heap.objs.size f cdv))) (h : spInit C vs H Q E) :
    ∃ t, PSs (cxOf CX0 P w K mg base ["self", "writers", "writer", "k"] "Moment.__init__" (defScope s_Moment_init) f cdv A outer s H E) (defBody s_Moment_init) t ∧ t { nx := fun _ H' => Q .non H', rt := Q } (L2.start ["self", "writers", "writer", "k"] vs) H := by
  obtain ⟨tk, lw⟩ := T.lw
  obtain ⟨H0, p, dx, t, n, rfl, hn, s0, p0, hp, ht, q⟩ := h
  refine ⟨_, PSs.nox (pss_cons (ps_for PassesOwn.never rfl (pi_tup (pv 1)) (pg_name (i := 2) sc_Moment_init.nd rfl (Or.inl rfl))
      (pss_one (ps_if (pt_not (pt_val (pe_call GI hr (by rfl) gI kI bI .nil pass0 (pa_cons (pv 2) pa_nil)))) (pss_one ps_never) pss_nil)))
    (pss_one (ps_fld (pv 0) (pe_callB (cr_sum rfl) (by rfl) T.sum (by decide +kernel) (pa_cons
      (pe_lc (own := [("k", 3)]) (g := gName 3) rfl sc_Moment_init.nd (pi_range1 (by rfl) T.range (pa_cons (pe_op op_add (pe_glob (v := .int 30) (by rfl) lw ⟨_, rfl⟩) pe_int) pa_nil))
        (blkOk_by (own := [("k", 3)]) (N := ["self", "writers", "writer", "k"]) (sc := defScope s_Moment_init) (by decide +kernel)) (fun _ _ _ _ _ => pg_name (i := 3) sc_Moment_init.nd rfl (Or.inl rfl))
        (fun _ _ _ _ _ => pts_one (pt_cmpR (show OpR _ (compareOp .In) (rIn K false) from op_in_seq) (pv 3) (pv 1) (by rfl))) (fun _ _ _ _ _ => pe_op op_shl pe_int (pv 3))) pa_nil)) rfl))), ?_⟩
  have hT : SqT K H t ((bits n).map vi) := SqT.of ht
  refine ⟨.ref t, rfl, t, rfl, ⟨_, hT⟩, for_tup (K := K) (a := t) (xs := (bits n).map vi) (fun i σ H' => H' = H ∧ ∃ v, σ = [some (.ref p), some (.ref t), v, none]) ⟨rfl, none, rfl⟩ (fun i σ H' _ e => e.1 ▸ hT) ?_ ?_⟩
  · rintro i x σ H' hi ⟨rfl, v, rfl⟩
    obtain ⟨k, hk, rfl⟩ : ∃ k, k < 31 ∧ x = vi k := by
      obtain ⟨j, hj, e⟩ := List.mem_map.mp (List.mem_of_getElem? hi)
      exact ⟨j, (mem_bits.mp hj).1, e.symm⟩
    refine ⟨_, rfl, (k : Int), rfl, _, rfl, ?_⟩
    have e : decide ((0 : Int) ≤ (k : Int) ∧ (k : Int) ≤ 30) = true := decide_eq_true ⟨by omega, by omega⟩
    rw [e]
    exact iteF ⟨rfl, _, rfl⟩
  · rintro σ H' ⟨rfl, v, rfl⟩
    refine ⟨30, 1, rfl, rfl, 31, rfl, by decide, by decide, fun D hD => ?_⟩
    have sD : ∀ xs, Same H' (upd H' D (.lst xs)) := fun xs => same_upd hD
    refine lc_range (lo := 0) (n := 31) (fun i H2 => Same H' H2 ∧ H2 D = some (.lst (((List.range i).filter fun k => decide (k ∈ bits n)).map fun k => V.int ((2 ^ k : Nat) : Int)))) ⟨sD _, upd_same⟩ ?_ ?_
    · rintro i H2 hi ⟨s2, e2⟩
      refine ⟨rfl, .int (0 + (i : Int)), rfl, .ref t, rfl, t, _, rfl, .inr (SqT.of (s2 _ _ ht)), rfl, flat_vi _, _, rfl, ?_⟩
      have ei : V.int (0 + (i : Int)) = vi i := by rw [Int.zero_add]; rfl
      show if (if false = true then !inV (V.int (0 + (i : Int))) ((bits n).map vi) else inV (V.int (0 + (i : Int))) ((bits n).map vi)) = true then _ else _
      rw [ei, inV_vi]
      by_cases hm : i ∈ bits n
      · refine ite2 (fun _ => ?_) (fun z => absurd (by simpa using hm) z)
        refine ⟨vi i, rfl, 1, (i : Int), rfl, rfl, ⟨by omega, by omega, by decide⟩, _, e2, ?_, fun b o e => ?_, ?_⟩
        · rw [List.length_map]
          exact Nat.lt_of_le_of_lt (Nat.le_trans (List.length_filter_le _ _) (by rw [List.length_range]; exact Nat.le_of_lt hi)) (by decide)
        · rw [upd_ne (ne_of_none e hD)]
          exact s2 _ _ e
        · rw [upd_same, bits_succ, if_pos (decide_eq_true hm), List.map_append]
          have e3 : (1 : Int) * 2 ^ ((i : Int)).toNat = ((2 ^ i : Nat) : Int) := by simp
          show some (HO.lst (_ ++ [V.int (1 * 2 ^ ((i : Int)).toNat)])) = _
          rw [e3]
          rfl
      · refine ite2 (fun z => absurd (by simpa using z) hm) (fun _ => ⟨s2, ?_⟩)
        rw [bits_succ, if_neg (by simpa using hm)]
        exact e2
    · rintro H2 ⟨s2, e2⟩
      refine ⟨D, ((List.range 31).filter fun k => decide (k ∈ bits n)).map fun k => ((2 ^ k : Nat) : Int), rfl, SqL.of (by rw [List.map_map]; exact e2), ?_⟩
      rw [filter_bits_mem n 31 (Nat.le_refl _), sum_bits, Nat.mod_eq_of_lt (show n < 2 ^ 31 from hn)]
      refine ⟨_, rfl, p, C, dx, [], rfl, s2 _ _ hp, T.cl, T.nN, (by decide), ?_⟩
      refine q _ (fun b o e => ?_) upd_same
      have nb : b ≠ p := fun z => by rw [z, p0] at e; cases e
      rw [upd_ne nb]
      exact s2 _ _ (s0 _ _ e)
end
end Toy
set_option Elab.async false
set_option linter.all false
set_option maxRecDepth 100000
set_option maxHeartbeats 2000000
namespace Vx
open PySem PySem.Spec PyProof.Rows L2
theorem pe_fldK {X : Cx} {K : PySem.W.Frag} {e : Expr} {f : Str} {ta : TE} {pos : Pos} (hK : X.K = K) (he : PE X e ta) (hb : attributeBase e f X.env (eval e X.env) = eval e X.env) : PE X (.Attribute e f pos) (tFld K ta f) := hK ▸ pe_fld he hb
theorem op_inK {X : Cx} {K : PySem.W.Frag} (hK : X.K = K) : OpR X (compareOp .In) (rIn K false) := hK ▸ op_in_seq
theorem op_notInK {X : Cx} {K : PySem.W.Frag} (hK : X.K = K) : OpR X (compareOp .NotIn) (rIn K true) := hK ▸ op_notIn_seq
def tTru (K : PySem.W.Frag) (ta : TE) : TT := fun σ H Q => ta σ H fun x H' => ∃ k, TruV K x H' k ∧ Q k H'
theorem pt_truthK {X : Cx} {K : PySem.W.Frag} {a : Expr} {ta : TE} (hK : X.K = K) (ha : PE X a ta) (he : ∀ whole, isTrue a X.env whole = (do let v ← whole; standAt a.pos; holding [v] (truthy v))) :
    PT X a (tTru K ta) := hK ▸ pt_truth ha he
end Vx
namespace Toy
open PySem PySem.Spec PyProof.Rows L2
theorem dec_int (a b : Nat) : decide (V.int (a : Int) = V.int (b : Int)) = decide (a = b) := by
  by_cases h : a = b
  · subst h
    rw [decide_eq_true rfl, decide_eq_true rfl]
  · rw [decide_eq_false h, decide_eq_false fun z => h (by injection z with z; omega)]
theorem and_pp (n m : Nat) : Builtin.bitAnd (n : Int) (m : Int) = ((n &&& m : Nat) : Int) := by
  rw [bitAnd_pp (Int.natCast_nonneg _) (Int.natCast_nonneg _), Int.toNat_natCast, Int.toNat_natCast]
theorem or_pp (n m : Nat) : Builtin.bitOr (n : Int) (m : Int) = ((n ||| m : Nat) : Int) := by
  rw [Bits.bitOr_pp (Int.natCast_nonneg _) (Int.natCast_nonneg _), Int.toNat_natCast, Int.toNat_natCast]
theorem two_pow_lt {k : Nat} (h : k ≤ 30) : 2 ^ k < 2147483648 := Nat.lt_of_le_of_lt (Nat.pow_le_pow_right (by decide) h) (by decide)
/-- a list of the numbers for which p holds, by a comprehension -/
theorem acc_len (p : Nat → Bool) {i : Nat} (hi : i < 31) : (((List.range i).filter p).map vi).length < sizeLine := by
  rw [List.length_map]
  exact Nat.lt_of_le_of_lt (Nat.le_trans (List.length_filter_le _ _) (by rw [List.length_range]; exact Nat.le_of_lt hi)) (by decide)
section
variable {P : Program} {w : World} {K : PySem.W.Frag} {mg : Str → Option Value} {base : Heap} {C : Addr}
/-- Moment's __init__, called with the writers -/
def spMk (C : Addr) : Sp := fun vs H Q _ => ∃ (H0 : Hp) (p dx : Addr) (n : Nat), vs = .ref p :: (bits n).map vi ∧ n < 2147483648 ∧ Same H0 H ∧ H0 p = none ∧ H p = some (.ins C dx []) ∧ ∀ H', Same H0 H' → H' p = some (.ins C dx (mo n)) → Q .non H'
theorem ok_init {f fI : Addr} {fdI : FuncData} {oc kV doc pm cdv ct : Value} {od an : Option Addr} {osl : Array (Option Value)} (lk : K.lookup f = some ⟨oc, od, .func (PySem.W.fnOf "__init__" "Moment.__init__" (defArgs s_Moment_init) (defBody s_Moment_init) (defScope s_Moment_init) .none kV doc pm an cdv ct), osl⟩)
    (hcd : PySem.W.codeIn K cdv "Moment.__init__" = true) (T : Txt K mg C) (GI : FnOk P w K mg base CX0 3 fI fdI ["value"] spIsW) (kI : PySem.W.keepIn K (.ref fI) = true) (bI : L2.Binds K fdI ["value"] []) (gI : mg "is_writer_number" = some (.ref fI)) :
    FnR P w K mg base CX0 4 f (spMk C) := by
  have z : FnR P w K mg base CX0 4 f _ := StX.fn_star (sp := spInit C) (ps := ["self"]) (pv := "writers") lk hcd sc_Moment_init StX.cxUp_none (StX.bind_star1 (B := fun us => bindArgs (PySem.W.fnOf "__init__" "Moment.__init__" (defArgs s_Moment_init) (defBody s_Moment_init) (defScope s_Moment_init) .none kV doc pm an cdv ct) ⟨us, []⟩) (p1 := "self") (pv := "writers") (fun a => by rfl) (fun a r rs => by rfl)) (fun A outer s H vs Q E hr h => body_init T GI kI bI gI hr h)
  refine z.imp fun vs H Q E h => ?_
  obtain ⟨H0, p, dx, n, rfl, hn, s0, p0, hp, q⟩ := h
  refine ⟨[.ref p], (bits n).map vi, rfl, rfl, ?_, fun t ht => ?_⟩
  · rw [List.length_map]
    exact Nat.le_trans (Nat.le_trans (List.length_filter_le _ _) (by rw [List.length_range]; exact Nat.le_refl _)) (by decide : 31 ≤ sizeLine)
  · have npt : p ≠ t := ne_of_none hp ht
    exact ⟨H0, p, dx, t, n, rfl, hn, s0.trans (same_upd ht), p0, by rw [upd_ne npt]; exact hp, upd_same, q⟩
/-! ### of -/
def spOf (C : Addr) : Sp := fun vs H Q _ => ∃ n : Nat, vs = [vi n] ∧ n < 2147483648 ∧ ∀ H' p, Same H H' → H p = none → MoAt C H' p n → Q (.ref p) H'
theorem ok_of {f fB fM : Addr} {fd fdB : FuncData} (F : Fun K "of" "Moment.of" s_Moment_of f fd) (T : Txt K mg C) (GB : FnOk P w K mg base CX0 2 fB fdB ["value", "low", "high"] spBetw) (kB : PySem.W.keepIn K (.ref fB) = true)
    (bB : L2.Binds K fdB ["value", "low", "high"] []) (gB : mg "is_between" = some (.ref fB)) (M : Mk K C fM) (GM : FnR P w K mg base CX0 4 fM (spMk C)) : FnOk P w K mg base CX0 6 f fd ["number"] (spOf C) := by
  obtain ⟨tl, ln⟩ := T.ln
  obtain ⟨tw, lw⟩ := T.lw
  refine F.ok sc_Moment_of (fun vs H Q E h => ?_) (fun cdv A outer s H vs Q E hr h => ?_)
  · obtain ⟨i, rfl, _⟩ := h
    rfl
  · obtain ⟨n, rfl, hn, q⟩ := h
    have hr2 : Room 2 _ := hr.mono (by decide)
    refine ⟨_, pss_cons (ps_if (pt_not (pt_val (pe_call GB hr2 (by rfl) gB kB bB .nil pass0 (pa_cons (pv 0) (pa_cons pe_int (pa_cons (pe_glob (v := .int 2147483647) (by rfl) ln ⟨_, rfl⟩) pa_nil)))))) (pss_one ps_never) pss_nil)
      (pss_cons (ps_setLc (i := 1) (own := [("k", 2)]) (g := gName 2) rfl sc_Moment_of.nd rfl rfl (sw_true rfl rfl rfl (by decide +kernel)) (pi_range1 (by rfl) T.range (pa_cons (pe_op op_add (pe_glob (v := .int 30) (by rfl) lw ⟨_, rfl⟩) pe_int) pa_nil))
        (blkOk_by (own := [("k", 2)]) (N := ["number", "writers", "k"]) (sc := defScope s_Moment_of) (by decide +kernel)) (fun _ _ _ _ _ => pg_name (i := 2) sc_Moment_of.nd rfl (Or.inl rfl))
        (fun _ _ _ _ _ => pts_one (Vx.pt_truthK (K := K) rfl (pe_op op_and (pe_op op_shr (pv 0) (pv 2)) pe_int) (by intro _; rfl))) (fun _ _ _ _ _ => pv 2))
      (pss_one (ps_ret (Vx.pe_makeS M GM hr (by rfl) T.mgC pass0 (pv 1))))), ?_⟩
    refine ⟨_, rfl, (n : Int), 0, 2147483647, rfl, _, rfl, ?_⟩
    have e : decide ((0 : Int) ≤ (n : Int) ∧ (n : Int) ≤ 2147483647) = true := decide_eq_true ⟨by omega, by omega⟩
    rw [e]
    refine iteF ⟨30, 1, rfl, rfl, 31, rfl, by decide, by decide, fun D hD => ?_⟩
    refine lc_range (lo := 0) (n := 31) (fun i H2 => Same H H2 ∧ H2 D = some (.lst (((List.range i).filter fun k => n.testBit k).map vi))) ⟨same_upd hD, upd_same⟩ ?_ ?_
    · rintro i H2 hi ⟨s2, e2⟩
      refine ⟨rfl, vi n, rfl, .int (0 + (i : Int)), rfl, (n : Int), _, rfl, rfl, by omega, _, _, rfl, rfl, (Builtin.bitAnd ((n : Int) / 2 ^ (0 + (i : Int)).toNat) 1 != 0), rfl, ?_⟩
      have ei : (0 + (i : Int)).toNat = i := by omega
      rw [ei, bit_test]
      by_cases hm : n.testBit i = true
      · refine ite2 (fun _ => ?_) (fun z => absurd hm z)
        refine ⟨.int (0 + (i : Int)), rfl, _, e2, acc_len _ hi, fun b o e => ?_, ?_⟩
        · rw [upd_ne (ne_of_none e hD)]
          exact s2 _ _ e
        · rw [upd_same, bits_succ, if_pos hm, List.map_append, Int.zero_add]
          rfl
      · refine ite2 (fun z => absurd z hm) (fun _ => ?_)
        refine ⟨s2, ?_⟩
        rw [bits_succ, if_neg hm]
        exact e2
    · rintro H2 ⟨s2, e2⟩
      refine ⟨.ref D, rfl, D, (bits n).map vi, rfl, .inr (SqL.of e2), fun x dx nx ndx ne => ?_⟩
      refine ⟨H2, x, dx, n, rfl, hn, fun b o e => ?_, nx, upd_same, fun H3 s3 e3 => ⟨rfl, ?_⟩⟩
      · rw [upd_ne (ne_of_none e nx), upd_ne (ne_of_none e ndx)]
        exact e
      · refine q H3 x (s2.trans s3) (s2.free nx) ⟨hn, dx, e3⟩
/-! ### writers -/
def spWri (C : Addr) : Sp := fun vs H Q _ => ∃ (p : Addr) (n : Nat), vs = [.ref p] ∧ MoAt C H p n ∧ ∀ H' l, Same H H' → H l = none → H' l = some (.lst ((bits n).map vi)) → Q (.ref l) H'
theorem ok_writers {f : Addr} {fd : FuncData} (F : Fun K "writers" "Moment.writers" s_Moment_writers f fd) (T : Txt K mg C) : FnOk P w K mg base CX0 1 f fd ["self"] (spWri C) := by
  obtain ⟨tw, lw⟩ := T.lw
  refine F.ok sc_Moment_writers (fun vs H Q E h => ?_) (fun cdv A outer s H vs Q E hr h => ?_)
  · obtain ⟨p, n, rfl, _⟩ := h
    rfl
  · obtain ⟨p, n, rfl, ⟨hn, dx, hp⟩, q⟩ := h
    refine ⟨_, pss_one (ps_ret (pe_lc (own := [("k", 1)]) (g := gName 1) rfl sc_Moment_writers.nd (pi_range1 (by rfl) T.range (pa_cons (pe_op op_add (pe_glob (v := .int 30) (by rfl) lw ⟨_, rfl⟩) pe_int) pa_nil))
        (blkOk_by (own := [("k", 1)]) (N := ["self", "k"]) (sc := defScope s_Moment_writers) (by decide +kernel)) (fun _ _ _ _ _ => pg_name (i := 1) sc_Moment_writers.nd rfl (Or.inl rfl))
        (fun _ _ _ _ _ => pts_one (Vx.pt_truthK (K := K) rfl (pe_op op_and (pe_op op_shr (Vx.pe_fldK (K := K) rfl (pv 0) rfl) (pv 1)) pe_int) (by intro _; rfl))) (fun _ _ _ _ _ => pv 1))), ?_⟩
    refine ⟨30, 1, rfl, rfl, 31, rfl, by decide, by decide, fun D hD => ?_⟩
    refine lc_range (lo := 0) (n := 31) (fun i H2 => Same H H2 ∧ H2 D = some (.lst (((List.range i).filter fun k => n.testBit k).map vi))) ⟨same_upd hD, upd_same⟩ ?_ ?_
    · rintro i H2 hi ⟨s2, e2⟩
      refine ⟨rfl, .ref p, rfl, p, C, dx, _, _, rfl, s2 _ _ hp, T.cl, T.nN, rfl, .int (0 + (i : Int)), rfl, (n : Int), _, rfl, rfl, by omega, _, _, rfl, rfl, (Builtin.bitAnd ((n : Int) / 2 ^ (0 + (i : Int)).toNat) 1 != 0), rfl, ?_⟩
      have ei : (0 + (i : Int)).toNat = i := by omega
      rw [ei, bit_test]
      by_cases hm : n.testBit i = true
      · refine ite2 (fun _ => ?_) (fun z => absurd hm z)
        refine ⟨.int (0 + (i : Int)), rfl, _, e2, acc_len _ hi, fun b o e => ?_, ?_⟩
        · rw [upd_ne (ne_of_none e hD)]
          exact s2 _ _ e
        · rw [upd_same, bits_succ, if_pos hm, List.map_append, Int.zero_add]
          rfl
      · refine ite2 (fun z => absurd z hm) (fun _ => ?_)
        refine ⟨s2, ?_⟩
        rw [bits_succ, if_neg hm]
        exact e2
    · rintro H2 ⟨s2, e2⟩
      exact q H2 D s2 hD e2
end
end Toy
set_option Elab.async false
set_option linter.all false
set_option maxRecDepth 100000
set_option maxHeartbeats 2000000
namespace Toy
open PySem PySem.Spec PyProof.Rows L2
/-- the operators' text -/
structure Ops (K : PySem.W.Frag) (mg : Str → Option Value) (C fN fO pO mcG : Addr) (mc : Value) : Prop where
  gN : mg "_number_of" = some (.ref fN)
  kN : PySem.W.keepIn K (.ref fN) = true
  rd : ClX.CRead K C mc
  sm : Vx.SMet K C mc "of" pO fO
section
variable {P : Program} {w : World} {K : PySem.W.Frag} {mg : Str → Option Value} {base : Heap} {C : Addr}
/-! ### a | b, a & b -/
def spBin (C : Addr) (g : Nat → Nat → Nat) : Sp := fun vs H Q _ => ∃ (p : Addr) (n m : Nat) (y : V), vs = [.ref p, y] ∧ MoAt C H p n ∧ Arg C H y m ∧ ∀ H' q, Same H H' → H q = none → MoAt C H' q (g n m) → Q (.ref q) H'
theorem ok_or {f fN fO pO x : Addr} {mc : Value} {fd fdN : FuncData} (F : Fun K "__or__" "Moment.__or__" s_Moment_or f fd) (T : Txt K mg C) (O : Ops K mg C fN fO pO x mc) (GN : FnOk P w K mg base CX0 4 fN fdN ["value"] (spNum C)) (bN : L2.Binds K fdN ["value"] [])
    (GO : FnR P w K mg base CX0 6 fO (spOf C)) : FnOk P w K mg base CX0 7 f fd ["self", "other"] (spBin C fun n m => n ||| m) := by
  refine F.ok sc_Moment_or (fun vs H Q E h => ?_) (fun cdv A outer s H vs Q E hr h => ?_)
  · obtain ⟨p, n, m, y, rfl, _⟩ := h
    rfl
  · obtain ⟨p, n, m, y, rfl, hp, ha, q⟩ := h
    have hr4 : Room 4 _ := hr.mono (by decide)
    refine ⟨_, pss_cons (ps_set (i := 2) sc_Moment_or.nd rfl (Or.inl rfl) (pe_call GN hr4 (by rfl) O.gN O.kN bN .nil pass0 (pa_cons (pv 1) pa_nil)))
      (pss_cons (ps_if (pt_cmpR op_isN (pv 2) pe_non (nomark _)) (pss_one ps_never) pss_nil)
      (pss_one (ps_ret (Vx.pe_smeth (pe_glob (v := .ref C) (by rfl) T.mgC rfl) O.rd O.sm GO hr pass0 (pa_cons (pe_op op_or (pe_fld (pv 0) rfl) (pv 2)) pa_nil))))), ?_⟩
    refine ⟨_, rfl, y, m, rfl, ha, ?_⟩
    refine ⟨_, rfl, rfl, _, rfl, iteF ?_⟩
    obtain ⟨hn, dx, hp'⟩ := id hp
    refine ⟨rfl, _, rfl, p, C, dx, _, _, rfl, hp', T.cl, T.nN, rfl, _, rfl, (n : Int), (m : Int), rfl, rfl, n ||| m, ?_, Nat.or_lt_two_pow (n := 31) hn ha.1, fun H' r s' hr' hm' => q H' r s' hr' hm'⟩
    show [V.int (Builtin.bitOr (n : Int) (m : Int))] = [vi (n ||| m)]
    rw [or_pp]
    rfl
theorem ok_and {f fN fO pO x : Addr} {mc : Value} {fd fdN : FuncData} (F : Fun K "__and__" "Moment.__and__" s_Moment_and f fd) (T : Txt K mg C) (O : Ops K mg C fN fO pO x mc) (GN : FnOk P w K mg base CX0 4 fN fdN ["value"] (spNum C)) (bN : L2.Binds K fdN ["value"] [])
    (GO : FnR P w K mg base CX0 6 fO (spOf C)) : FnOk P w K mg base CX0 7 f fd ["self", "other"] (spBin C fun n m => n &&& m) := by
  refine F.ok sc_Moment_and (fun vs H Q E h => ?_) (fun cdv A outer s H vs Q E hr h => ?_)
  · obtain ⟨p, n, m, y, rfl, _⟩ := h
    rfl
  · obtain ⟨p, n, m, y, rfl, hp, ha, q⟩ := h
    have hr4 : Room 4 _ := hr.mono (by decide)
    refine ⟨_, pss_cons (ps_set (i := 2) sc_Moment_and.nd rfl (Or.inl rfl) (pe_call GN hr4 (by rfl) O.gN O.kN bN .nil pass0 (pa_cons (pv 1) pa_nil)))
      (pss_cons (ps_if (pt_cmpR op_isN (pv 2) pe_non (nomark _)) (pss_one ps_never) pss_nil)
      (pss_one (ps_ret (Vx.pe_smeth (pe_glob (v := .ref C) (by rfl) T.mgC rfl) O.rd O.sm GO hr pass0 (pa_cons (pe_op op_and (pe_fld (pv 0) rfl) (pv 2)) pa_nil))))), ?_⟩
    refine ⟨_, rfl, y, m, rfl, ha, ?_⟩
    refine ⟨_, rfl, rfl, _, rfl, iteF ?_⟩
    obtain ⟨hn, dx, hp'⟩ := id hp
    refine ⟨rfl, _, rfl, p, C, dx, _, _, rfl, hp', T.cl, T.nN, rfl, _, rfl, (n : Int), (m : Int), rfl, rfl, n &&& m, ?_, Nat.lt_of_le_of_lt Nat.and_le_left hn, fun H' r s' hr' hm' => q H' r s' hr' hm'⟩
    show [V.int (Builtin.bitAnd (n : Int) (m : Int))] = [vi (n &&& m)]
    rw [and_pp]
    rfl
/-! ### comparisons -/
def spCmp (C : Addr) (g : Nat → Nat → Bool) : Sp := fun vs H Q _ => ∃ (p r : Addr) (n m : Nat), vs = [.ref p, .ref r] ∧ MoAt C H p n ∧ MoAt C H r m ∧ Q (.bl (g n m)) H
def gLe (n m : Nat) : Bool := decide (n &&& m = n)
def gGe (n m : Nat) : Bool := decide (n &&& m = m)
def gLt (n m : Nat) : Bool := decide (n &&& m = n) && decide (n ≠ m)
def gGt (n m : Nat) : Bool := decide (n &&& m = m) && decide (n ≠ m)
def gEq (n m : Nat) : Bool := decide (n = m)
theorem isi_mo {p : Addr} {n : Nat} {H : Hp} (T : Txt K mg C) (h : MoAt C H p n) : TyX K H (.ref p) (.ref C) := by
  obtain ⟨_, dx, e⟩ := h
  exact .base (.ins e T.cl T.cC T.cG T.cT T.cM)
theorem ok_le {f : Addr} {fd : FuncData} (F : Fun K "__le__" "Moment.__le__" s_Moment_le f fd) (T : Txt K mg C) : FnOk P w K mg base CX0 1 f fd ["self", "other"] (spCmp C gLe) := by
  refine F.ok sc_Moment_le (fun vs H Q E h => ?_) (fun cdv A outer s H vs Q E hr h => ?_)
  · obtain ⟨p, r, n, m, rfl, _⟩ := h
    rfl
  · obtain ⟨p, r, n, m, rfl, hp, hm, q⟩ := h
    refine ⟨_, pss_cons (ps_if (pt_not (pt_val (pe_callB call_isi (by rfl) T.isi (by decide +kernel) (pa_cons (pv 1) (pa_cons (pe_glob (v := .ref C) (by rfl) T.mgC rfl) pa_nil))))) (pss_one ps_never) pss_nil)
      (pss_one (ps_ret (pe_cmpR op_eq (pe_op op_and (pe_fld (pv 0) rfl) (pe_fld (pv 1) rfl)) (pe_fld (pv 0) rfl) (nomark _)))), ?_⟩
    refine ⟨_, rfl, .ref r, .ref C, .ref C, .ref C, true, rfl, .own C, isi_mo T hm, T.kCC, true, rfl, iteF ?_⟩
    obtain ⟨_, dx, hp'⟩ := hp
    obtain ⟨_, dy, hm'⟩ := hm
    refine ⟨_, rfl, p, C, dx, _, _, rfl, hp', T.cl, T.nN, rfl, _, rfl, r, C, dy, _, _, rfl, hm', T.cl, T.nN, rfl, (n : Int), (m : Int), rfl, rfl, _, rfl, p, C, dx, _, _, rfl, hp', T.cl, T.nN, rfl, rfl, ?_⟩
    show Q (V.bl (decide (V.int (Builtin.bitAnd (n : Int) (m : Int)) = V.int (n : Int)))) H
    rw [and_pp, dec_int]
    exact q
theorem ok_ge {f : Addr} {fd : FuncData} (F : Fun K "__ge__" "Moment.__ge__" s_Moment_ge f fd) (T : Txt K mg C) : FnOk P w K mg base CX0 1 f fd ["self", "other"] (spCmp C gGe) := by
  refine F.ok sc_Moment_ge (fun vs H Q E h => ?_) (fun cdv A outer s H vs Q E hr h => ?_)
  · obtain ⟨p, r, n, m, rfl, _⟩ := h
    rfl
  · obtain ⟨p, r, n, m, rfl, hp, hm, q⟩ := h
    refine ⟨_, pss_cons (ps_if (pt_not (pt_val (pe_callB call_isi (by rfl) T.isi (by decide +kernel) (pa_cons (pv 1) (pa_cons (pe_glob (v := .ref C) (by rfl) T.mgC rfl) pa_nil))))) (pss_one ps_never) pss_nil)
      (pss_one (ps_ret (pe_cmpR op_eq (pe_op op_and (pe_fld (pv 0) rfl) (pe_fld (pv 1) rfl)) (pe_fld (pv 1) rfl) (nomark _)))), ?_⟩
    refine ⟨_, rfl, .ref r, .ref C, .ref C, .ref C, true, rfl, .own C, isi_mo T hm, T.kCC, true, rfl, iteF ?_⟩
    obtain ⟨_, dx, hp'⟩ := hp
    obtain ⟨_, dy, hm'⟩ := hm
    refine ⟨_, rfl, p, C, dx, _, _, rfl, hp', T.cl, T.nN, rfl, _, rfl, r, C, dy, _, _, rfl, hm', T.cl, T.nN, rfl, (n : Int), (m : Int), rfl, rfl, _, rfl, r, C, dy, _, _, rfl, hm', T.cl, T.nN, rfl, rfl, ?_⟩
    show Q (V.bl (decide (V.int (Builtin.bitAnd (n : Int) (m : Int)) = V.int (m : Int)))) H
    rw [and_pp, dec_int]
    exact q
/-- what the text says of a comparison's method -/
structure CmpF (K : PySem.W.Frag) (C f : Addr) (op : CmpOp) : Prop where
  nf : PySem.W.notFirst K C (.ref C) = true
  at_ : PySem.W.findIn K (.ref C) (cmpInfo op).2.1 = some (some (.ref f))
  fn : PySem.W.isFn K (.ref f) = true
theorem ok_lt {f fL : Addr} {fd : FuncData} (F : Fun K "__lt__" "Moment.__lt__" s_Moment_lt f fd) (T : Txt K mg C) (L : CmpF K C fL .LtE) (GL : FnR P w K mg base CX0 1 fL (spCmp C gLe)) : FnOk P w K mg base CX0 2 f fd ["self", "other"] (spCmp C gLt) := by
  refine F.ok sc_Moment_lt (fun vs H Q E h => ?_) (fun cdv A outer s H vs Q E hr h => ?_)
  · obtain ⟨p, r, n, m, rfl, _⟩ := h
    rfl
  · obtain ⟨p, r, n, m, rfl, hp, hm, q⟩ := h
    refine ⟨_, pss_cons (ps_if (pt_not (pt_val (pe_callB call_isi (by rfl) T.isi (by decide +kernel) (pa_cons (pv 1) (pa_cons (pe_glob (v := .ref C) (by rfl) T.mgC rfl) pa_nil))))) (pss_one ps_never) pss_nil)
      (pss_one (ps_ret (pe_and (pe_cmpR (Vx.op_cmpOwn (op := .LtE) (fun _ _ => rfl) L.nf L.at_ L.fn GL hr pass0) (pv 0) (pv 1) (nomark _)) (pe_one (pe_cmpR op_ne (pe_fld (pv 0) rfl) (pe_fld (pv 1) rfl) (nomark _)))))), ?_⟩
    refine ⟨_, rfl, .ref r, .ref C, .ref C, .ref C, true, rfl, .own C, isi_mo T hm, T.kCC, true, rfl, iteF ?_⟩
    obtain ⟨_, dx, hp'⟩ := id hp
    obtain ⟨_, dy, hm'⟩ := id hm
    refine ⟨_, rfl, _, rfl, ⟨p, dx, _, rfl, hp'⟩, ⟨r, dy, _, rfl, hm'⟩, p, r, n, m, rfl, hp, hm, gLe n m, rfl, ?_⟩
    by_cases hl : n &&& m = n
    · have e : gLe n m = true := decide_eq_true hl
      rw [e]
      refine iteT ⟨_, rfl, p, C, dx, _, _, rfl, hp', T.cl, T.nN, rfl, _, rfl, r, C, dy, _, _, rfl, hm', T.cl, T.nN, rfl, rfl, ?_⟩
      show Q (V.bl (!decide (V.int (n : Int) = V.int (m : Int)))) H
      rw [dec_int]
      have e2 : gLt n m = !decide (n = m) := by unfold gLt; rw [decide_eq_true hl]; simp
      rw [e2] at q
      exact q
    · have e : gLe n m = false := decide_eq_false hl
      rw [e]
      have e2 : gLt n m = false := by unfold gLt; rw [decide_eq_false hl]; rfl
      rw [e2] at q
      exact iteF q
theorem ok_gt {f fL : Addr} {fd : FuncData} (F : Fun K "__gt__" "Moment.__gt__" s_Moment_gt f fd) (T : Txt K mg C) (L : CmpF K C fL .GtE) (GL : FnR P w K mg base CX0 1 fL (spCmp C gGe)) : FnOk P w K mg base CX0 2 f fd ["self", "other"] (spCmp C gGt) := by
  refine F.ok sc_Moment_gt (fun vs H Q E h => ?_) (fun cdv A outer s H vs Q E hr h => ?_)
  · obtain ⟨p, r, n, m, rfl, _⟩ := h
    rfl
  · obtain ⟨p, r, n, m, rfl, hp, hm, q⟩ := h
    refine ⟨_, pss_cons (ps_if (pt_not (pt_val (pe_callB call_isi (by rfl) T.isi (by decide +kernel) (pa_cons (pv 1) (pa_cons (pe_glob (v := .ref C) (by rfl) T.mgC rfl) pa_nil))))) (pss_one ps_never) pss_nil)
      (pss_one (ps_ret (pe_and (pe_cmpR (Vx.op_cmpOwn (op := .GtE) (fun _ _ => rfl) L.nf L.at_ L.fn GL hr pass0) (pv 0) (pv 1) (nomark _)) (pe_one (pe_cmpR op_ne (pe_fld (pv 0) rfl) (pe_fld (pv 1) rfl) (nomark _)))))), ?_⟩
    refine ⟨_, rfl, .ref r, .ref C, .ref C, .ref C, true, rfl, .own C, isi_mo T hm, T.kCC, true, rfl, iteF ?_⟩
    obtain ⟨_, dx, hp'⟩ := id hp
    obtain ⟨_, dy, hm'⟩ := id hm
    refine ⟨_, rfl, _, rfl, ⟨p, dx, _, rfl, hp'⟩, ⟨r, dy, _, rfl, hm'⟩, p, r, n, m, rfl, hp, hm, gGe n m, rfl, ?_⟩
    by_cases hl : n &&& m = m
    · have e : gGe n m = true := decide_eq_true hl
      rw [e]
      refine iteT ⟨_, rfl, p, C, dx, _, _, rfl, hp', T.cl, T.nN, rfl, _, rfl, r, C, dy, _, _, rfl, hm', T.cl, T.nN, rfl, rfl, ?_⟩
      show Q (V.bl (!decide (V.int (n : Int) = V.int (m : Int)))) H
      rw [dec_int]
      have e2 : gGt n m = !decide (n = m) := by unfold gGt; rw [decide_eq_true hl]; simp
      rw [e2] at q
      exact q
    · have e : gGe n m = false := decide_eq_false hl
      rw [e]
      have e2 : gGt n m = false := by unfold gGt; rw [decide_eq_false hl]; rfl
      rw [e2] at q
      exact iteF q
theorem ok_eq {f : Addr} {fd : FuncData} (F : Fun K "__eq__" "Moment.__eq__" s_Moment_eq f fd) (T : Txt K mg C) : FnOk P w K mg base CX0 1 f fd ["self", "other"] (spCmp C gEq) := by
  refine F.ok sc_Moment_eq (fun vs H Q E h => ?_) (fun cdv A outer s H vs Q E hr h => ?_)
  · obtain ⟨p, r, n, m, rfl, _⟩ := h
    rfl
  · obtain ⟨p, r, n, m, rfl, hp, hm, q⟩ := h
    refine ⟨_, pss_one (ps_ret (pe_and (pe_callB call_isi (by rfl) T.isi (by decide +kernel) (pa_cons (pv 1) (pa_cons (pe_glob (v := .ref C) (by rfl) T.mgC rfl) pa_nil))) (pe_one (pe_cmpR op_eq (pe_fld (pv 0) rfl) (pe_fld (pv 1) rfl) (nomark _))))), ?_⟩
    refine ⟨_, rfl, .ref r, .ref C, .ref C, .ref C, true, rfl, .own C, isi_mo T hm, T.kCC, true, rfl, iteT ?_⟩
    obtain ⟨_, dx, hp'⟩ := hp
    obtain ⟨_, dy, hm'⟩ := hm
    refine ⟨_, rfl, p, C, dx, _, _, rfl, hp', T.cl, T.nN, rfl, _, rfl, r, C, dy, _, _, rfl, hm', T.cl, T.nN, rfl, rfl, ?_⟩
    show Q (V.bl (decide (V.int (n : Int) = V.int (m : Int)))) H
    rw [dec_int]
    exact q
end
end Toy
set_option Elab.async false
set_option linter.all false
set_option maxRecDepth 100000
set_option maxHeartbeats 2000000
namespace Vx
open PySem PySem.Spec PyProof.Rows L2
section
variable {X : Cx} {CX : CXT} {k : Nat} {C f : Addr} {sp : Sp} {E : XK} {pins : List (Addr × Obj)} {σ : L2.St} {H : Hp} {s : Shared} {Q : VK} {A : Around}
/-- a def called somewhere below the running body -/
theorem run_in {us : List Value} {vs : List V} (sb : Sub X k A) (F : FnR X.prog X.w X.K X.mg X.base CX k f sp) (hx : Passes CX X E) (I : L2.Inv X pins σ H s) (r : Vals vs us) (h : sp vs H Q E) :
    codeAny (model X.prog X.w) A (.call (.ref f) ⟨us, []⟩) (fun r s' => match r with | .ok (.ret v) => EP X pins σ Q v s' | .ok _ => False | .error e => X.xe e s') s := by
  have e0 : Env0 X.prog X.w X.K X.mg X.base A X.stack s H := by
    have e := I.env0
    exact ⟨by rw [sb.fr]; exact e.frames, e.mod, e.bs, e.bsz, e.funs, e.frf, e.hok, e.bare⟩
  refine codeAny_mono (F A X.stack s H us vs Q E sb.room e0 r h) fun r s' hq => ?_
  cases r with
  | error e => exact hx pins σ H s e s' I hq
  | ok fl =>
    cases fl with
    | ret u => exact I.after hq
    | next => exact False.elim hq
    | brk => exact False.elim hq
    | cont => exact False.elim hq
end
section
variable {prog : Program} {w : World} {A : Around} {E : Value → Shared → Prop} {s : Shared} {K : PySem.W.Frag} {x C L f : Addr} {h₀ : Heap} {m : Str → Option Value} {ox : Obj} {od : Option Obj} {b : Value}
open PySem.W in
theorem ne_body (hu : A.units < cLine) (X : K.In s.heap) (I : InstAt s.heap x ox C od) (he : findIn K (.ref C) "__eq__" = some (some (.ref f))) (hf : isFn K (.ref f) = true) {Q : Value → Shared → Prop}
    (h : wpAny (model prog w) A (call (.ref f) [.ref x, b]) (fun v s' => ∃ r, v = .bool r ∧ Q (.bool (!r)) s') E s) :
    wpAny (model prog w) A (Builtin.«object.__ne__» ⟨[.ref x, b], []⟩) (fun fin s' => ∃ v, fin = .done (.ret v) ∧ Q v s') E s := by
  unfold Builtin.«object.__ne__»
  obtain ⟨hh, g, d, t, os⟩ := s
  have st : wpAny (model prog w) A (callSpecialIfBound? (.ref x) "__eq__" [b]) (fun r s' => ∃ v, r = some (.bool v) ∧ Q (.bool (!v)) s') E ⟨hh, g, d, t, os⟩ :=
    ifBound_K X I he hf (wpAny_mono h (fun v s' hv => by obtain ⟨r, rfl, q⟩ := hv; exact ⟨r, rfl, q⟩) fun _ _ z => z)
  repeat (first | with_reducible refine wpAny_cRoomFor hu ?_ | with_reducible refine wpAny_bind (wpAny_mono st (fun r s' hr => ?_) fun _ _ z => z) | wp_step)
  obtain ⟨v, rfl, q⟩ := hr
  refine wpAny_bind (wpAny_truthy_bool ?_)
  exact wpAny_pure ⟨_, rfl, q⟩
open PySem.W in
theorem ne_K {Q : Value → Shared → Prop} {tb : Value} (hu : A.units + 1 < cLine) (F : Fr h₀ L s.heap m) (X₀ : K.In h₀) (I : InstAt s.heap x ox C od) (hb : Looks (model prog w) s.heap (typeOf b) tb) (hn : notFirst K C tb = true)
    (hs : findIn K (.ref C) "__ne__" = some (some (.builtin "object.__ne__"))) (he : findIn K (.ref C) "__eq__" = some (some (.ref f))) (hf : isFn K (.ref f) = true) (ho : mroIn K C (.type "object") = some true)
    (h : wpAny (model prog w) A.in1 (call (.ref f) [.ref x, b]) (fun v s' => ∃ r, v = .bool r ∧ Q (.bool (!r)) s') E s) : wpAny (model prog w) A (richCompare .NotEq (.ref x) b) Q E s := by
  have X := X₀.keeps F.keep
  have hu0 : A.units < cLine := Nat.lt_trans (Nat.lt_succ_self _) hu
  have cb : wpAny (model prog w) A (call (.builtin "object.__ne__") ([.ref x] ++ [b])) (fun v s' => ∃ r, v = .bool r ∧ Q v s') E s := by
    refine wpAny_call (codeAny_call_builtin PySem.F.cmp_object.ne.plain PySem.F.cmpEntry_ne (check_slot PySem.F.cmpKind_ne PySem.F.cmpSplit_ne (I.type.andThen (looks_mroIn X ho)) (PySem.F.cmpArgs_ne _ _) ?_))
    have z : wpAny (model prog w) A.in1 (Builtin.«object.__ne__» ⟨[.ref x, b], []⟩) (fun fin s' => ∃ v, fin = .done (.ret v) ∧ ∃ r, v = .bool r ∧ Q v s') E s :=
      ne_body (Q := fun v s' => ∃ r, v = .bool r ∧ Q v s') (A := A.in1) hu X I he hf (wpAny_mono h (fun v s' hv => by obtain ⟨r, rfl, q⟩ := hv; exact ⟨r, rfl, _, rfl, q⟩) fun _ _ z => z)
    refine wpAny_mono z (fun fin s' hv => ?_) fun _ _ y => y
    obtain ⟨v, rfl, r, rfl, q⟩ := hv
    exact ⟨r, rfl, q⟩
  have one : wpAny (model prog w) A (tryCompare (.ref x) "__ne__" b) (fun r s' => ∃ v, r = some v ∧ Q v s') E s := by
    unfold tryCompare
    refine wpAny_bind ?_
    simp only [callSpecialIfBound?, bindSpecialIfBound?]
    refine wpAny_holding (wpAny_bind (wpAny_bind (wpAny_bind (I.type.here ((looks_findIn X hs).here ?_)))))
    simp only [PySem.F.cmp_object.ne.bind]
    refine wpAny_bind (wpAny_askSetting (wpAny_ite ?_))
    have fin : wpAny (model prog w) A (call (.builtin "object.__ne__") ([.ref x] ++ [b]) >>= fun v => pure (some v)) (fun r s' => ∃ v, r = some (.bool v) ∧ Q (.bool v) s') E s :=
      wpAny_bind (wpAny_mono cb (fun v s' h' => by obtain ⟨r, rfl, q⟩ := h'; exact wpAny_pure ⟨r, rfl, q⟩) fun _ _ h' => h')
    have fin2 := wpAny_mono fin (Q' := fun r s' => wpAny (model prog w) A (match r with | some .notImplemented => pure none | none => pure none | some v => pure (some v)) (fun r s' => ∃ v, r = some v ∧ Q v s') E s') (fun r s' h' => by obtain ⟨v, rfl, q⟩ := h'; exact wpAny_pure ⟨_, rfl, q⟩) fun _ _ z => z
    split
    · exact wpAny_bind (wpAny_pure (wpAny_pure fin2))
    · exact wpAny_tryCatch (wpAny_bind (wpAny_pure (wpAny_pure fin2)))
  unfold richCompare
  simp only [oneThing_ref]
  refine wpAny_holding (wpAny_bind (wpAny_cRoomFor hu0 ?_))
  refine wpAny_bind (I.type.here (wpAny_bind (hb.here ?_)))
  split
  · rename_i q
    have e : subIn K tb (.ref C) = some false := by
      rcases Bool.or_eq_true_iff.mp hn with e | e
      · rw [beq_iff_eq.mp e] at q; simp at q
      · exact beq_iff_eq.mp e
    refine wpAny_bind ((looks_subIn X e).here ?_)
    simp only [Bool.false_eq_true, if_false]
    refine wpAny_bind (wpAny_mono one (fun r s' z => ?_) fun _ _ e => e)
    obtain ⟨v, rfl, hq⟩ := z
    exact wpAny_pure hq
  · refine wpAny_bind (wpAny_pure ?_)
    simp only [Bool.false_eq_true, if_false]
    refine wpAny_bind (wpAny_mono one (fun r s' z => ?_) fun _ _ e => e)
    obtain ⟨v, rfl, hq⟩ := z
    exact wpAny_pure hq
end
section
variable {X : Cx} {CX : CXT} {k : Nat} {C f : Addr} {sp : Sp} {E : XK}
/-- o != y: not o == y, by the own == -/
def rNeOwn (C : Addr) (sp : Sp) (E : XK) : R2 := fun x y H Q => (∃ a dx fs, x = .ref a ∧ H a = some (.ins C dx fs)) ∧ (∃ b dy gs, y = .ref b ∧ H b = some (.ins C dy gs)) ∧ sp [x, y] H (fun v H' => ∃ r, v = .bl r ∧ Q (.bl (!r)) H') E
theorem op_neOwn (nf : PySem.W.notFirst X.K C (.ref C) = true) (hs : PySem.W.findIn X.K (.ref C) "__ne__" = some (some (.builtin "object.__ne__"))) (he : PySem.W.findIn X.K (.ref C) "__eq__" = some (some (.ref f))) (fn : PySem.W.isFn X.K (.ref f) = true)
    (ho : PySem.W.mroIn X.K C (.type "object") = some true) (F : FnR X.prog X.w X.K X.mg X.base CX k f sp) (hr : Room (k + 1) X.A) (hx : Passes CX X E) : OpR X (compareOp .NotEq) (rNeOwn C sp E) := by
  intro pins s σ H x y v u Q I rx ry hq
  obtain ⟨⟨a, dx, fs, rfl, ha⟩, ⟨b, dy, gs, rfl, hb⟩, hsp⟩ := hq
  have ev : v = Value.ref a := rx
  have eu : u = Value.ref b := ry
  have sb : Sub X k X.A.in1 := (⟨hr, rfl⟩ : Sub X (k + 1) X.A).in1
  have cl := wpAny_call (run_in (us := [v, u]) (vs := [V.ref a, V.ref b]) sb F hx I (.cons rx (.cons ry .nil)) hsp)
  subst ev eu
  obtain ⟨mA, J, _⟩ := ins_get I.hok ha
  obtain ⟨od, J, _⟩ := J.look
  obtain ⟨mB, J', _⟩ := ins_get I.hok hb
  obtain ⟨od', J', _⟩ := J'.look
  obtain ⟨m, hF⟩ := I.fr
  show wpAny (model X.prog X.w) X.A (richCompare .NotEq (.ref a) (.ref b)) (EP X pins σ Q) X.xe s
  refine ne_K (hu_of hr) hF I.ok.mod.kin J J'.type nf hs he fn ho (wpAny_mono cl (fun v s' hv => ?_) fun _ _ z => z)
  obtain ⟨v', H', I', rv, r, rfl, q⟩ := hv
  exact ⟨r, rv, .bl (!r), H', I', rfl, q⟩
end
end Vx
set_option Elab.async false
set_option linter.all false
set_option maxRecDepth 100000
set_option maxHeartbeats 2000000
namespace Toy
open PySem PySem.Spec PyProof.Rows L2
/-! ### the pot of drawn numbers -/
def Pot (H : Hp) (p c : Addr) : Prop := ∃ (cs : List Int) (at_ : Nat) (x : Int), H p = some (.lst [.ref c, .int at_, .int x]) ∧ H c = some (.lst (cs.map V.int)) ∧ cs.length ≤ 63 ∧ 0 ≤ x ∧ x < 2147483647
theorem Pot.ne {H : Hp} {p c : Addr} (h : Pot H p c) : p ≠ c := by
  obtain ⟨cs, a, x, h1, h2, _⟩ := h
  intro e
  rw [e, h2] at h1
  injection h1 with h1
  injection h1 with h1
  cases cs with
  | nil => cases h1
  | cons y r => injection h1 with z; cases z
theorem Pot.same {H H' : Hp} {p c : Addr} (h : Pot H p c) (s : Same H H') : Pot H' p c := by
  obtain ⟨cs, a, x, h1, h2, r⟩ := h
  exact ⟨cs, a, x, s _ _ h1, s _ _ h2, r⟩
/-- all but the pot stays -/
def Kept (p c : Addr) (H H' : Hp) : Prop := ∀ b o, b ≠ p → b ≠ c → H b = some o → H' b = some o
theorem Kept.rfl' {p c : Addr} {H : Hp} : Kept p c H H := fun _ _ _ _ e => e
theorem Kept.trans {p c : Addr} {H H1 H2 : Hp} (a : Kept p c H H1) (b : Kept p c H1 H2) : Kept p c H H2 := fun x o n m e => b x o n m (a x o n m e)
theorem Kept.of_same {p c : Addr} {H H' : Hp} (s : Same H H') : Kept p c H H' := fun b o _ _ e => s b o e
theorem ixN_nat {n k : Nat} (h : k < n) : ixN n (k : Int) = some k := by
  unfold ixN
  rw [if_pos (Int.natCast_nonneg _), if_pos (by omega), Int.toNat_natCast]
theorem cut63 {xs : List V} (h : xs.length ≤ 63) : cutV xs none (some 63) = xs := by
  unfold cutV
  rw [HT.sIx_none, show HT.sIx xs.length xs.length (some 63) = min 63 xs.length from HT.sIx_nat xs.length xs.length 63, List.drop_zero, Nat.sub_zero]
  exact List.take_of_length_le (by omega)
section
variable {P : Program} {w : World} {K : PySem.W.Frag} {mg : Str → Option Value} {base : Heap} {C : Addr}
def spPot (K : PySem.W.Frag) : Sp := fun vs H Q _ => ∃ (a : Addr) (ns : List Int), vs = [.ref a] ∧ SqL K H a (ns.map V.int) ∧ ns.length ≤ 63 ∧ ∀ H' p c, Same H H' → H p = none → H c = none → Pot H' p c → Q (.ref p) H'
theorem ok_pot {f : Addr} {fd : FuncData} (F : Fun K "_law_pot" "_law_pot" s_law_pot f fd) (mi : mg "int" = none) : FnOk P w K mg base CX0 1 f fd ["script"] (spPot K) := by
  refine F.ok sc_law_pot (fun vs H Q E h => ?_) (fun cdv A outer s H vs Q E hr h => ?_)
  · obtain ⟨a, ns, rfl, _⟩ := h
    rfl
  · obtain ⟨a, ns, rfl, hS, hn, q⟩ := h
    refine ⟨_, pss_one (ps_ret (pe_lst (pa_cons (pe_lc (own := [("cell", 1)]) (g := gName 1) (tt := tYes) rfl sc_law_pot.nd (pi_list (pe_slice sl_list (pv 0) po_none (po_some pe_int)))
        (blkOk_by (own := [("cell", 1)]) (N := ["script", "cell"]) (sc := defScope s_law_pot) (by decide +kernel)) (fun _ _ _ _ _ => pg_name (i := 1) sc_law_pot.nd rfl (Or.inl rfl))
        (fun _ _ _ _ _ => pts_nil) (fun _ _ _ _ _ => pe_callTy call_int1 (by rfl) mi (by decide +kernel) (pa_cons (pv 1) pa_nil))) (pa_cons pe_int (pa_cons pe_int pa_nil))))), ?_⟩
    refine ⟨.ref a, rfl, 63, rfl, a, _, rfl, hS, fun b nb => ?_⟩
    rw [cut63 (by rw [List.length_map]; exact hn)]
    refine ⟨b, rfl, ⟨_, SqL.of upd_same⟩, fun D hD => ?_⟩
    have hb : (upd H b (.lst (ns.map V.int))) b = some (.lst (ns.map V.int)) := upd_same
    have s1 : Same H (upd H b (.lst (ns.map V.int))) := same_upd nb
    have hD0 : H D = none := s1.free hD
    refine lc_list (K := K) (a := b) (xs := ns.map V.int) (fun i H2 => Same (upd H b (.lst (ns.map V.int))) H2 ∧ H2 D = some (.lst ((ns.take i).map V.int))) ⟨same_upd hD, upd_same⟩ (fun i H2 _ z => SqL.of (z.1 _ _ hb)) ?_ ?_
    · rintro i x H2 hx ⟨s2, e2⟩
      obtain ⟨n, hi, rfl⟩ : ∃ n, ns[i]? = some n ∧ x = V.int n := by
        rw [List.getElem?_map] at hx
        cases e : ns[i]? with
        | none => rw [e] at hx; cases hx
        | some n => rw [e] at hx; exact ⟨n, rfl, (Option.some.inj hx).symm⟩
      refine ⟨rfl, ?_⟩
      refine ⟨_, rfl, .inl ⟨n, rfl, _, e2, ?_, fun d o e => ?_, ?_⟩⟩
      · rw [List.length_map, List.length_take]
        exact Nat.lt_of_le_of_lt (Nat.le_trans (Nat.min_le_right _ _) hn) (by decide)
      · rw [upd_ne (ne_of_none e hD)]
        exact s2 _ _ e
      · rw [upd_same, List.take_add_one, hi, List.map_append]
        rfl
    · rintro H2 ⟨s2, e2⟩
      rw [List.length_map, List.take_length] at e2
      refine ⟨(by show 3 ≤ sizeLine; decide), fun p np => ?_⟩
      have s3 : Same H (upd H2 p (.lst [.ref D, .int 0, .int 7])) := s1.trans (s2.trans (same_upd np))
      have hDp : D ≠ p := ne_of_none e2 np
      refine q _ p D s3 ((s1.trans s2).free np) hD0 ⟨ns, 0, 7, upd_same, by rw [upd_ne hDp]; exact e2, hn, by decide, by decide⟩
/-! ### a draw -/
def spDraw : Sp := fun vs H Q _ => ∃ (p c : Addr) (m : Int), vs = [.ref p, .int m] ∧ Pot H p c ∧ 0 < m ∧ m ≤ 2147483648 ∧ ∀ H' r, Pot H' p c → Kept p c H H' → 0 ≤ r → r < m → Q (.int r) H'
theorem fmod_lt {a m : Int} (h : 0 < m) : 0 ≤ a.fmod m ∧ a.fmod m < m := by
  rw [Int.fmod_eq_emod_of_nonneg _ (Int.le_of_lt h)]
  exact ⟨Int.emod_nonneg _ (by omega), Int.emod_lt_of_pos _ h⟩
def nxt (x cell : Int) : Int := (x * 48271 + cell * 69621 + 11).fmod 2147483647
theorem ok_draw {f : Addr} {fd : FuncData} (F : Fun K "_law_draw" "_law_draw" s_law_draw f fd) (mi : mg "int" = none) (ml : mg "len" = none) : FnOk P w K mg base CX0 1 f fd ["pot", "many"] spDraw := by
  refine F.ok sc_law_draw (fun vs H Q E h => ?_) (fun cdv A outer s H vs Q E hr h => ?_)
  · obtain ⟨p, c, m, rfl, _⟩ := h
    rfl
  · obtain ⟨p, c, m, rfl, hP, hm, hm2, q⟩ := h
    refine ⟨_, pss_cons (ps_set (i := 2) sc_law_draw.nd rfl (Or.inl rfl) (pe_ix ix_list (pv 0) pe_int (fun _ _ => rfl)))
      (pss_cons (ps_set (i := 3) sc_law_draw.nd rfl (Or.inl rfl) (pe_ix ix_list (pv 0) pe_int (fun _ _ => rfl)))
      (pss_cons (ps_set (i := 4) sc_law_draw.nd rfl (Or.inl rfl) pe_int)
      (C8.pss_cut (ps_if (pt_cmpR op_lt (pv 3) (pe_callB call_len_seq (by rfl) ml PySem.boot_len (pa_cons (pv 2) pa_nil)) (nomark _))
        (pss_cons (ps_set (i := 4) sc_law_draw.nd rfl (Or.inl rfl) (pe_ix ix_list (pv 2) (pv 3) (fun _ _ => rfl)))
        (pss_cons (ps_if (pt_cmpR op_ge (pv 4) (pe_op op_pow pe_int pe_int) (nomark _))
          (pss_cons (ps_asg (pe_op op_fdivW (pv 4) (pv 1)) (pg_sub (pv 2) (pv 3) set_list))
          (pss_one (ps_ret (pe_op op_modN (pe_callTy call_int1 (by rfl) mi (by decide +kernel) (pa_cons (pv 4) pa_nil)) (pv 1))))) pss_nil)
        (pss_one (ps_asg (pe_op op_add (pv 3) pe_int) (pg_sub (pv 0) pe_int set_list))))) pss_nil)
      (pss_cons (ps_asg (pe_op op_modN (pe_callTy call_int1 (by rfl) mi (by decide +kernel) (pa_cons (pe_op op_add (pe_op op_add (pe_op op_mul (pe_ix ix_list (pv 0) pe_int (fun _ _ => rfl)) pe_int) (pe_op op_mul (pv 4) pe_int)) pe_int) pa_nil)) pe_int) (pg_sub (pv 0) pe_int set_list))
      (pss_one (ps_ret (pe_op op_modN (pe_callTy call_int1 (by rfl) mi (by decide +kernel) (pa_cons (pe_op op_add (pe_op op_fdivN (pe_op op_mul (pe_ix ix_list (pv 0) pe_int (fun _ _ => rfl)) pe_int) pe_int) (pe_ix ix_list (pv 0) pe_int (fun _ _ => rfl))) pa_nil)) (pv 1)))))))), ?_⟩
    have pc : p ≠ c := hP.ne
    obtain ⟨cs, at_, x, h1, h2, hl, x0, x1⟩ := hP
    refine ⟨_, rfl, p, _, _, _, rfl, rfl, SqL.of h1, rfl, ?_⟩
    refine ⟨_, rfl, p, _, _, _, rfl, rfl, SqL.of h1, rfl, ?_⟩
    refine ⟨fun σ' H' => ∃ (a : Nat) (cell : Int), σ' = [some (.ref p), some (.int m), some (.ref c), some (.int at_), some (.int cell)] ∧ H' p = some (.lst [.ref c, .int a, .int x]) ∧ H' c = some (.lst (cs.map V.int)) ∧ Kept p c H H', ?_, ?_⟩
    · refine ⟨_, rfl, _, rfl, c, _, rfl, .inl (SqL.of h2), _, _, rfl, rfl, _, rfl, ?_⟩
      rw [List.length_map]
      refine ite2 (fun hlt => ?_) (fun _ => ⟨at_, 0, rfl, h1, h2, Kept.rfl'⟩)
      have hi : at_ < cs.length := by have := of_decide_eq_true hlt; omega
      have hg : (cs.map V.int)[at_]? = some (.int cs[at_]) := by rw [List.getElem?_map, List.getElem?_eq_getElem hi]; rfl
      refine ⟨_, rfl, _, rfl, c, _, _, _, rfl, rfl, SqL.of h2, atI_nat hg, ?_⟩
      refine ⟨_, rfl, 10, 18, rfl, rfl, ⟨by decide, by decide, by decide⟩, _, _, rfl, rfl, _, rfl, ?_⟩
      refine ite2 (fun _ => ?_) (fun _ => ?_)
      · refine ⟨_, rfl, _, rfl, _, _, rfl, rfl, wide_div (b := 32) hm (by omega) (by decide) (by decide), _, rfl, _, rfl, c, _, _, at_, rfl, rfl, h2, ixN_nat (by rw [List.length_map]; exact hi), ?_⟩
        refine ⟨_, rfl, .inl ⟨_, rfl, _, rfl, _, _, rfl, rfl, by omega, ?_⟩⟩
        have f := fmod_lt (a := cs[at_]) hm
        refine q _ _ ⟨cs.set at_ (cs[at_] / m), at_, x, by rw [upd_ne pc]; exact h1, ?_, by rw [List.length_set]; exact hl, x0, x1⟩ (fun b o n1 n2 e => ?_) f.1 f.2
        · rw [upd_same, List.map_set]
        · rw [upd_ne n2]
          exact e
      · refine ⟨_, rfl, _, _, rfl, rfl, _, rfl, p, _, _, 1, rfl, rfl, h1, rfl, ?_⟩
        refine ⟨at_ + 1, cs[at_], rfl, ?_, by rw [upd_ne pc.symm]; exact h2, fun b o n1 n2 e => ?_⟩
        · rw [upd_same]
          rfl
        · rw [upd_ne n1]
          exact e
    · rintro σ' H1 ⟨a, cell, rfl, g1, g2, kp⟩
      refine ⟨_, rfl, p, _, _, _, rfl, rfl, SqL.of g1, rfl, _, _, rfl, rfl, .inl ⟨by omega, by omega⟩, _, rfl, _, _, rfl, rfl, .inr ⟨by decide, by decide⟩, _, _, rfl, rfl, _, _, rfl, rfl, .inl ⟨_, rfl, _, _, rfl, rfl, (show (2147483647 : Int) ≠ 0 by decide), _, rfl, p, _, _, 2, rfl, rfl, g1, rfl, ?_⟩⟩
      have fy : 0 ≤ nxt x cell ∧ nxt x cell < 2147483647 := fmod_lt (by decide)
      have g3 : (upd H1 p (.lst ([V.ref c, V.int a, V.int x].set 2 (V.int (nxt x cell))))) p = some (.lst [V.ref c, V.int a, V.int (nxt x cell)]) := upd_same
      refine ⟨_, rfl, p, _, _, _, rfl, rfl, SqL.of g3, rfl, _, _, rfl, rfl, .inl ⟨by omega, by omega⟩, _, _, rfl, rfl, ⟨by decide, by decide⟩, _, rfl, p, _, _, _, rfl, rfl, SqL.of g3, rfl, _, _, rfl, rfl, .inl ⟨_, rfl, _, rfl, _, _, rfl, rfl, by omega, ?_⟩⟩
      have f := fmod_lt (a := (nxt x cell * 16807).fdiv 128 + nxt x cell) hm
      refine q _ _ ⟨cs, a, nxt x cell, g3, by rw [upd_ne pc.symm]; exact g2, hl, fy.1, fy.2⟩ (fun b o n1 n2 e => ?_) f.1 f.2
      rw [upd_ne n1]
      exact kp b o n1 n2 e
end
end Toy
set_option Elab.async false
set_option linter.all false
set_option maxRecDepth 100000
set_option maxHeartbeats 2000000
namespace Toy
open PySem PySem.Spec PyProof.Rows L2
/-! ### lists of numbers as data -/
def dk (k : Nat) : PyData := .int k
theorem dpAll_vi {K : PySem.W.Frag} {H : Hp} : ∀ ws : List Nat, DpAll K H (ws.map vi) (ws.map dk)
  | [] => .nil
  | k :: r => .cons (.int _) (dpAll_vi r)
theorem dp_vi {K : PySem.W.Frag} {H : Hp} {a : Addr} {ws : List Nat} (h : H a = some (.lst (ws.map vi))) : Dp K H (.ref a) (.list (ws.map dk)) := .lst (SqL.of h) (dpAll_vi ws)
theorem can_dk : ∀ ws : List Nat, PyData.canLayAll0 (ws.map dk) = true
  | [] => rfl
  | k :: r => by
    rw [List.map_cons]
    show (PyData.canLay0 (.int k) && PyData.canLayAll0 (r.map dk)) = true
    rw [can_dk r]
    rfl
theorem dep_dk : ∀ ws : List Nat, PyData.depthAll (ws.map dk) ≤ 1
  | [] => by decide
  | k :: r => by
    have ih := dep_dk r
    rw [List.map_cons]
    have e : PyData.depthAll (dk k :: r.map dk) = max (PyData.depth (dk k)) (PyData.depthAll (r.map dk)) := rfl
    have e2 : PyData.depth (dk k) ≤ 1 := by first | exact Nat.zero_le _ | exact Nat.le_refl _ | (show (0 : Nat) ≤ 1; decide) | (show (1 : Nat) ≤ 1; decide)
    rw [e]
    omega
theorem shp_dk (ws : List Nat) : SeqAt.shaped (.list (ws.map dk)) = true := by
  have h1 := can_dk ws
  have h2 := dep_dk ws
  unfold SeqAt.shaped
  rw [Bool.and_eq_true]
  refine ⟨h1, decide_eq_true ?_⟩
  have e : PyData.depth (.list (ws.map dk)) = PyData.depthAll (ws.map dk) + 1 := rfl
  omega
theorem eqv_dk : ∀ ws us : List Nat, PyData.eqvAll (ws.map dk) (us.map dk) = decide (ws = us)
  | [], [] => rfl
  | [], _ :: _ => rfl
  | _ :: _, [] => rfl
  | a :: r, b :: t => by
    show ((((a : Nat) : Int) == ((b : Nat) : Int)) && PyData.eqvAll (r.map dk) (t.map dk)) = _
    rw [eqv_dk r t]
    by_cases h : a = b
    · subst h
      simp
    · have h1 : (((a : Nat) : Int) == ((b : Nat) : Int)) = false := by simp; omega
      rw [h1]
      simp [h]
/-! ### the numbers of lists -/
def num (ws : List Nat) (z : Nat) : Nat := ws.foldl (fun a w => a ||| 2 ^ w) z
theorem num_bit : ∀ (ws : List Nat) (z k : Nat), (num ws z).testBit k = (z.testBit k || decide (k ∈ ws))
  | [], z, k => by simp [num]
  | w :: r, z, k => by
    show (num r (z ||| 2 ^ w)).testBit k = _
    rw [num_bit r, Nat.testBit_or, Nat.testBit_two_pow]
    by_cases h : w = k
    · subst h
      simp
    · have h2 : k ≠ w := fun e => h e.symm
      simp [h, h2]
theorem num_lt : ∀ (ws : List Nat) (z : Nat), (∀ w ∈ ws, w < 31) → z < 2147483648 → num ws z < 2147483648
  | [], _, _, hz => hz
  | w :: r, z, h, hz => num_lt r (z ||| 2 ^ w) (fun v hv => h v (List.mem_cons_of_mem _ hv)) (Nat.or_lt_two_pow (n := 31) hz (two_pow_lt (by have := h w (List.mem_cons_self); omega)))
theorem num_bits {n : Nat} (h : n < 2147483648) : num (bits n) 0 = n := by
  apply Nat.eq_of_testBit_eq
  intro k
  rw [num_bit, Nat.zero_testBit, Bool.false_or]
  by_cases hk : k < 31
  · by_cases hb : n.testBit k = true
    · rw [hb]
      exact decide_eq_true (mem_bits.mpr ⟨hk, hb⟩)
    · have hb' : n.testBit k = false := by simpa using hb
      rw [hb']
      exact decide_eq_false fun z => hb (mem_bits.mp z).2
  · rw [decide_eq_false fun z => hk (mem_bits.mp z).1]
    exact (Nat.testBit_lt_two_pow (Nat.lt_of_lt_of_le h (Nat.pow_le_pow_right (n := 2) (by decide) (show 31 ≤ k by omega)))).symm
theorem bits_num {ws : List Nat} (h : ∀ w ∈ ws, w < 31) : (List.range 31).filter (fun k => decide (k ∈ ws)) = bits (num ws 0) := by
  unfold bits
  apply List.filter_congr
  intro k hk
  rw [num_bit, Nat.zero_testBit, Bool.false_or]
theorem bits_inj {n m : Nat} (hn : n < 2147483648) (hm : m < 2147483648) (h : bits n = bits m) : n = m := by
  rw [← num_bits hn, ← num_bits hm, h]
theorem bits_dec {n m : Nat} (hn : n < 2147483648) (hm : m < 2147483648) : decide (bits n = bits m) = decide (n = m) := by
  by_cases h : n = m
  · subst h
    simp
  · rw [decide_eq_false h, decide_eq_false fun z => h (bits_inj hn hm z)]
theorem inside_dec {n m : Nat} (hn : n < 2147483648) : decide ((bits n).filter (fun k => !decide (k ∈ bits m)) = []) = decide (n &&& m = n) := by
  by_cases h : n &&& m = n
  · rw [decide_eq_true h]
    refine decide_eq_true (List.filter_eq_nil_iff.mpr fun k hk => ?_)
    obtain ⟨h1, h2⟩ := mem_bits.mp hk
    have h3 : m.testBit k = true := by
      have z : (n &&& m).testBit k = true := by rw [h]; exact h2
      rw [Nat.testBit_and, Bool.and_eq_true] at z
      exact z.2
    simp [mem_bits.mpr ⟨h1, h3⟩]
  · rw [decide_eq_false h]
    refine decide_eq_false fun z => h ?_
    apply Nat.eq_of_testBit_eq
    intro k
    rw [Nat.testBit_and]
    by_cases hb : n.testBit k = true
    · have hk : k < 31 := by
        rcases Nat.lt_or_ge k 31 with y | y
        · exact y
        · rw [Nat.testBit_lt_two_pow (Nat.lt_of_lt_of_le hn (Nat.pow_le_pow_right (n := 2) (by decide) y))] at hb
          cases hb
      have y := List.filter_eq_nil_iff.mp z k (mem_bits.mpr ⟨hk, hb⟩)
      have y2 : k ∈ bits m := by simpa using y
      rw [hb, (mem_bits.mp y2).2]
      rfl
    · have hb' : n.testBit k = false := by simpa using hb
      rw [hb']
      rfl
section
variable {P : Program} {w : World} {K : PySem.W.Frag} {mg : Str → Option Value} {base : Heap} {C : Addr}
/-! ### _law_bits -/
def spBits : Sp := fun vs H Q _ => ∃ n : Nat, vs = [vi n] ∧ n < 2147483648 ∧ ∀ H' l, Same H H' → H l = none → H' l = some (.lst ((bits n).map vi)) → Q (.ref l) H'
theorem bit_div (n i : Nat) : decide (V.int (((n / 2 ^ i : Nat) : Int).fmod 2) = V.int 1) = n.testBit i := by
  have e : ((n / 2 ^ i : Nat) : Int).fmod 2 = ((n / 2 ^ i % 2 : Nat) : Int) := by
    rw [Int.fmod_eq_emod_of_nonneg _ (by decide)]
    rfl
  rw [e, Nat.testBit_eq_decide_div_mod_eq]
  exact dec_int _ 1
theorem ok_bits {f : Addr} {fd : FuncData} (F : Fun K "_law_bits" "_law_bits" s_law_bits f fd) (mi : mg "int" = none) (mr : mg "range" = none) : FnOk P w K mg base CX0 1 f fd ["number"] spBits := by
  refine F.ok sc_law_bits (fun vs H Q E h => ?_) (fun cdv A outer s H vs Q E hr h => ?_)
  · obtain ⟨n, rfl, _⟩ := h
    rfl
  · obtain ⟨n, rfl, hn, q⟩ := h
    refine ⟨_, pss_cons (ps_set (i := 1) sc_law_bits.nd rfl (Or.inl rfl) (pe_lst pa_nil))
      (pss_cons (ps_for PassesOwn.never rfl (pi_range1 (by rfl) mr (pa_cons pe_int pa_nil)) (pg_name (i := 2) sc_law_bits.nd rfl (Or.inl rfl))
        (C8.pss_cut (ps_if (pt_cmpR op_eq (pe_op op_modN (pe_callTy call_int1 (by rfl) mi (by decide +kernel) (pa_cons (pv 0) pa_nil)) pe_int) pe_int (nomark _))
            (pss_one (ps_expr (pe_bm PySem.F.plainAttrs_list PySem.F.slot_list_append PySem.F.type_list_append mt_append (pv 1) (pa_cons (pv 2) pa_nil)))) pss_nil)
          (pss_one (ps_set (i := 0) sc_law_bits.nd rfl (Or.inl rfl) (pe_op op_fdivN (pv 0) pe_int)))))
      (pss_one (ps_ret (pv 1)))), ?_⟩
    refine ⟨Nat.zero_le _, fun l nl => ?_⟩
    refine ⟨31, rfl, by decide, by decide, for_range (n := 31) (fun i σ H' => ∃ v, σ = [some (vi (n / 2 ^ i)), some (.ref l), v] ∧ Same H H' ∧ H' l = some (.lst (((List.range i).filter fun k => n.testBit k).map vi))) ⟨none, by rw [Nat.pow_zero, Nat.div_one]; rfl, same_upd nl, upd_same⟩ ?_ ?_⟩
    · rintro i σ H' hi ⟨v, rfl, s1, e1⟩
      refine ⟨fun σ' H2 => σ' = [some (vi (n / 2 ^ i)), some (.ref l), some (.int (0 + (i : Int)))] ∧ Same H H2 ∧ H2 l = some (.lst (((List.range (i + 1)).filter fun k => n.testBit k).map vi)), ?_, ?_⟩
      · refine ⟨_, rfl, .inl ⟨_, rfl, _, _, rfl, rfl, (show (2 : Int) ≠ 0 by decide), rfl, _, rfl, ?_⟩⟩
        show if decide (V.int (((n / 2 ^ i : Nat) : Int).fmod 2) = V.int 1) = true then _ else _
        rw [bit_div]
        refine ite2 (fun hb => ?_) (fun hb => ?_)
        · refine ⟨_, rfl, .inl ⟨rfl, _, SqL.of e1⟩, _, rfl, l, _, _, rfl, rfl, e1, acc_len _ hi, rfl, fun b o e => ?_, ?_⟩
          · rw [upd_ne (ne_of_none e nl)]
            exact s1 _ _ e
          · rw [upd_same, bits_succ, if_pos hb, List.map_append, Int.zero_add]
            rfl
        · refine ⟨rfl, s1, ?_⟩
          rw [bits_succ, if_neg hb]
          exact e1
      · rintro σ' H2 ⟨rfl, s2, e2⟩
        refine ⟨_, rfl, _, _, rfl, rfl, ⟨by decide, by decide⟩, some (.int (0 + (i : Int))), ?_, s2, e2⟩
        show [some (V.int (((n / 2 ^ i : Nat) : Int).fdiv 2)), some (V.ref l), some (V.int (0 + (i : Int)))] = _
        have e : ((n / 2 ^ i : Nat) : Int).fdiv 2 = ((n / 2 ^ (i + 1) : Nat) : Int) := by
          rw [Int.fdiv_eq_ediv_of_nonneg _ (by decide), Nat.pow_succ, ← Nat.div_div_eq_div_mul]
          rfl
        rw [e]
        rfl
    · rintro σ H' ⟨v, rfl, s1, e1⟩
      exact ⟨_, rfl, q H' l s1 nl e1⟩
end
end Toy
set_option Elab.async false
set_option linter.all false
set_option maxRecDepth 100000
set_option maxHeartbeats 2000000
namespace Vx
open PySem PySem.Spec PyProof.Rows L2
section
variable {X : Cx} {CX : CXT} {k : Nat} {C f : Addr} {sp : Sp} {E : XK} {x : Str} {p pos : Pos}
theorem pe_makeZ (M : Mk X.K C f) (F : FnR X.prog X.w X.K X.mg X.base CX k f sp) (hr : Room (k + 1) X.A) (hg : Gl X x) (hm : X.mg x = some (.ref C)) (hx : Passes CX X E) (hd : (x == ("__debug__" : Str)) = false := by decide) :
    PE X (.Call (.Name x p) [] [] pos) (tMakeZ C sp E) := by
  refine ⟨fun pins s σ H Q I h => ?_⟩
  refine wpAny_Call_Name_kw (ld_glob I hg hm ?_ hd)
  exact PySem.W.callWith_K0 I.kIn M.kp (StX.run_makeR (us := []) M F hr hx I .nil h)
theorem op_eqDK {X : Cx} {K : PySem.W.Frag} (hK : X.K = K) (hu : X.A.units + 64 < cLine) : OpR X (compareOp .Eq) (rEqD K) := hK ▸ op_eqD hu
end
end Vx
namespace Toy
open PySem PySem.Spec PyProof.Rows L2
theorem filter_take_succ {p : Nat → Bool} {ws : List Nat} {i k : Nat} (h : ws[i]? = some k) : (ws.take (i + 1)).filter p = if p k = true then (ws.take i).filter p ++ [k] else (ws.take i).filter p := by
  rw [List.take_add_one, h, List.filter_append]
  by_cases hp : p k = true
  · rw [if_pos hp, Option.toList_some, List.filter_cons_of_pos hp]
    rfl
  · rw [if_neg hp, Option.toList_some, List.filter_cons_of_neg hp, List.filter_nil, List.append_nil]
theorem get_vi {ws : List Nat} {i : Nat} {x : V} (h : (ws.map vi)[i]? = some x) : ∃ k, ws[i]? = some k ∧ x = vi k := by
  rw [List.getElem?_map] at h
  cases e : ws[i]? with
  | none => rw [e] at h; cases h
  | some k => rw [e] at h; exact ⟨k, rfl, (Option.some.inj h).symm⟩
theorem bits_len (n : Nat) : (bits n).length ≤ 31 := Nat.le_trans (List.length_filter_le _ _) (by rw [List.length_range]; exact Nat.le_refl _)
section
variable {P : Program} {w : World} {K : PySem.W.Frag} {mg : Str → Option Value} {base : Heap} {C : Addr}
/-! ### _law_inside -/
def spIns : Sp := fun vs H Q _ => ∃ (a b : Addr) (n m : Nat), vs = [.ref a, .ref b] ∧ n < 2147483648 ∧ H a = some (.lst ((bits n).map vi)) ∧ H b = some (.lst ((bits m).map vi)) ∧ ∀ H', Same H H' → Q (.bl (gLe n m)) H'
theorem ok_inside {f : Addr} {fd : FuncData} (F : Fun K "_law_inside" "_law_inside" s_law_inside f fd) : FnOk P w K mg base CX0 1 f fd ["a", "b"] spIns := by
  refine F.ok sc_law_inside (fun vs H Q E h => ?_) (fun cdv A outer s H vs Q E hr h => ?_)
  · obtain ⟨a, b, n, m, rfl, _⟩ := h
    rfl
  · obtain ⟨a, b, n, m, rfl, hn, ha, hb, q⟩ := h
    refine ⟨_, pss_one (ps_ret (pe_cmpR (op_eqD hr.units) (pe_lc (own := [("k", 2)]) (g := gName 2) rfl sc_law_inside.nd (pi_list (pv 0))
        (blkOk_by (own := [("k", 2)]) (N := ["a", "b", "k"]) (sc := defScope s_law_inside) (by decide +kernel)) (fun _ _ _ _ _ => pg_name (i := 2) sc_law_inside.nd rfl (Or.inl rfl))
        (fun _ _ _ _ _ => pts_one (pt_cmpR (Vx.op_notInK (K := K) rfl) (pv 2) (pv 1) (by rfl))) (fun _ _ _ _ _ => pv 2)) (pe_lst pa_nil) (nomark _))), ?_⟩
    refine ⟨_, rfl, a, rfl, ⟨_, SqL.of ha⟩, fun D hD => ?_⟩
    refine lc_list (K := K) (a := a) (xs := (bits n).map vi) (fun i H2 => Same H H2 ∧ H2 D = some (.lst ((((bits n).take i).filter fun k => !decide (k ∈ bits m)).map vi))) ⟨same_upd hD, upd_same⟩ (fun i H2 _ z => SqL.of (z.1 _ _ ha)) ?_ ?_
    · rintro i x H2 hx ⟨s2, e2⟩
      obtain ⟨k, hk, rfl⟩ := get_vi hx
      refine ⟨rfl, _, rfl, .ref b, rfl, b, _, rfl, .inl (SqL.of (s2 _ _ hb)), rfl, flat_vi _, _, rfl, ?_⟩
      show if (if true = true then !inV (vi k) ((bits m).map vi) else inV (vi k) ((bits m).map vi)) = true then _ else _
      rw [if_pos rfl, inV_vi]
      refine ite2 (fun hm => ?_) (fun hm => ?_)
      · refine ⟨_, rfl, _, e2, ?_, fun d o e => ?_, ?_⟩
        · rw [List.length_map]
          exact Nat.lt_of_le_of_lt (Nat.le_trans (List.length_filter_le _ _) (Nat.le_trans (by rw [List.length_take]; exact Nat.min_le_right _ _) (bits_len n))) (by decide)
        · rw [upd_ne (ne_of_none e hD)]
          exact s2 _ _ e
        · rw [upd_same, filter_take_succ hk, if_pos hm, List.map_append]
          rfl
      · refine ⟨s2, ?_⟩
        rw [filter_take_succ hk, if_neg hm]
        exact e2
    · rintro H2 ⟨s2, e2⟩
      rw [List.length_map, List.take_length] at e2
      refine ⟨Nat.zero_le _, fun l nl => ?_⟩
      have hDl : D ≠ l := ne_of_none e2 nl
      have e3 : (upd H2 l (.lst [])) D = some (.lst (((bits n).filter fun k => !decide (k ∈ bits m)).map vi)) := by rw [upd_ne hDl]; exact e2
      have e4 : (upd H2 l (.lst [])) l = some (.lst (([] : List Nat).map vi)) := upd_same
      refine ⟨_, _, dp_vi e3, dp_vi e4, shp_dk _, shp_dk [], ?_⟩
      show Q (.bl (PyData.eqvAll _ _)) _
      rw [eqv_dk, inside_dec hn]
      exact q _ (s2.trans (same_upd nl))
/-! ### _law_moment -/
def spMom (C : Addr) : Sp := fun vs H Q _ => ∃ (a : Addr) (n : Nat), vs = [.ref a] ∧ n < 2147483648 ∧ H a = some (.lst ((bits n).map vi)) ∧ ∀ H' r, Same H H' → MoAt C H' r n → Q (.ref r) H'
theorem ok_moment {f fM fR : Addr} {fd : FuncData} (F : Fun K "_law_moment" "_law_moment" s_law_moment f fd) (T : Txt K mg C) (M : Mk K C fM) (GM : FnR P w K mg base CX0 4 fM (spMk C)) (O : Vx.OpF K C fR .BitOr) (GR : FnR P w K mg base CX0 7 fR (spBin C fun n m => n ||| m)) :
    FnOk P w K mg base CX0 8 f fd ["a"] (spMom C) := by
  refine F.ok sc_law_moment (fun vs H Q E h => ?_) (fun cdv A outer s H vs Q E hr h => ?_)
  · obtain ⟨a, n, rfl, _⟩ := h
    rfl
  · obtain ⟨a, n, rfl, hn, ha, q⟩ := h
    have hr5 : Room 5 _ := hr.mono (by decide)
    refine ⟨_, pss_cons (ps_set (i := 1) sc_law_moment.nd rfl (Or.inl rfl) (Vx.pe_makeZ M GM hr5 (by rfl) T.mgC pass0))
      (pss_cons (ps_for PassesOwn.never rfl (pi_list (pv 0)) (pg_name (i := 2) sc_law_moment.nd rfl (Or.inl rfl))
        (pss_one (ps_set (i := 1) sc_law_moment.nd rfl (Or.inl rfl) (pe_op (Vx.op_own O GR hr pass0) (pv 1) (pv 2)))))
      (pss_one (ps_ret (pv 1)))), ?_⟩
    intro x dx nx ndx ne
    refine ⟨H, x, dx, 0, rfl, by decide, fun b o e => ?_, nx, upd_same, fun H1 s1 e1 => ⟨rfl, ?_⟩⟩
    · rw [upd_ne (ne_of_none e nx), upd_ne (ne_of_none e ndx)]
      exact e
    · refine ⟨_, rfl, a, rfl, ⟨_, SqL.of (s1 _ _ ha)⟩, for_list (K := K) (a := a) (xs := (bits n).map vi) (fun i σ H' => ∃ r v, σ = [some (.ref a), some (.ref r), v] ∧ Same H H' ∧ MoAt C H' r (num ((bits n).take i) 0)) ⟨x, none, rfl, s1, (by decide : (0:Nat) < 2147483648), dx, e1⟩ (fun i σ H' _ ⟨_, _, _, z, _⟩ => SqL.of (z _ _ ha)) ?_ ?_⟩
      · rintro i y σ H' hi ⟨r, v, rfl, s2, hm⟩
        obtain ⟨k, hk, rfl⟩ := get_vi hi
        have hk31 : k < 31 := (mem_bits.mp (List.mem_of_getElem? hk)).1
        obtain ⟨h0, d2, e2⟩ := id hm
        refine ⟨_, rfl, _, rfl, ⟨r, d2, _, rfl, e2⟩, .inr ⟨k, rfl⟩, r, _, 2 ^ k, _, rfl, hm, ⟨two_pow_lt (by omega), .inr ⟨k, rfl, by omega, rfl⟩⟩, fun H3 r3 s3 _ m3 => ?_⟩
        refine ⟨r3, _, rfl, s2.trans s3, ?_⟩
        have e : num ((bits n).take (i + 1)) 0 = num ((bits n).take i) 0 ||| 2 ^ k := by
          unfold num
          rw [List.take_add_one, hk, List.foldl_append]
          rfl
        rw [e]
        exact m3
      · rintro σ H' ⟨r, v, rfl, s2, hm⟩
        rw [List.length_map, List.take_length, num_bits hn] at hm
        exact ⟨_, rfl, q H' r s2 hm⟩
end
end Toy
set_option Elab.async false
set_option linter.all false
set_option maxRecDepth 100000
set_option maxHeartbeats 2000000
namespace Toy
open PySem PySem.Spec PyProof.Rows L2
section
variable {P : Program} {w : World} {K : PySem.W.Frag} {mg : Str → Option Value} {base : Heap} {C : Addr}
/-! ### _law_more -/
def spMore : Sp := fun vs H Q _ => ∃ (p c a : Addr) (n : Nat), vs = [.ref p, .ref a] ∧ Pot H p c ∧ H a = some (.lst ((bits n).map vi)) ∧ ∀ H' l m, m < 2147483648 → Pot H' p c → Kept p c H H' → H l = none → H' l = some (.lst ((bits m).map vi)) → Q (.ref l) H'
theorem ok_more {f fD : Addr} {fd fdD : FuncData} (F : Fun K "_law_more" "_law_more" s_law_more f fd) (T : Txt K mg C) (GD : FnOk P w K mg base CX0 1 fD fdD ["pot", "many"] spDraw) (kD : PySem.W.keepIn K (.ref fD) = true) (bD : L2.Binds K fdD ["pot", "many"] []) (gD : mg "_law_draw" = some (.ref fD)) :
    FnOk P w K mg base CX0 2 f fd ["pot", "a"] spMore := by
  refine F.ok sc_law_more (fun vs H Q E h => ?_) (fun cdv A outer s H vs Q E hr h => ?_)
  · obtain ⟨p, c, a, n, rfl, _⟩ := h
    rfl
  · obtain ⟨p, c, a, n, rfl, hP, ha, q⟩ := h
    refine ⟨_, pss_cons (ps_set (i := 2) sc_law_more.nd rfl (Or.inr rfl) (pe_callTy call_list_of (by rfl) T.list (by decide +kernel) (pa_cons (pv 1) pa_nil)))
      (pss_cons (ps_for PassesOwn.never rfl (pi_range1 (by rfl) T.range (pa_cons (pe_call GD hr (by rfl) gD kD bD .nil pass0 (pa_cons (pv 0) (pa_cons pe_int pa_nil))) pa_nil)) (pg_name (i := 3) sc_law_more.nd rfl (Or.inl rfl))
        (pss_one (ps_expr (pe_bm PySem.F.plainAttrs_list PySem.F.slot_list_append PySem.F.type_list_append mt_append (pv 2) (pa_cons (pe_call GD hr (by rfl) gD kD bD .nil pass0 (pa_cons (pv 0) (pa_cons pe_int pa_nil))) pa_nil)))))
      (pss_one (ps_ret (pe_lc (own := [("k", 3)]) (g := gName 3) rfl sc_law_more.nd (pi_range1 (by rfl) T.range (pa_cons pe_int pa_nil))
        (blkOk_by (own := [("k", 3)]) (N := ["pot", "a", "b", "k"]) (sc := defScope s_law_more) (by decide +kernel)) (fun _ _ _ _ _ => pg_name (i := 3) sc_law_more.nd rfl (Or.inl rfl))
        (fun _ _ _ _ _ => pts_one (pt_cmpR (Vx.op_inK (K := K) rfl) (pv 3) (pv 2) (by rfl))) (fun _ _ _ _ _ => pv 3))))), ?_⟩
    refine ⟨_, rfl, a, _, rfl, .inl (SqL.of ha), fun l nl => ?_⟩
    obtain ⟨cs0, at0, x0, hp0, hc0, _⟩ := id hP
    have lp : l ≠ p := (ne_of_none hp0 nl).symm
    have lc : l ≠ c := (ne_of_none hc0 nl).symm
    have sl : Same H (upd H l (.lst ((bits n).map vi))) := same_upd nl
    refine ⟨_, rfl, ?_⟩
    refine ⟨p, c, 3, rfl, hP.same sl, by decide, by decide, fun H1 r P1 K1 r0 r3 => ?_⟩
    have e1 : H1 l = some (.lst ((bits n).map vi)) := K1 l _ lp lc upd_same
    refine ⟨r, rfl, by omega, by omega, for_range (n := r.toNat) (fun i σ H' => ∃ ws v, σ = [some (.ref p), some (.ref a), some (.ref l), v] ∧ Pot H' p c ∧ Kept p c H H' ∧ H' l = some (.lst (ws.map vi)) ∧ (∀ w ∈ ws, w < 31) ∧ ws.length ≤ 31 + i)
      ⟨bits n, none, rfl, P1, (Kept.of_same sl).trans K1, e1, fun w hw => (mem_bits.mp hw).1, bits_len n⟩ ?_ ?_⟩
    · rintro i σ H' hi ⟨ws, v, rfl, P2, K2, e2, hw, hl⟩
      refine ⟨_, rfl, .inl ⟨rfl, _, SqL.of e2⟩, _, rfl, p, c, 31, rfl, P2, by decide, by decide, fun H3 d P3 K3 d0 d1 => ?_⟩
      have e3 : H3 l = some (.lst (ws.map vi)) := K3 l _ lp lc e2
      refine ⟨l, _, _, rfl, rfl, e3, ?_, ws ++ [d.toNat], _, rfl, ?_, ?_, ?_, ?_, ?_⟩
      · rw [List.length_map]
        exact Nat.lt_of_le_of_lt hl (Nat.lt_of_lt_of_le (show 31 + i < 34 by omega) (by decide))
      · obtain ⟨cs, at_, x, g1, g2, g3⟩ := P3
        exact ⟨cs, at_, x, by rw [upd_ne lp.symm]; exact g1, by rw [upd_ne lc.symm]; exact g2, g3⟩
      · intro b o n1 n2 e
        rw [upd_ne (ne_of_none e nl)]
        exact K3 b o n1 n2 (K2 b o n1 n2 e)
      · rw [upd_same, List.map_append]
        have ed : V.int d = vi d.toNat := by
          show V.int d = V.int ((d.toNat : Nat) : Int)
          rw [Int.toNat_of_nonneg d0]
        rw [ed]
        rfl
      · intro w hw'
        rcases List.mem_append.mp hw' with h | h
        · exact hw w h
        · rw [List.mem_singleton.mp h]
          omega
      · rw [List.length_append, List.length_singleton]
        omega
    · rintro σ H' ⟨ws, v, rfl, P2, K2, e2, hw, hl⟩
      refine ⟨31, rfl, by decide, by decide, fun D hD => ?_⟩
      refine lc_range (lo := 0) (n := 31) (fun i H2 => Same H' H2 ∧ H2 D = some (.lst (((List.range i).filter fun k => decide (k ∈ ws)).map vi))) ⟨same_upd hD, upd_same⟩ ?_ ?_
      · rintro i H2 hi ⟨s2, g2⟩
        refine ⟨rfl, .int (0 + (i : Int)), rfl, .ref l, rfl, l, _, rfl, .inl (SqL.of (s2 _ _ e2)), rfl, flat_vi _, _, rfl, ?_⟩
        have ei : V.int (0 + (i : Int)) = vi i := by rw [Int.zero_add]; rfl
        show if (if false = true then !inV (V.int (0 + (i : Int))) (ws.map vi) else inV (V.int (0 + (i : Int))) (ws.map vi)) = true then _ else _
        rw [ei, inV_vi]
        refine ite2 (fun hm => ?_) (fun hm => ?_)
        · have hm' : decide (i ∈ ws) = true := by simpa using hm
          refine ⟨_, rfl, _, g2, acc_len _ hi, fun b o e => ?_, ?_⟩
          · rw [upd_ne (ne_of_none e hD)]
            exact s2 _ _ e
          · rw [upd_same, bits_succ, if_pos hm', List.map_append]
            rfl
        · have hm' : ¬ decide (i ∈ ws) = true := by simpa using hm
          refine ⟨s2, ?_⟩
          rw [bits_succ, if_neg hm']
          exact g2
      · rintro H2 ⟨s2, g2⟩
        rw [bits_num hw] at g2
        have hD0 : H D = none := by
          cases e : H D with
          | none => rfl
          | some o =>
            have n1 : D ≠ p := fun z => by
              obtain ⟨cs, at_, x, y, _⟩ := P2
              rw [z, y] at hD
              cases hD
            have n2 : D ≠ c := fun z => by
              obtain ⟨cs, at_, x, _, y, _⟩ := P2
              rw [z, y] at hD
              cases hD
            have := K2 D o n1 n2 e
            rw [this] at hD
            cases hD
        exact q H2 D _ (num_lt ws 0 hw (by decide)) (P2.same s2) (K2.trans (Kept.of_same s2)) hD0 g2
/-! ### _law_right -/
theorem ge_le (n m : Nat) : gGe n m = gLe m n := by
  unfold gGe gLe
  rw [Nat.and_comm]
theorem eqv_bits {n m : Nat} (hn : n < 2147483648) (hm : m < 2147483648) : PyData.eqv (.list ((bits n).map dk)) (.list ((bits m).map dk)) = decide (n = m) := by
  show PyData.eqvAll _ _ = _
  rw [eqv_dk, bits_dec hn hm]
theorem and_neD {K : PySem.W.Frag} {σ : L2.St} {H : Hp} {R : VK} {a b : Addr} {n m : Nat} {c : Bool} (h2 : σ[2]? = some (some (.ref a))) (h3 : σ[3]? = some (some (.ref b))) (hn : n < 2147483648) (hm : m < 2147483648) (ha : H a = some (.lst ((bits n).map vi))) (hb : H b = some (.lst ((bits m).map vi)))
    (q : R (.bl (c && decide (n ≠ m))) H) : if c = true then tOp (rNeD K) (tVar 2) (tVar 3) σ H R else R (.bl false) H := by
  cases c with
  | false => exact iteF q
  | true =>
    refine iteT ⟨_, h2, _, h3, _, _, dp_vi ha, dp_vi hb, shp_dk _, shp_dk _, ?_⟩
    rw [eqv_bits hn hm]
    have e : (true && decide (n ≠ m)) = !decide (n = m) := by simp
    rw [e] at q
    exact q
structure Cmps (P : Program) (w : World) (K : PySem.W.Frag) (mg : Str → Option Value) (base : Heap) (C fLe fGe fLt fGt fEq : Addr) : Prop where
  le : CmpF K C fLe .LtE
  ge : CmpF K C fGe .GtE
  lt : CmpF K C fLt .Lt
  gt : CmpF K C fGt .Gt
  eq : CmpF K C fEq .Eq
  ne : PySem.W.findIn K (.ref C) "__ne__" = some (some (.builtin "object.__ne__"))
  gLe : FnR P w K mg base CX0 1 fLe (spCmp C gLe)
  gGe : FnR P w K mg base CX0 1 fGe (spCmp C gGe)
  gLt : FnR P w K mg base CX0 2 fLt (spCmp C gLt)
  gGt : FnR P w K mg base CX0 2 fGt (spCmp C gGt)
  gEq : FnR P w K mg base CX0 1 fEq (spCmp C gEq)
def spRight (C : Addr) : Sp := fun vs H Q _ => ∃ (x y a b : Addr) (n m : Nat), vs = [.ref x, .ref y, .ref a, .ref b] ∧ MoAt C H x n ∧ MoAt C H y m ∧ H a = some (.lst ((bits n).map vi)) ∧ H b = some (.lst ((bits m).map vi)) ∧ ∀ H', Same H H' → Q (.bl true) H'
theorem ok_right {f fI fLe fGe fLt fGt fEq : Addr} {fd fdI : FuncData} (F : Fun K "_law_right" "_law_right" s_law_right f fd) (T : Txt K mg C) (Z : Cmps P w K mg base C fLe fGe fLt fGt fEq) (GI : FnOk P w K mg base CX0 1 fI fdI ["a", "b"] spIns) (kI : PySem.W.keepIn K (.ref fI) = true)
    (bI : L2.Binds K fdI ["a", "b"] []) (gI : mg "_law_inside" = some (.ref fI)) : FnOk P w K mg base CX0 3 f fd ["one", "other", "a", "b"] (spRight C) := by
  refine F.ok sc_law_right (fun vs H Q E h => ?_) (fun cdv A outer s H vs Q E hr h => ?_)
  · obtain ⟨x, y, a, b, n, m, rfl, _⟩ := h
    rfl
  · obtain ⟨x, y, a, b, n, m, rfl, hx, hy, ha, hb, q⟩ := h
    have hr1 : Room 1 _ := hr.mono (by decide)
    refine ⟨_, pss_cons (ps_if (PW.pt (pw_or (pt_cmpR op_ne (pe_cmpR (Vx.op_cmpOwn (op := .LtE) (fun _ _ => rfl) Z.le.nf Z.le.at_ Z.le.fn Z.gLe hr1 pass0) (pv 0) (pv 1) (nomark _)) (pe_call GI hr1 (by rfl) gI kI bI .nil pass0 (pa_cons (pv 2) (pa_cons (pv 3) pa_nil))) (nomark _))
          (pw_or1 (pt_cmpR op_ne (pe_cmpR (Vx.op_cmpOwn (op := .GtE) (fun _ _ => rfl) Z.ge.nf Z.ge.at_ Z.ge.fn Z.gGe hr1 pass0) (pv 0) (pv 1) (nomark _)) (pe_call GI hr1 (by rfl) gI kI bI .nil pass0 (pa_cons (pv 3) (pa_cons (pv 2) pa_nil))) (nomark _))))) (pss_one ps_never) pss_nil)
      (pss_cons (ps_if (PW.pt (pw_or (pt_cmpR op_ne (pe_cmpR (Vx.op_cmpOwn (op := .Lt) (fun _ _ => rfl) Z.lt.nf Z.lt.at_ Z.lt.fn Z.gLt hr pass0) (pv 0) (pv 1) (nomark _)) (pe_and (pe_call GI hr1 (by rfl) gI kI bI .nil pass0 (pa_cons (pv 2) (pa_cons (pv 3) pa_nil))) (pe_one (pe_cmpR (op_neD hr.units) (pv 2) (pv 3) (nomark _)))) (nomark _))
          (pw_or1 (pt_cmpR op_ne (pe_cmpR (Vx.op_cmpOwn (op := .Gt) (fun _ _ => rfl) Z.gt.nf Z.gt.at_ Z.gt.fn Z.gGt hr pass0) (pv 0) (pv 1) (nomark _)) (pe_and (pe_call GI hr1 (by rfl) gI kI bI .nil pass0 (pa_cons (pv 3) (pa_cons (pv 2) pa_nil))) (pe_one (pe_cmpR (op_neD hr.units) (pv 2) (pv 3) (nomark _)))) (nomark _))))) (pss_one ps_never) pss_nil)
      (pss_one (ps_ret (pe_and (pe_cmpR op_eq (pe_cmpR (Vx.op_cmpOwn (op := .Eq) (fun _ _ => rfl) Z.eq.nf Z.eq.at_ Z.eq.fn Z.gEq hr1 pass0) (pv 0) (pv 1) (nomark _)) (pe_cmpR (op_eqD hr.units) (pv 2) (pv 3) (nomark _)) (nomark _))
        (pe_one (pe_cmpR op_eq (pe_cmpR (Vx.op_neOwn Z.eq.nf Z.ne Z.eq.at_ Z.eq.fn T.cM Z.gEq hr pass0) (pv 0) (pv 1) (nomark _)) (pe_cmpR (op_neD hr.units) (pv 2) (pv 3) (nomark _)) (nomark _))))))), ?_⟩
    have hn := hx.1
    have hm := hy.1
    have ins : ∀ {p : Addr} {k : Nat} {H' : Hp}, MoAt C H' p k → ∃ a dx fs, V.ref p = .ref a ∧ H' a = some (.ins C dx fs) := fun h => by
      obtain ⟨_, dx, e⟩ := h
      exact ⟨_, dx, _, rfl, e⟩
    refine ⟨_, rfl, _, rfl, ins hx, ins hy, x, y, n, m, rfl, hx, hy, _, rfl, _, rfl, a, b, n, m, rfl, hn, ha, hb, fun H1 s1 => ⟨rfl, _, rfl, iteNS rfl ?_⟩⟩
    refine ⟨_, rfl, _, rfl, ins (hx.same s1), ins (hy.same s1), x, y, n, m, rfl, hx.same s1, hy.same s1, _, rfl, _, rfl, b, a, m, n, rfl, hm, s1 _ _ hb, s1 _ _ ha, fun H2 s2 => ⟨rfl, _, rfl, iteNS (by rw [ge_le]) ?_⟩⟩
    have t2 := s1.trans s2
    refine ⟨_, rfl, _, rfl, ins (hx.same t2), ins (hy.same t2), x, y, n, m, rfl, hx.same t2, hy.same t2, _, rfl, _, rfl, a, b, n, m, rfl, hn, t2 _ _ ha, t2 _ _ hb, fun H3 s3 => ⟨gLe n m, rfl, ?_⟩⟩
    have t3 := t2.trans s3
    refine and_neD rfl rfl hn hm (t3 _ _ ha) (t3 _ _ hb) ⟨rfl, _, rfl, iteNS rfl ?_⟩
    refine ⟨_, rfl, _, rfl, ins (hx.same t3), ins (hy.same t3), x, y, n, m, rfl, hx.same t3, hy.same t3, _, rfl, _, rfl, b, a, m, n, rfl, hm, t3 _ _ hb, t3 _ _ ha, fun H4 s4 => ⟨gLe m n, rfl, ?_⟩⟩
    have t4 := t3.trans s4
    refine and_neD rfl rfl hn hm (t4 _ _ ha) (t4 _ _ hb) ⟨rfl, _, rfl, iteNS (by unfold gGt; rw [← ge_le]; rfl) ?_⟩
    refine ⟨_, rfl, _, rfl, ins (hx.same t4), ins (hy.same t4), x, y, n, m, rfl, hx.same t4, hy.same t4, _, rfl, _, rfl, _, _, dp_vi (t4 _ _ ha), dp_vi (t4 _ _ hb), shp_dk _, shp_dk _, rfl, ?_⟩
    rw [eqv_bits hn hm]
    refine ⟨true, by rw [decide_eq_true (show V.bl (gEq n m) = V.bl (decide (n = m)) from rfl)], iteT ?_⟩
    refine ⟨_, rfl, _, rfl, ins (hx.same t4), ins (hy.same t4), x, y, n, m, rfl, hx.same t4, hy.same t4, _, rfl, _, rfl, _, rfl, _, _, dp_vi (t4 _ _ ha), dp_vi (t4 _ _ hb), shp_dk _, shp_dk _, rfl, ?_⟩
    rw [eqv_bits hn hm]
    have e : decide (V.bl (!gEq n m) = V.bl (!decide (n = m))) = true := decide_eq_true rfl
    show Q (V.bl (decide (V.bl (!gEq n m) = V.bl (!decide (n = m))))) H4
    rw [e]
    exact q H4 t4
end
end Toy
set_option Elab.async false
set_option linter.all false
set_option maxRecDepth 100000
set_option maxHeartbeats 4000000
namespace Toy
open PySem PySem.Spec PyProof.Rows L2
theorem at3 {α : Type} (f : Nat → α) {i : Nat} (h : i < 3) : atI [f 0, f 1, f 2] (0 + (i : Int)) = some (f i) := by
  rcases i with _ | _ | _ | i
  · rfl
  · rfl
  · rfl
  · omega
theorem at3i {α : Type} (f : Nat → α) {i : Nat} (h : i < 3) : atI [f 0, f 1, f 2] (i : Int) = some (f i) := by
  rcases i with _ | _ | _ | i
  · rfl
  · rfl
  · rfl
  · omega
theorem row_ne {l r : Addr} {xs : List V} {ws : List Nat} {H : Hp} {a : Addr} (h1 : H l = some (.lst (.ref a :: xs))) (h2 : H r = some (.lst (ws.map vi))) : l ≠ r := by
  intro e
  rw [e, h2] at h1
  injection h1 with h1
  injection h1 with h1
  cases ws with
  | nil => cases h1
  | cons y t => injection h1 with z; cases z
/-- three rows of numbers -/
structure Rows (p c : Addr) (H : Hp) (r n : Nat → Nat) (i : Nat) : Prop where
  np : ∀ j, j < i → r j ≠ p
  nc : ∀ j, j < i → r j ≠ c
  lt : ∀ j, j < i → n j < 2147483648
  at_ : ∀ j, j < i → H (r j) = some (.lst ((bits (n j)).map vi))
theorem Rows.kept {p c : Addr} {H H' : Hp} {r n : Nat → Nat} {i : Nat} (h : Rows p c H r n i) (k : Kept p c H H') : Rows p c H' r n i :=
  ⟨h.np, h.nc, h.lt, fun j hj => k _ _ (h.np j hj) (h.nc j hj) (h.at_ j hj)⟩
theorem Rows.put {p c : Addr} {H : Hp} {r n : Nat → Nat} {i k l m : Nat} (h : ∀ j, j < i → j ≠ k → r j ≠ p ∧ r j ≠ c ∧ n j < 2147483648 ∧ H (r j) = some (.lst ((bits (n j)).map vi))) (lp : l ≠ p) (lc : l ≠ c) (hm : m < 2147483648) (hl : H l = some (.lst ((bits m).map vi))) :
    Rows p c H (fun j => if j = k then l else r j) (fun j => if j = k then m else n j) i := by
  refine ⟨fun j hj => ?_, fun j hj => ?_, fun j hj => ?_, fun j hj => ?_⟩
  all_goals
    by_cases e : j = k
    · simp only [e, if_true]
      assumption
    · simp only [e, if_false]
      obtain ⟨a, b, d, g⟩ := h j hj e
      assumption
theorem le_or (a b : Nat) : gLe a (a ||| b) = true := by
  refine decide_eq_true ?_
  apply Nat.eq_of_testBit_eq
  intro k
  rw [Nat.testBit_and, Nat.testBit_or]
  cases a.testBit k <;> simp
theorem le_or' (a b : Nat) : gLe b (a ||| b) = true := by
  rw [Nat.or_comm]
  exact le_or b a
theorem and_le (a b : Nat) : gLe (a &&& b) a = true := by
  refine decide_eq_true ?_
  apply Nat.eq_of_testBit_eq
  intro k
  rw [Nat.testBit_and, Nat.testBit_and]
  cases a.testBit k <;> simp
theorem and_le' (a b : Nat) : gLe (a &&& b) b = true := by
  rw [Nat.and_comm]
  exact and_le b a
theorem gle_bit {a b : Nat} : gLe a b = true ↔ ∀ k, a.testBit k = true → b.testBit k = true := by
  unfold gLe
  rw [decide_eq_true_iff]
  constructor
  · intro h k hk
    have z : (a &&& b).testBit k = true := by rw [h]; exact hk
    rw [Nat.testBit_and, Bool.and_eq_true] at z
    exact z.2
  · intro h
    apply Nat.eq_of_testBit_eq
    intro k
    rw [Nat.testBit_and]
    by_cases hk : a.testBit k = true
    · rw [hk, h k hk]
      rfl
    · have hk' : a.testBit k = false := by simpa using hk
      rw [hk']
      rfl
theorem or_least {a b k : Nat} (h1 : gLe a k = true) (h2 : gLe b k = true) : gLe (a ||| b) k = true := by
  rw [gle_bit] at *
  intro i hi
  rw [Nat.testBit_or, Bool.or_eq_true] at hi
  exact hi.elim (h1 i) (h2 i)
theorem and_greatest {a b k : Nat} (h1 : gLe k a = true) (h2 : gLe k b = true) : gLe k (a &&& b) = true := by
  rw [gle_bit] at *
  intro i hi
  rw [Nat.testBit_and, h1 i hi, h2 i hi]
  rfl
theorem le_trans' {a b k : Nat} (h1 : gLe a b = true) (h2 : gLe b k = true) : gLe a k = true := by
  rw [gle_bit] at *
  exact fun i hi => h2 i (h1 i hi)
theorem map_put (f : Nat → Addr) (l i : Nat) : (List.range i).map (fun j => V.ref (f j)) ++ [V.ref l] = (List.range (i + 1)).map fun j => V.ref (if j = i then l else f j) := by
  rw [List.range_succ, List.map_append, List.map_cons, List.map_nil, if_pos rfl]
  have em : (List.range i).map (fun j => V.ref (if j = i then l else f j)) = (List.range i).map fun j => V.ref (f j) := by
    apply List.map_congr_left
    intro j hj
    rw [if_neg (Nat.ne_of_lt (List.mem_range.mp hj))]
  rw [em]
theorem get3 {α : Type} (f : Nat → α) {i : Nat} {x : α} (h : [f 0, f 1, f 2][i]? = some x) : i < 3 ∧ x = f i := by
  rcases i with _ | _ | _ | i
  · exact ⟨by decide, (Option.some.inj h).symm⟩
  · exact ⟨by decide, (Option.some.inj h).symm⟩
  · exact ⟨by decide, (Option.some.inj h).symm⟩
  · simp at h
/-- another row laid into the list of rows -/
theorem rows_set {p c lr l k m : Nat} {H : Hp} {r n : Nat → Nat} (hk : k < 3) (Pt : Pot H p c) (lrp : lr ≠ p) (lrc : lr ≠ c) (e : H lr = some (.lst [.ref (r 0), .ref (r 1), .ref (r 2)])) (R : Rows p c H r n 3) (lp : l ≠ p) (lc : l ≠ c) (hm : m < 2147483648) (hl : H l = some (.lst ((bits m).map vi))) :
    ∃ r' n' : Nat → Nat, Pot (upd H lr (.lst ([V.ref (r 0), .ref (r 1), .ref (r 2)].set k (.ref l)))) p c ∧ (upd H lr (.lst ([V.ref (r 0), .ref (r 1), .ref (r 2)].set k (.ref l)))) lr = some (.lst [.ref (r' 0), .ref (r' 1), .ref (r' 2)]) ∧
      Rows p c (upd H lr (.lst ([V.ref (r 0), .ref (r 1), .ref (r 2)].set k (.ref l)))) r' n' 3 := by
  refine ⟨fun j => if j = k then l else r j, fun j => if j = k then m else n j, ?_, ?_, Rows.put (fun j hj _ => ⟨R.np j hj, R.nc j hj, R.lt j hj, ?_⟩) lp lc hm ?_⟩
  · obtain ⟨cs, at_, x, g1, g2, g3⟩ := Pt
    exact ⟨cs, at_, x, by rw [upd_ne lrp.symm]; exact g1, by rw [upd_ne lrc.symm]; exact g2, g3⟩
  · rw [upd_same]
    rcases k with _ | _ | _ | k
    · rfl
    · rfl
    · rfl
    · omega
  · rw [upd_ne (row_ne e (R.at_ j hj)).symm]
    exact R.at_ j hj
  · rw [upd_ne (row_ne e hl).symm]
    exact hl
theorem refs_ne {H : Hp} {D z i : Nat} {l : Nat → Nat} {ws : List Nat} (hi : 0 < i) (e : H D = some (.lst ((List.range i).map fun j => V.ref (l j)))) (h : H z = some (.lst (ws.map vi))) : z ≠ D := by
  intro q
  rw [q, e] at h
  injection h with h
  injection h with h
  cases i with
  | zero => omega
  | succ i' =>
    rw [List.range_succ_eq_map, List.map_cons] at h
    cases ws with
    | nil => cases h
    | cons u t => injection h with y _; cases y
/-! data of the rows -/
def dl (n : Nat) : PyData := .list ((bits n).map dk)
theorem dep_dl (n : Nat) : PyData.depth (dl n) ≤ 2 := by
  have e : PyData.depth (.list ((bits n).map dk)) = PyData.depthAll ((bits n).map dk) + 1 := rfl
  have := dep_dk (bits n)
  show PyData.depth (.list ((bits n).map dk)) ≤ 2
  omega
theorem can_dl (n : Nat) : PyData.canLay0 (dl n) = true := can_dk _
theorem can_3 (a b d : Nat) : PyData.canLay0 (.list [dl a, dl b, dl d]) = true := by
  show (PyData.canLay0 (dl a) && (PyData.canLay0 (dl b) && (PyData.canLay0 (dl d) && true))) = true
  rw [can_dl, can_dl, can_dl]
  rfl
theorem shp_3 (a b d : Nat) : SeqAt.shaped (.list [dl a, dl b, dl d]) = true := by
  unfold SeqAt.shaped
  rw [Bool.and_eq_true]
  refine ⟨can_3 a b d, decide_eq_true ?_⟩
  have h1 := dep_dl a
  have h2 := dep_dl b
  have h3 := dep_dl d
  have e : PyData.depth (.list [dl a, dl b, dl d]) = max (PyData.depth (dl a)) (max (PyData.depth (dl b)) (max (PyData.depth (dl d)) 0)) + 1 := rfl
  omega
theorem dp_3 {K : PySem.W.Frag} {H : Hp} {l : Addr} {r n : Nat → Nat} (hl : H l = some (.lst [.ref (r 0), .ref (r 1), .ref (r 2)])) (h : ∀ j, j < 3 → H (r j) = some (.lst ((bits (n j)).map vi))) : Dp K H (.ref l) (.list [dl (n 0), dl (n 1), dl (n 2)]) :=
  .lst (SqL.of hl) (.cons (dp_vi (h 0 (by decide))) (.cons (dp_vi (h 1 (by decide))) (.cons (dp_vi (h 2 (by decide))) .nil)))
end Toy
set_option Elab.async false
set_option linter.all false
set_option maxRecDepth 100000
set_option maxHeartbeats 8000000
namespace Toy
open PySem PySem.Spec PyProof.Rows L2
section
variable {P : Program} {w : World} {K : PySem.W.Frag} {mg : Str → Option Value} {base : Heap} {C : Addr}
def spLaw (K : PySem.W.Frag) : Sp := fun vs H Q _ => ∃ (a : Addr) (ns : List Int), vs = [.ref a] ∧ SqL K H a (ns.map V.int) ∧ ns.length ≤ 63 ∧ ∀ H', Q (.bl true) H'
/-- what the law calls -/
structure Calls (P : Program) (w : World) (K : PySem.W.Frag) (mg : Str → Option Value) (base : Heap) (C fP fB fD fMo fR fM fW fOr fAn fLe : Addr) (fdP fdB fdD fdMo fdR fdM fdW : FuncData) : Prop where
  gP : mg "_law_pot" = some (.ref fP)
  kP : PySem.W.keepIn K (.ref fP) = true
  bP : L2.Binds K fdP ["script"] []
  P1 : FnOk P w K mg base CX0 1 fP fdP ["script"] (spPot K)
  gB : mg "_law_bits" = some (.ref fB)
  kB : PySem.W.keepIn K (.ref fB) = true
  bB : L2.Binds K fdB ["number"] []
  B1 : FnOk P w K mg base CX0 1 fB fdB ["number"] spBits
  gD : mg "_law_draw" = some (.ref fD)
  kD : PySem.W.keepIn K (.ref fD) = true
  bD : L2.Binds K fdD ["pot", "many"] []
  D1 : FnOk P w K mg base CX0 1 fD fdD ["pot", "many"] spDraw
  gMo : mg "_law_more" = some (.ref fMo)
  kMo : PySem.W.keepIn K (.ref fMo) = true
  bMo : L2.Binds K fdMo ["pot", "a"] []
  Mo1 : FnOk P w K mg base CX0 2 fMo fdMo ["pot", "a"] spMore
  gR : mg "_law_right" = some (.ref fR)
  kR : PySem.W.keepIn K (.ref fR) = true
  bR : L2.Binds K fdR ["one", "other", "a", "b"] []
  R1 : FnOk P w K mg base CX0 3 fR fdR ["one", "other", "a", "b"] (spRight C)
  gM : mg "_law_moment" = some (.ref fM)
  kM : PySem.W.keepIn K (.ref fM) = true
  bM : L2.Binds K fdM ["a"] []
  M1 : FnOk P w K mg base CX0 8 fM fdM ["a"] (spMom C)
  mW : Meth K C "writers" fW
  bW : L2.Binds K fdW ["self"] []
  W1 : FnOk P w K mg base CX0 1 fW fdW ["self"] (spWri C)
  oOr : Vx.OpF K C fOr .BitOr
  Or1 : FnR P w K mg base CX0 7 fOr (spBin C fun n m => n ||| m)
  oAn : Vx.OpF K C fAn .BitAnd
  An1 : FnR P w K mg base CX0 7 fAn (spBin C fun n m => n &&& m)
  le : CmpF K C fLe .LtE
  Le1 : FnR P w K mg base CX0 1 fLe (spCmp C gLe)
abbrev nL : List Str := ["script", "pot", "k", "rows", "moments", "i", "j", "joined", "cut", "row", "moment"]
theorem ok_law {f fP fB fD fMo fR fM fW fOr fAn fLe : Addr} {fd fdP fdB fdD fdMo fdR fdM fdW : FuncData} (F : Fun K "law" "law" s_law f fd) (T : Txt K mg C) (Z : Calls P w K mg base C fP fB fD fMo fR fM fW fOr fAn fLe fdP fdB fdD fdMo fdR fdM fdW) :
    FnOk P w K mg base CX0 9 f fd ["script"] (spLaw K) := by
  refine F.ok sc_law (fun vs H Q E h => ?_) (fun cdv A outer s H vs Q E hr h => ?_)
  · obtain ⟨a, ns, rfl, _⟩ := h
    rfl
  · obtain ⟨a, ns, rfl, hS, hlen, q⟩ := h
    have hr1 : Room 1 _ := hr.mono (by decide)
    have hr2 : Room 2 _ := hr.mono (by decide)
    have hr3 : Room 3 _ := hr.mono (by decide)
    have hr7 : Room 7 _ := hr.mono (by decide)
    have hr8 : Room 8 _ := hr.mono (by decide)
    refine ⟨_, pss_cons (ps_set (i := 1) sc_law.nd rfl (Or.inr rfl) (pe_call Z.P1 hr1 (by rfl) Z.gP Z.kP Z.bP .nil pass0 (pa_cons (pv 0) pa_nil)))
      (pss_cons (ps_setLc (i := 3) (own := [("k", 2)]) (g := gName 2) (tt := tYes) rfl sc_law.nd rfl rfl (sw_true rfl rfl rfl (by decide +kernel)) (pi_range1 (by rfl) T.range (pa_cons pe_int pa_nil))
        (blkOk_by (own := [("k", 2)]) (N := nL) (sc := defScope s_law) (by decide +kernel)) (fun _ _ _ _ _ => pg_name (i := 2) sc_law.nd rfl (Or.inl rfl)) (fun _ _ _ _ _ => pts_nil)
        (fun _ _ _ _ _ => pe_call Z.B1 hr1 (by rfl) Z.gB Z.kB Z.bB .nil pass0 (pa_cons (pe_call Z.D1 hr1 (by rfl) Z.gD Z.kD Z.bD .nil pass0 (pa_cons (pv 1) (pa_cons pe_int pa_nil))) pa_nil)))
      (C8.pss_cut (ps_if (pt_cmpR op_eq (pe_call Z.D1 hr1 (by rfl) Z.gD Z.kD Z.bD .nil pass0 (pa_cons (pv 1) (pa_cons pe_int pa_nil))) pe_int (nomark _))
        (pss_one (ps_asg (pe_call Z.Mo1 hr2 (by rfl) Z.gMo Z.kMo Z.bMo .nil pass0 (pa_cons (pv 1) (pa_cons (pe_ix ix_list (pv 3) pe_int (fun _ _ => rfl)) pa_nil))) (pg_sub (pv 3) pe_int set_list))) pss_nil)
      (C8.pss_cut (ps_if (pt_cmpR op_eq (pe_call Z.D1 hr1 (by rfl) Z.gD Z.kD Z.bD .nil pass0 (pa_cons (pv 1) (pa_cons pe_int pa_nil))) pe_int (nomark _))
        (pss_one (ps_asg (pe_call Z.Mo1 hr2 (by rfl) Z.gMo Z.kMo Z.bMo .nil pass0 (pa_cons (pv 1) (pa_cons (pe_ix ix_list (pv 3) pe_int (fun _ _ => rfl)) pa_nil))) (pg_sub (pv 3) pe_int set_list))) pss_nil)
      (pss_cons (ps_setLc (i := 4) (own := [("row", 9)]) (g := gName 9) (tt := tYes) rfl sc_law.nd rfl rfl (sw_true rfl rfl rfl (by decide +kernel)) (pi_list (pv 3))
        (blkOk_by (own := [("row", 9)]) (N := nL) (sc := defScope s_law) (by decide +kernel)) (fun _ _ _ _ _ => pg_name (i := 9) sc_law.nd rfl (Or.inl rfl)) (fun _ _ _ _ _ => pts_nil)
        (fun _ _ _ _ _ => pe_call Z.M1 hr8 (by rfl) Z.gM Z.kM Z.bM .nil pass0 (pa_cons (pv 9) pa_nil)))
      (pss_cons (ps_for PassesOwn.never rfl (pi_range1 (by rfl) T.range (pa_cons pe_int pa_nil)) (pg_name (i := 5) sc_law.nd rfl (Or.inl rfl))
        (pss_one (ps_for PassesOwn.never rfl (pi_range1 (by rfl) T.range (pa_cons pe_int pa_nil)) (pg_name (i := 6) sc_law.nd rfl (Or.inl rfl))
          (pss_cons (ps_if (pt_not (pt_val (pe_call Z.R1 hr3 (by rfl) Z.gR Z.kR Z.bR .nil pass0 (pa_cons (pe_ix ix_list (pv 4) (pv 5) (fun _ _ => rfl)) (pa_cons (pe_ix ix_list (pv 4) (pv 6) (fun _ _ => rfl)) (pa_cons (pe_ix ix_list (pv 3) (pv 5) (fun _ _ => rfl)) (pa_cons (pe_ix ix_list (pv 3) (pv 6) (fun _ _ => rfl)) pa_nil))))))) (pss_one ps_never) pss_nil)
          (pss_cons (ps_if (pt_not (pt_val (pe_call Z.R1 hr3 (by rfl) Z.gR Z.kR Z.bR .nil pass0 (pa_cons (pe_call Z.M1 hr8 (by rfl) Z.gM Z.kM Z.bM .nil pass0 (pa_cons (pe_ix ix_list (pv 3) (pv 5) (fun _ _ => rfl)) pa_nil)) (pa_cons (pe_ix ix_list (pv 4) (pv 6) (fun _ _ => rfl)) (pa_cons (pe_ix ix_list (pv 3) (pv 5) (fun _ _ => rfl)) (pa_cons (pe_ix ix_list (pv 3) (pv 6) (fun _ _ => rfl)) pa_nil))))))) (pss_one ps_never) pss_nil)
          (pss_cons (ps_set (i := 7) sc_law.nd rfl (Or.inl rfl) (pe_op (Vx.op_own Z.oOr Z.Or1 hr7 pass0) (pe_ix ix_list (pv 4) (pv 5) (fun _ _ => rfl)) (pe_ix ix_list (pv 4) (pv 6) (fun _ _ => rfl))))
          (pss_cons (ps_set (i := 8) sc_law.nd rfl (Or.inl rfl) (pe_op (Vx.op_own Z.oAn Z.An1 hr7 pass0) (pe_ix ix_list (pv 4) (pv 5) (fun _ _ => rfl)) (pe_ix ix_list (pv 4) (pv 6) (fun _ _ => rfl))))
          (pss_cons (ps_if (pt_not (PW.pt (pw_and (pt_cmpR (Vx.op_cmpOwn (op := .LtE) (fun _ _ => rfl) Z.le.nf Z.le.at_ Z.le.fn Z.Le1 hr1 pass0) (pe_ix ix_list (pv 4) (pv 5) (fun _ _ => rfl)) (pv 7) (nomark _))
              (pw_and (pt_cmpR (Vx.op_cmpOwn (op := .LtE) (fun _ _ => rfl) Z.le.nf Z.le.at_ Z.le.fn Z.Le1 hr1 pass0) (pe_ix ix_list (pv 4) (pv 6) (fun _ _ => rfl)) (pv 7) (nomark _))
              (pw_and (pt_cmpR (Vx.op_cmpOwn (op := .LtE) (fun _ _ => rfl) Z.le.nf Z.le.at_ Z.le.fn Z.Le1 hr1 pass0) (pv 8) (pe_ix ix_list (pv 4) (pv 5) (fun _ _ => rfl)) (nomark _))
              (pw_and1 (pt_cmpR (Vx.op_cmpOwn (op := .LtE) (fun _ _ => rfl) Z.le.nf Z.le.at_ Z.le.fn Z.Le1 hr1 pass0) (pv 8) (pe_ix ix_list (pv 4) (pv 6) (fun _ _ => rfl)) (nomark _)))))))) (pss_one ps_never) pss_nil)
          (pss_one (ps_for PassesOwn.never rfl (pi_range1 (by rfl) T.range (pa_cons pe_int pa_nil)) (pg_name (i := 2) sc_law.nd rfl (Or.inl rfl))
            (C8.pss_cut (ps_if (PW.pt (pw_and (pt_cmpR (Vx.op_cmpOwn (op := .LtE) (fun _ _ => rfl) Z.le.nf Z.le.at_ Z.le.fn Z.Le1 hr1 pass0) (pe_ix ix_list (pv 4) (pv 5) (fun _ _ => rfl)) (pe_ix ix_list (pv 4) (pv 2) (fun _ _ => rfl)) (nomark _))
                (pw_and (pt_cmpR (Vx.op_cmpOwn (op := .LtE) (fun _ _ => rfl) Z.le.nf Z.le.at_ Z.le.fn Z.Le1 hr1 pass0) (pe_ix ix_list (pv 4) (pv 6) (fun _ _ => rfl)) (pe_ix ix_list (pv 4) (pv 2) (fun _ _ => rfl)) (nomark _))
                (pw_and1 (pt_not (pt_cmpR (Vx.op_cmpOwn (op := .LtE) (fun _ _ => rfl) Z.le.nf Z.le.at_ Z.le.fn Z.Le1 hr1 pass0) (pv 7) (pe_ix ix_list (pv 4) (pv 2) (fun _ _ => rfl)) (nomark _))))))) (pss_one ps_never) pss_nil)
            (C8.pss_cut (ps_if (PW.pt (pw_and (pt_cmpR (Vx.op_cmpOwn (op := .LtE) (fun _ _ => rfl) Z.le.nf Z.le.at_ Z.le.fn Z.Le1 hr1 pass0) (pe_ix ix_list (pv 4) (pv 2) (fun _ _ => rfl)) (pe_ix ix_list (pv 4) (pv 5) (fun _ _ => rfl)) (nomark _))
                (pw_and (pt_cmpR (Vx.op_cmpOwn (op := .LtE) (fun _ _ => rfl) Z.le.nf Z.le.at_ Z.le.fn Z.Le1 hr1 pass0) (pe_ix ix_list (pv 4) (pv 2) (fun _ _ => rfl)) (pe_ix ix_list (pv 4) (pv 6) (fun _ _ => rfl)) (nomark _))
                (pw_and1 (pt_not (pt_cmpR (Vx.op_cmpOwn (op := .LtE) (fun _ _ => rfl) Z.le.nf Z.le.at_ Z.le.fn Z.Le1 hr1 pass0) (pe_ix ix_list (pv 4) (pv 2) (fun _ _ => rfl)) (pv 8) (nomark _))))))) (pss_one ps_never) pss_nil)
            (pss_one (ps_if (PW.pt (pw_and (pt_cmpR (Vx.op_cmpOwn (op := .LtE) (fun _ _ => rfl) Z.le.nf Z.le.at_ Z.le.fn Z.Le1 hr1 pass0) (pe_ix ix_list (pv 4) (pv 5) (fun _ _ => rfl)) (pe_ix ix_list (pv 4) (pv 6) (fun _ _ => rfl)) (nomark _))
                (pw_and (pt_cmpR (Vx.op_cmpOwn (op := .LtE) (fun _ _ => rfl) Z.le.nf Z.le.at_ Z.le.fn Z.Le1 hr1 pass0) (pe_ix ix_list (pv 4) (pv 6) (fun _ _ => rfl)) (pe_ix ix_list (pv 4) (pv 2) (fun _ _ => rfl)) (nomark _))
                (pw_and1 (pt_not (pt_cmpR (Vx.op_cmpOwn (op := .LtE) (fun _ _ => rfl) Z.le.nf Z.le.at_ Z.le.fn Z.Le1 hr1 pass0) (pe_ix ix_list (pv 4) (pv 5) (fun _ _ => rfl)) (pe_ix ix_list (pv 4) (pv 2) (fun _ _ => rfl)) (nomark _))))))) (pss_one ps_never) pss_nil))))))))))))))
      (pss_one (ps_ret (pe_cmpR (op_eqD hr.units) (pe_lc (own := [("moment", 10)]) (g := gName 10) (tt := tYes) rfl sc_law.nd (pi_list (pv 4))
        (blkOk_by (own := [("moment", 10)]) (N := nL) (sc := defScope s_law) (by decide +kernel)) (fun _ _ _ _ _ => pg_name (i := 10) sc_law.nd rfl (Or.inl rfl)) (fun _ _ _ _ _ => pts_nil)
        (fun _ _ _ _ _ => pe_meth0 (pv 10) T.cl Z.mW Z.W1 hr1 Z.bW .nil pass0)) (pv 3) (nomark _))))))))), ?_⟩
    -- pot, rows
    refine ⟨_, rfl, a, ns, rfl, hS, hlen, fun H1 p c s1 p0 c0 P1 => ?_⟩
    refine ⟨3, rfl, by decide, by decide, fun lr nlr => ?_⟩
    obtain ⟨cs1, at1, x1, gp1, gc1, _⟩ := id P1
    have lrp : lr ≠ p := (ne_of_none gp1 nlr).symm
    have lrc : lr ≠ c := (ne_of_none gc1 nlr).symm
    refine lc_range (lo := 0) (n := 3) (fun i H2 => Pot H2 p c ∧ ∃ r n, H2 lr = some (.lst ((List.range i).map fun j => V.ref (r j))) ∧ Rows p c H2 r n i)
      ⟨P1.same (same_upd nlr), fun _ => 0, fun _ => 0, upd_same, ⟨fun j h => absurd h (Nat.not_lt_zero _), fun j h => absurd h (Nat.not_lt_zero _), fun j h => absurd h (Nat.not_lt_zero _), fun j h => absurd h (Nat.not_lt_zero _)⟩⟩ ?_ ?_
    · rintro i H2 hi ⟨P2, r, n, e2, R2⟩
      refine ⟨rfl, _, rfl, p, c, 2147483648, rfl, P2, by decide, by decide, fun H3 d P3 K3 d0 d1 => ?_⟩
      refine ⟨d.toNat, ?_, by omega, fun H4 l s4 nl e4 => ?_⟩
      · show [V.int d] = [V.int ((d.toNat : Nat) : Int)]
        rw [Int.toNat_of_nonneg d0]
      · have e3 := K3 _ _ lrp lrc e2
        have e4' := s4 _ _ e3
        have P4 := P3.same s4
        obtain ⟨cs3, at3_, x3, gp3, gc3, _⟩ := id P3
        have lp : l ≠ p := (ne_of_none gp3 nl).symm
        have lc : l ≠ c := (ne_of_none gc3 nl).symm
        have llr : lr ≠ l := ne_of_none e3 nl
        have R4 := R2.kept (K3.trans (Kept.of_same s4))
        refine ⟨_, e4', ?_, ?_, fun j => if j = i then l else r j, fun j => if j = i then d.toNat else n j, ?_, ?_⟩
        · rw [List.length_map, List.length_range]
          exact Nat.lt_of_lt_of_le hi (by decide)
        · obtain ⟨cs, at_, x, g1, g2, g3⟩ := P4
          exact ⟨cs, at_, x, by rw [upd_ne lrp.symm]; exact g1, by rw [upd_ne lrc.symm]; exact g2, g3⟩
        · rw [upd_same]
          exact congrArg (fun z => some (HO.lst z)) (map_put r l i)
        · refine Rows.put (fun j hj hne => ?_) lp lc (by omega) (by rw [upd_ne llr.symm]; exact e4)
          have hj' : j < i := by omega
          have hne2 : r j ≠ lr := by
            intro z
            have y := R4.at_ j hj'
            rw [z, e4'] at y
            injection y with y
            injection y with y
            cases i with
            | zero => omega
            | succ i' =>
              rw [List.range_succ_eq_map, List.map_cons] at y
              cases hb : bits (n j) with
              | nil => rw [hb] at y; cases y
              | cons u t => rw [hb] at y; injection y with y _; cases y
          exact ⟨R4.np j hj', R4.nc j hj', R4.lt j hj', by rw [upd_ne hne2]; exact R4.at_ j hj'⟩
    · rintro H2 ⟨P2, r, n, e2, R2⟩
      -- rows[1], rows[2]
      refine ⟨fun σ' H' => ∃ r n : Nat → Nat, σ' = [some (.ref a), some (.ref p), none, some (.ref lr), none, none, none, none, none, none, none] ∧ Pot H' p c ∧ H' lr = some (.lst [.ref (r 0), .ref (r 1), .ref (r 2)]) ∧ Rows p c H' r n 3, ?_, ?_⟩
      · refine ⟨_, rfl, p, c, 2, rfl, P2, by decide, by decide, fun H3 d P3 K3 d0 d1 => ⟨rfl, _, rfl, ?_⟩⟩
        have e3 := K3 _ _ lrp lrc e2
        have R3 := R2.kept K3
        refine ite2 (fun _ => ?_) (fun _ => ⟨r, n, rfl, P3, e3, R3⟩)
        refine ⟨_, rfl, _, rfl, lr, _, _, _, rfl, rfl, SqL.of e3, rfl, p, c, r 0, n 0, rfl, P3, R3.at_ 0 (by decide), fun H4 l m hm P4 K4 nl e4 => ?_⟩
        obtain ⟨cs3, at3_, x3, gp3, gc3, _⟩ := id P3
        have e4r : H4 lr = some (.lst [.ref (r 0), .ref (r 1), .ref (r 2)]) := K4 _ _ lrp lrc e3
        obtain ⟨r', n', Q1, Q2, Q3⟩ := rows_set (k := 1) (by decide) P4 lrp lrc e4r (R3.kept K4) (ne_of_none gp3 nl).symm (ne_of_none gc3 nl).symm hm e4
        exact ⟨_, rfl, lr, _, _, 1, rfl, rfl, e4r, rfl, r', n', rfl, Q1, Q2, Q3⟩
      · rintro σ' H3 ⟨r, n, rfl, P3, e3, R3⟩
        refine ⟨fun σ' H' => ∃ r n : Nat → Nat, σ' = [some (.ref a), some (.ref p), none, some (.ref lr), none, none, none, none, none, none, none] ∧ H' lr = some (.lst [.ref (r 0), .ref (r 1), .ref (r 2)]) ∧ Rows p c H' r n 3, ?_, ?_⟩
        · refine ⟨_, rfl, p, c, 2, rfl, P3, by decide, by decide, fun H4 d P4 K4 d0 d1 => ⟨rfl, _, rfl, ?_⟩⟩
          have e4 := K4 _ _ lrp lrc e3
          have R4 := R3.kept K4
          refine ite2 (fun _ => ?_) (fun _ => ⟨r, n, rfl, e4, R4⟩)
          refine ⟨_, rfl, _, rfl, lr, _, _, _, rfl, rfl, SqL.of e4, rfl, p, c, r 1, n 1, rfl, P4, R4.at_ 1 (by decide), fun H5 l m hm P5 K5 nl e5 => ?_⟩
          obtain ⟨cs3, at3_, x3, gp3, gc3, _⟩ := id P4
          have e5r : H5 lr = some (.lst [.ref (r 0), .ref (r 1), .ref (r 2)]) := K5 _ _ lrp lrc e4
          obtain ⟨r', n', Q1, Q2, Q3⟩ := rows_set (k := 2) (by decide) P5 lrp lrc e5r (R4.kept K5) (ne_of_none gp3 nl).symm (ne_of_none gc3 nl).symm hm e5
          exact ⟨_, rfl, lr, _, _, 2, rfl, rfl, e5r, rfl, r', n', rfl, Q2, Q3⟩
        · rintro σ' H5 ⟨r, n, rfl, e5, R5⟩
          -- moments
          refine ⟨_, rfl, lr, rfl, ⟨_, SqL.of e5⟩, fun lm nlm => ?_⟩
          refine lc_list (K := K) (a := lr) (xs := [.ref (r 0), .ref (r 1), .ref (r 2)]) (fun i H' => Same H5 H' ∧ ∃ m : Nat → Nat, H' lm = some (.lst ((List.range i).map fun j => V.ref (m j))) ∧ ∀ j, j < i → MoAt C H' (m j) (n j))
            ⟨same_upd nlm, fun _ => 0, upd_same, fun j h => absurd h (Nat.not_lt_zero _)⟩ (fun i H' _ z => SqL.of (z.1 _ _ e5)) ?_ ?_
          · rintro i x H6 hx ⟨s6, m, e6, M6⟩
            obtain ⟨hi, rfl⟩ := get3 (fun j => V.ref (r j)) hx
            refine ⟨rfl, _, rfl, r i, n i, rfl, R5.lt i hi, s6 _ _ (R5.at_ i hi), fun H7 y s7 m7 => ?_⟩
            have e7 := s7 _ _ e6
            have nylm : y ≠ lm := by
              obtain ⟨_, dx, g⟩ := m7
              exact ne_of g e7 (by intro z; cases z)
            have up : ∀ {z k : Nat} {o : HO}, MoAt C H7 z k → MoAt C (upd H7 lm (.lst ((List.range i).map (fun j => V.ref (m j)) ++ [V.ref y]))) z k := fun {z k o} hz => by
              obtain ⟨h0, dx, g⟩ := hz
              have nz : z ≠ lm := ne_of g e7 (by intro z; cases z)
              exact ⟨h0, dx, by rw [upd_ne nz]; exact g⟩
            refine ⟨_, e7, ?_, fun b o e => ?_, fun j => if j = i then y else m j, ?_, fun j hj => ?_⟩
            · rw [List.length_map, List.length_range]
              exact Nat.lt_of_lt_of_le hi (by decide)
            · rw [upd_ne (ne_of_none e nlm)]
              exact s7 _ _ (s6 _ _ e)
            · rw [upd_same]
              exact congrArg (fun z => some (HO.lst z)) (map_put m y i)
            · show MoAt C _ (if j = i then y else m j) (n j)
              by_cases ej : j = i
              · subst ej
                rw [if_pos rfl]
                exact up (o := .lst []) m7
              · rw [if_neg ej]
                exact up (o := .lst []) ((M6 j (by omega)).same s7)
          · rintro H6 ⟨s6, m, e6, M6⟩
            have eL : H6 lr = some (.lst [.ref (r 0), .ref (r 1), .ref (r 2)]) := s6 _ _ e5
            have eM : H6 lm = some (.lst [.ref (m 0), .ref (m 1), .ref (m 2)]) := e6
            have hR : ∀ j, j < 3 → H6 (r j) = some (.lst ((bits (n j)).map vi)) := fun j hj => s6 _ _ (R5.at_ j hj)
            have hM : ∀ j, j < 3 → MoAt C H6 (m j) (n j) := M6
            have hN : ∀ j, j < 3 → n j < 2147483648 := R5.lt
            have gL : ∀ {H' : Hp}, Same H6 H' → SqL K H' lr [.ref (r 0), .ref (r 1), .ref (r 2)] := fun s => SqL.of (s _ _ eL)
            have gM : ∀ {H' : Hp}, Same H6 H' → SqL K H' lm [.ref (m 0), .ref (m 1), .ref (m 2)] := fun s => SqL.of (s _ _ eM)
            have tM : ∀ {i : Nat}, i < 3 → atI [V.ref (m 0), .ref (m 1), .ref (m 2)] (0 + (i : Int)) = some (V.ref (m i)) := fun h => at3 (fun j => V.ref (m j)) h
            have tR : ∀ {i : Nat}, i < 3 → atI [V.ref (r 0), .ref (r 1), .ref (r 2)] (0 + (i : Int)) = some (V.ref (r i)) := fun h => at3 (fun j => V.ref (r j)) h
            have ins : ∀ {z k : Nat} {H' : Hp}, MoAt C H' z k → ∃ a dx fs, V.ref z = .ref a ∧ H' a = some (.ins C dx fs) := fun h => by
              obtain ⟨_, dx, e⟩ := h
              exact ⟨_, dx, _, rfl, e⟩
            refine ⟨3, rfl, by decide, by decide, for_range (n := 3) (fun i σ H' => ∃ v2 v5 v6 v7 v8, σ = [some (.ref a), some (.ref p), v2, some (.ref lr), some (.ref lm), v5, v6, v7, v8, none, none] ∧ Same H6 H') ⟨none, none, none, none, none, rfl, fun _ _ e => e⟩ ?_ ?_⟩
            · rintro i σ H7 hi ⟨v2, v5, v6, v7, v8, rfl, s7⟩
              refine ⟨3, rfl, by decide, by decide, for_range (n := 3) (fun j σ H' => ∃ v2 v6 v7 v8, σ = [some (.ref a), some (.ref p), v2, some (.ref lr), some (.ref lm), some (.int (0 + (i : Int))), v6, v7, v8, none, none] ∧ Same H6 H') ⟨v2, v6, v7, v8, rfl, s7⟩ ?_ ?_⟩
              · rintro j σ H8 hj ⟨v2, v6, v7, v8, rfl, s8⟩
                -- _law_right, twice
                refine ⟨_, rfl, _, rfl, lm, _, _, _, rfl, rfl, gM s8, tM hi, _, rfl, _, rfl, lm, _, _, _, rfl, rfl, gM s8, tM hj, _, rfl, _, rfl, lr, _, _, _, rfl, rfl, gL s8, tR hi, _, rfl, _, rfl, lr, _, _, _, rfl, rfl, gL s8, tR hj,
                  m i, m j, r i, r j, n i, n j, rfl, (hM i hi).same s8, (hM j hj).same s8, s8 _ _ (hR i hi), s8 _ _ (hR j hj), fun H9 s9 => ⟨true, rfl, iteF ?_⟩⟩
                have t9 := s8.trans s9
                refine ⟨_, rfl, _, rfl, lr, _, _, _, rfl, rfl, gL t9, tR hi, r i, n i, rfl, hN i hi, t9 _ _ (hR i hi), fun HA y sA mA => ?_⟩
                have tA := t9.trans sA
                refine ⟨_, rfl, _, rfl, lm, _, _, _, rfl, rfl, gM tA, tM hj, _, rfl, _, rfl, lr, _, _, _, rfl, rfl, gL tA, tR hi, _, rfl, _, rfl, lr, _, _, _, rfl, rfl, gL tA, tR hj,
                  y, m j, r i, r j, n i, n j, rfl, mA, (hM j hj).same tA, tA _ _ (hR i hi), tA _ _ (hR j hj), fun HB sB => ⟨true, rfl, iteF ?_⟩⟩
                have tB := tA.trans sB
                -- joined, cut
                refine ⟨_, rfl, _, rfl, lm, _, _, _, rfl, rfl, gM tB, tM hi, _, rfl, _, rfl, lm, _, _, _, rfl, rfl, gM tB, tM hj, ins ((hM i hi).same tB), .inl (ins ((hM j hj).same tB)), m i, n i, n j, _, rfl, (hM i hi).same tB, ⟨hN j hj, .inl ⟨m j, rfl, (hM j hj).same tB⟩⟩, fun HC u sC _ mC => ?_⟩
                have tC := tB.trans sC
                refine ⟨_, rfl, _, rfl, lm, _, _, _, rfl, rfl, gM tC, tM hi, _, rfl, _, rfl, lm, _, _, _, rfl, rfl, gM tC, tM hj, ins ((hM i hi).same tC), .inl (ins ((hM j hj).same tC)), m i, n i, n j, _, rfl, (hM i hi).same tC, ⟨hN j hj, .inl ⟨m j, rfl, (hM j hj).same tC⟩⟩, fun HD v sD _ mD => ?_⟩
                have tD := tC.trans sD
                have mU : MoAt C HD u (n i ||| n j) := mC.same sD
                -- the bounds
                refine ⟨_, rfl, _, rfl, lm, _, _, _, rfl, rfl, gM tD, tM hi, _, rfl, ins ((hM i hi).same tD), ins mU, m i, u, n i, n i ||| n j, rfl, (hM i hi).same tD, mU, true, by rw [le_or], iteT ?_⟩
                refine ⟨_, rfl, _, rfl, lm, _, _, _, rfl, rfl, gM tD, tM hj, _, rfl, ins ((hM j hj).same tD), ins mU, m j, u, n j, n i ||| n j, rfl, (hM j hj).same tD, mU, true, by rw [le_or'], iteT ?_⟩
                refine ⟨_, rfl, _, rfl, _, rfl, lm, _, _, _, rfl, rfl, gM tD, tM hi, ins mD, ins ((hM i hi).same tD), v, m i, n i &&& n j, n i, rfl, mD, (hM i hi).same tD, true, by rw [and_le], iteT ?_⟩
                refine ⟨_, rfl, _, rfl, _, rfl, lm, _, _, _, rfl, rfl, gM tD, tM hj, ins mD, ins ((hM j hj).same tD), v, m j, n i &&& n j, n j, rfl, mD, (hM j hj).same tD, true, by rw [and_le'], iteF ?_⟩
                refine ⟨3, rfl, by decide, by decide, for_range (n := 3) (fun k σ H' => ∃ v2, σ = [some (.ref a), some (.ref p), v2, some (.ref lr), some (.ref lm), some (.int (0 + (i : Int))), some (.int (0 + (j : Int))), some (.ref u), some (.ref v), none, none] ∧ H' = HD) ⟨v2, rfl, rfl⟩ ?_ ?_⟩
                · rintro k σ HE hk ⟨v2, rfl, eE⟩
                  subst eE
                  refine ⟨fun σ' H' => σ' = [some (.ref a), some (.ref p), some (.int (0 + (k : Int))), some (.ref lr), some (.ref lm), some (.int (0 + (i : Int))), some (.int (0 + (j : Int))), some (.ref u), some (.ref v), none, none] ∧ H' = HE, ?_, ?_⟩
                  · refine ⟨_, rfl, _, rfl, lm, _, _, _, rfl, rfl, gM tD, tM hi, _, rfl, _, rfl, lm, _, _, _, rfl, rfl, gM tD, tM hk, ins ((hM i hi).same tD), ins ((hM k hk).same tD), m i, m k, n i, n k, rfl, (hM i hi).same tD, (hM k hk).same tD, _, rfl, ?_⟩
                    refine ite2 (fun h1 => ?_) (fun _ => iteF ⟨rfl, rfl⟩)
                    refine ⟨_, rfl, _, rfl, lm, _, _, _, rfl, rfl, gM tD, tM hj, _, rfl, _, rfl, lm, _, _, _, rfl, rfl, gM tD, tM hk, ins ((hM j hj).same tD), ins ((hM k hk).same tD), m j, m k, n j, n k, rfl, (hM j hj).same tD, (hM k hk).same tD, _, rfl, ?_⟩
                    refine ite2 (fun h2 => ?_) (fun _ => iteF ⟨rfl, rfl⟩)
                    exact ⟨_, rfl, _, rfl, _, rfl, lm, _, _, _, rfl, rfl, gM tD, tM hk, ins mU, ins ((hM k hk).same tD), u, m k, n i ||| n j, n k, rfl, mU, (hM k hk).same tD, true, by rw [or_least h1 h2], iteF ⟨rfl, rfl⟩⟩
                  · rintro σ' H' ⟨rfl, eE⟩
                    subst eE
                    refine ⟨fun σ' H'' => σ' = [some (.ref a), some (.ref p), some (.int (0 + (k : Int))), some (.ref lr), some (.ref lm), some (.int (0 + (i : Int))), some (.int (0 + (j : Int))), some (.ref u), some (.ref v), none, none] ∧ H'' = H', ?_, ?_⟩
                    · refine ⟨_, rfl, _, rfl, lm, _, _, _, rfl, rfl, gM tD, tM hk, _, rfl, _, rfl, lm, _, _, _, rfl, rfl, gM tD, tM hi, ins ((hM k hk).same tD), ins ((hM i hi).same tD), m k, m i, n k, n i, rfl, (hM k hk).same tD, (hM i hi).same tD, _, rfl, ?_⟩
                      refine ite2 (fun h1 => ?_) (fun _ => iteF ⟨rfl, rfl⟩)
                      refine ⟨_, rfl, _, rfl, lm, _, _, _, rfl, rfl, gM tD, tM hk, _, rfl, _, rfl, lm, _, _, _, rfl, rfl, gM tD, tM hj, ins ((hM k hk).same tD), ins ((hM j hj).same tD), m k, m j, n k, n j, rfl, (hM k hk).same tD, (hM j hj).same tD, _, rfl, ?_⟩
                      refine ite2 (fun h2 => ?_) (fun _ => iteF ⟨rfl, rfl⟩)
                      exact ⟨_, rfl, _, rfl, lm, _, _, _, rfl, rfl, gM tD, tM hk, _, rfl, ins ((hM k hk).same tD), ins mD, m k, v, n k, n i &&& n j, rfl, (hM k hk).same tD, mD, true, by rw [and_greatest h1 h2], iteF ⟨rfl, rfl⟩⟩
                    · rintro σ' H'' ⟨rfl, eE⟩
                      subst eE
                      refine ⟨_, rfl, _, rfl, lm, _, _, _, rfl, rfl, gM tD, tM hi, _, rfl, _, rfl, lm, _, _, _, rfl, rfl, gM tD, tM hj, ins ((hM i hi).same tD), ins ((hM j hj).same tD), m i, m j, n i, n j, rfl, (hM i hi).same tD, (hM j hj).same tD, _, rfl, ?_⟩
                      refine ite2 (fun h1 => ?_) (fun _ => iteF ⟨some (.int (0 + (k : Int))), rfl, rfl⟩)
                      refine ⟨_, rfl, _, rfl, lm, _, _, _, rfl, rfl, gM tD, tM hj, _, rfl, _, rfl, lm, _, _, _, rfl, rfl, gM tD, tM hk, ins ((hM j hj).same tD), ins ((hM k hk).same tD), m j, m k, n j, n k, rfl, (hM j hj).same tD, (hM k hk).same tD, _, rfl, ?_⟩
                      refine ite2 (fun h2 => ?_) (fun _ => iteF ⟨some (.int (0 + (k : Int))), rfl, rfl⟩)
                      exact ⟨_, rfl, _, rfl, lm, _, _, _, rfl, rfl, gM tD, tM hi, _, rfl, _, rfl, lm, _, _, _, rfl, rfl, gM tD, tM hk, ins ((hM i hi).same tD), ins ((hM k hk).same tD), m i, m k, n i, n k, rfl, (hM i hi).same tD, (hM k hk).same tD, true, by rw [le_trans' h1 h2], iteF ⟨some (.int (0 + (k : Int))), rfl, rfl⟩⟩
                · rintro σ HE ⟨v2, rfl, rfl⟩
                  exact ⟨v2, _, _, _, rfl, tD⟩
              · rintro σ H8 ⟨v2, v6, v7, v8, rfl, s8⟩
                exact ⟨v2, _, v6, v7, v8, rfl, s8⟩
            · rintro σ H7 ⟨v2, v5, v6, v7, v8, rfl, s7⟩
              refine ⟨_, rfl, lm, rfl, ⟨_, gM s7⟩, fun D hD => ?_⟩
              refine lc_list (K := K) (a := lm) (xs := [.ref (m 0), .ref (m 1), .ref (m 2)]) (fun i H' => Same H7 H' ∧ ∃ l : Nat → Nat, H' D = some (.lst ((List.range i).map fun j => V.ref (l j))) ∧ ∀ j, j < i → H' (l j) = some (.lst ((bits (n j)).map vi)))
                ⟨same_upd hD, fun _ => 0, upd_same, fun j h => absurd h (Nat.not_lt_zero _)⟩ (fun i H' _ z => gM (s7.trans z.1)) ?_ ?_
              · rintro i x H8 hx ⟨s8, l, e8, L8⟩
                obtain ⟨hi, rfl⟩ := get3 (fun j => V.ref (m j)) hx
                have mo8 := (hM i hi).same (s7.trans s8)
                obtain ⟨_, dx, hIn⟩ := id mo8
                refine ⟨rfl, _, rfl, m i, dx, _, rfl, hIn, rfl, m i, n i, rfl, mo8, fun H9 y s9 ny e9 => ?_⟩
                have g9 := s9 _ _ e8
                have yD : y ≠ D := (ne_of_none e8 ny).symm
                refine ⟨_, g9, ?_, fun b o e => ?_, fun j => if j = i then y else l j, ?_, fun j hj => ?_⟩
                · rw [List.length_map, List.length_range]
                  exact Nat.lt_of_lt_of_le hi (by decide)
                · rw [upd_ne (ne_of_none e hD)]
                  exact s9 _ _ (s8 _ _ e)
                · rw [upd_same]
                  exact congrArg (fun z => some (HO.lst z)) (map_put l y i)
                · show (upd H9 D _) (if j = i then y else l j) = _
                  by_cases ej : j = i
                  · subst ej
                    rw [if_pos rfl, upd_ne yD]
                    exact e9
                  · rw [if_neg ej]
                    have hj' : j < i := by omega
                    have z := s9 _ _ (L8 j hj')
                    rw [upd_ne (refs_ne (by omega) g9 z)]
                    exact z
              · rintro H8 ⟨s8, l, e8, L8⟩
                refine ⟨_, rfl, _, _, dp_3 (r := l) (n := n) e8 L8, dp_3 (r := r) (n := n) (s8 _ _ (s7 _ _ eL)) (fun j hj => s8 _ _ (s7 _ _ (hR j hj))), shp_3 _ _ _, shp_3 _ _ _, ?_⟩
                rw [SeqAt.eqv_refl _ (can_3 _ _ _)]
                exact q _
end
end Toy
set_option Elab.async false
set_option linter.all false
set_option maxRecDepth 100000
set_option maxHeartbeats 4000000
namespace Toy
open PySem PySem.Spec PyProof.Rows L2
theorem all_mk {l : PySem.W.OpenLaw} {w : World} {K : PySem.W.Frag} {h : Heap} {mg : Str → Option Value} {fa C f_is_whole f_is_between f_is_writer_number f_number_of f_law_pot f_law_draw f_law_bits f_law_inside f_law_right f_law_more f_law_moment f_law f_init f_writers f_or f_and f_eq f_le f_lt f_ge f_gt f_of pO gOr gAnd : Addr} {restO : List Value} {tw tl : Tok} {io1v io2v ia1v ia2v : Option Value} (X : K.In h) (G : h.Ns mainGlobals mg) (hfa : mg "law" = some (.ref fa))
    {od_is_whole an_is_whole : Option Addr} {sl_is_whole : Array (Option Value)} {oc_is_whole kV_is_whole dc_is_whole pm_is_whole cd_is_whole ct_is_whole : Value} {od_is_between an_is_between : Option Addr} {sl_is_between : Array (Option Value)} {oc_is_between kV_is_between dc_is_between pm_is_between cd_is_between ct_is_between : Value} {od_is_writer_number an_is_writer_number : Option Addr} {sl_is_writer_number : Array (Option Value)} {oc_is_writer_number kV_is_writer_number dc_is_writer_number pm_is_writer_number cd_is_writer_number ct_is_writer_number : Value} {od_number_of an_number_of : Option Addr} {sl_number_of : Array (Option Value)} {oc_number_of kV_number_of dc_number_of pm_number_of cd_number_of ct_number_of : Value} {od_law_pot an_law_pot : Option Addr} {sl_law_pot : Array (Option Value)} {oc_law_pot kV_law_pot dc_law_pot pm_law_pot cd_law_pot ct_law_pot : Value} {od_law_draw an_law_draw : Option Addr} {sl_law_draw : Array (Option Value)} {oc_law_draw kV_law_draw dc_law_draw pm_law_draw cd_law_draw ct_law_draw : Value} {od_law_bits an_law_bits : Option Addr} {sl_law_bits : Array (Option Value)} {oc_law_bits kV_law_bits dc_law_bits pm_law_bits cd_law_bits ct_law_bits : Value} {od_law_inside an_law_inside : Option Addr} {sl_law_inside : Array (Option Value)} {oc_law_inside kV_law_inside dc_law_inside pm_law_inside cd_law_inside ct_law_inside : Value} {od_law_right an_law_right : Option Addr} {sl_law_right : Array (Option Value)} {oc_law_right kV_law_right dc_law_right pm_law_right cd_law_right ct_law_right : Value} {od_law_more an_law_more : Option Addr} {sl_law_more : Array (Option Value)} {oc_law_more kV_law_more dc_law_more pm_law_more cd_law_more ct_law_more : Value} {od_law_moment an_law_moment : Option Addr} {sl_law_moment : Array (Option Value)} {oc_law_moment kV_law_moment dc_law_moment pm_law_moment cd_law_moment ct_law_moment : Value} {od_law an_law : Option Addr} {sl_law : Array (Option Value)} {oc_law kV_law dc_law pm_law cd_law ct_law : Value} {od_init an_init : Option Addr} {sl_init : Array (Option Value)} {oc_init kV_init dc_init pm_init cd_init ct_init : Value} {od_writers an_writers : Option Addr} {sl_writers : Array (Option Value)} {oc_writers kV_writers dc_writers pm_writers cd_writers ct_writers : Value} {od_or an_or : Option Addr} {sl_or : Array (Option Value)} {oc_or kV_or dc_or pm_or cd_or ct_or : Value} {od_and an_and : Option Addr} {sl_and : Array (Option Value)} {oc_and kV_and dc_and pm_and cd_and ct_and : Value} {od_eq an_eq : Option Addr} {sl_eq : Array (Option Value)} {oc_eq kV_eq dc_eq pm_eq cd_eq ct_eq : Value} {od_le an_le : Option Addr} {sl_le : Array (Option Value)} {oc_le kV_le dc_le pm_le cd_le ct_le : Value} {od_lt an_lt : Option Addr} {sl_lt : Array (Option Value)} {oc_lt kV_lt dc_lt pm_lt cd_lt ct_lt : Value} {od_ge an_ge : Option Addr} {sl_ge : Array (Option Value)} {oc_ge kV_ge dc_ge pm_ge cd_ge ct_ge : Value} {od_gt an_gt : Option Addr} {sl_gt : Array (Option Value)} {oc_gt kV_gt dc_gt pm_gt cd_gt ct_gt : Value} {od_of an_of : Option Addr} {sl_of : Array (Option Value)} {oc_of kV_of dc_of pm_of cd_of ct_of : Value}
    (aC : PySem.W.nsIn K mainGlobals "Moment" = some (some (.ref C)))
    (a_is_whole : PySem.W.nsIn K mainGlobals "is_whole" = some (some (.ref f_is_whole)))
    (l_is_whole : K.lookup f_is_whole = some ⟨oc_is_whole, od_is_whole, .func (PySem.W.fnOf "is_whole" "is_whole" (defArgs s_is_whole) (defBody s_is_whole) (defScope s_is_whole) .none kV_is_whole dc_is_whole pm_is_whole an_is_whole cd_is_whole ct_is_whole), sl_is_whole⟩)
    (c_is_whole : PySem.W.codeIn K cd_is_whole "is_whole" = true)
    (k_is_whole : PySem.W.keepIn K (.ref f_is_whole) = true)
    (a_is_between : PySem.W.nsIn K mainGlobals "is_between" = some (some (.ref f_is_between)))
    (l_is_between : K.lookup f_is_between = some ⟨oc_is_between, od_is_between, .func (PySem.W.fnOf "is_between" "is_between" (defArgs s_is_between) (defBody s_is_between) (defScope s_is_between) .none kV_is_between dc_is_between pm_is_between an_is_between cd_is_between ct_is_between), sl_is_between⟩)
    (c_is_between : PySem.W.codeIn K cd_is_between "is_between" = true)
    (k_is_between : PySem.W.keepIn K (.ref f_is_between) = true)
    (a_is_writer_number : PySem.W.nsIn K mainGlobals "is_writer_number" = some (some (.ref f_is_writer_number)))
    (l_is_writer_number : K.lookup f_is_writer_number = some ⟨oc_is_writer_number, od_is_writer_number, .func (PySem.W.fnOf "is_writer_number" "is_writer_number" (defArgs s_is_writer_number) (defBody s_is_writer_number) (defScope s_is_writer_number) .none kV_is_writer_number dc_is_writer_number pm_is_writer_number an_is_writer_number cd_is_writer_number ct_is_writer_number), sl_is_writer_number⟩)
    (c_is_writer_number : PySem.W.codeIn K cd_is_writer_number "is_writer_number" = true)
    (k_is_writer_number : PySem.W.keepIn K (.ref f_is_writer_number) = true)
    (a_number_of : PySem.W.nsIn K mainGlobals "_number_of" = some (some (.ref f_number_of)))
    (l_number_of : K.lookup f_number_of = some ⟨oc_number_of, od_number_of, .func (PySem.W.fnOf "_number_of" "_number_of" (defArgs s_number_of) (defBody s_number_of) (defScope s_number_of) .none kV_number_of dc_number_of pm_number_of an_number_of cd_number_of ct_number_of), sl_number_of⟩)
    (c_number_of : PySem.W.codeIn K cd_number_of "_number_of" = true)
    (k_number_of : PySem.W.keepIn K (.ref f_number_of) = true)
    (a_law_pot : PySem.W.nsIn K mainGlobals "_law_pot" = some (some (.ref f_law_pot)))
    (l_law_pot : K.lookup f_law_pot = some ⟨oc_law_pot, od_law_pot, .func (PySem.W.fnOf "_law_pot" "_law_pot" (defArgs s_law_pot) (defBody s_law_pot) (defScope s_law_pot) .none kV_law_pot dc_law_pot pm_law_pot an_law_pot cd_law_pot ct_law_pot), sl_law_pot⟩)
    (c_law_pot : PySem.W.codeIn K cd_law_pot "_law_pot" = true)
    (k_law_pot : PySem.W.keepIn K (.ref f_law_pot) = true)
    (a_law_draw : PySem.W.nsIn K mainGlobals "_law_draw" = some (some (.ref f_law_draw)))
    (l_law_draw : K.lookup f_law_draw = some ⟨oc_law_draw, od_law_draw, .func (PySem.W.fnOf "_law_draw" "_law_draw" (defArgs s_law_draw) (defBody s_law_draw) (defScope s_law_draw) .none kV_law_draw dc_law_draw pm_law_draw an_law_draw cd_law_draw ct_law_draw), sl_law_draw⟩)
    (c_law_draw : PySem.W.codeIn K cd_law_draw "_law_draw" = true)
    (k_law_draw : PySem.W.keepIn K (.ref f_law_draw) = true)
    (a_law_bits : PySem.W.nsIn K mainGlobals "_law_bits" = some (some (.ref f_law_bits)))
    (l_law_bits : K.lookup f_law_bits = some ⟨oc_law_bits, od_law_bits, .func (PySem.W.fnOf "_law_bits" "_law_bits" (defArgs s_law_bits) (defBody s_law_bits) (defScope s_law_bits) .none kV_law_bits dc_law_bits pm_law_bits an_law_bits cd_law_bits ct_law_bits), sl_law_bits⟩)
    (c_law_bits : PySem.W.codeIn K cd_law_bits "_law_bits" = true)
    (k_law_bits : PySem.W.keepIn K (.ref f_law_bits) = true)
    (a_law_inside : PySem.W.nsIn K mainGlobals "_law_inside" = some (some (.ref f_law_inside)))
    (l_law_inside : K.lookup f_law_inside = some ⟨oc_law_inside, od_law_inside, .func (PySem.W.fnOf "_law_inside" "_law_inside" (defArgs s_law_inside) (defBody s_law_inside) (defScope s_law_inside) .none kV_law_inside dc_law_inside pm_law_inside an_law_inside cd_law_inside ct_law_inside), sl_law_inside⟩)
    (c_law_inside : PySem.W.codeIn K cd_law_inside "_law_inside" = true)
    (k_law_inside : PySem.W.keepIn K (.ref f_law_inside) = true)
    (a_law_right : PySem.W.nsIn K mainGlobals "_law_right" = some (some (.ref f_law_right)))
    (l_law_right : K.lookup f_law_right = some ⟨oc_law_right, od_law_right, .func (PySem.W.fnOf "_law_right" "_law_right" (defArgs s_law_right) (defBody s_law_right) (defScope s_law_right) .none kV_law_right dc_law_right pm_law_right an_law_right cd_law_right ct_law_right), sl_law_right⟩)
    (c_law_right : PySem.W.codeIn K cd_law_right "_law_right" = true)
    (k_law_right : PySem.W.keepIn K (.ref f_law_right) = true)
    (a_law_more : PySem.W.nsIn K mainGlobals "_law_more" = some (some (.ref f_law_more)))
    (l_law_more : K.lookup f_law_more = some ⟨oc_law_more, od_law_more, .func (PySem.W.fnOf "_law_more" "_law_more" (defArgs s_law_more) (defBody s_law_more) (defScope s_law_more) .none kV_law_more dc_law_more pm_law_more an_law_more cd_law_more ct_law_more), sl_law_more⟩)
    (c_law_more : PySem.W.codeIn K cd_law_more "_law_more" = true)
    (k_law_more : PySem.W.keepIn K (.ref f_law_more) = true)
    (a_law_moment : PySem.W.nsIn K mainGlobals "_law_moment" = some (some (.ref f_law_moment)))
    (l_law_moment : K.lookup f_law_moment = some ⟨oc_law_moment, od_law_moment, .func (PySem.W.fnOf "_law_moment" "_law_moment" (defArgs s_law_moment) (defBody s_law_moment) (defScope s_law_moment) .none kV_law_moment dc_law_moment pm_law_moment an_law_moment cd_law_moment ct_law_moment), sl_law_moment⟩)
    (c_law_moment : PySem.W.codeIn K cd_law_moment "_law_moment" = true)
    (k_law_moment : PySem.W.keepIn K (.ref f_law_moment) = true)
    (a_law : PySem.W.nsIn K mainGlobals "law" = some (some (.ref f_law)))
    (l_law : K.lookup f_law = some ⟨oc_law, od_law, .func (PySem.W.fnOf "law" "law" (defArgs s_law) (defBody s_law) (defScope s_law) .none kV_law dc_law pm_law an_law cd_law ct_law), sl_law⟩)
    (c_law : PySem.W.codeIn K cd_law "law" = true)
    (k_law : PySem.W.keepIn K (.ref f_law) = true)
    (a_init : PySem.W.findIn K (.ref C) "__init__" = some (some (.ref f_init)))
    (i_init : PySem.W.isFn K (.ref f_init) = true)
    (l_init : K.lookup f_init = some ⟨oc_init, od_init, .func (PySem.W.fnOf "__init__" "Moment.__init__" (defArgs s_Moment_init) (defBody s_Moment_init) (defScope s_Moment_init) .none kV_init dc_init pm_init an_init cd_init ct_init), sl_init⟩)
    (c_init : PySem.W.codeIn K cd_init "Moment.__init__" = true)
    (k_init : PySem.W.keepIn K (.ref f_init) = true)
    (a_writers : PySem.W.findIn K (.ref C) "writers" = some (some (.ref f_writers)))
    (i_writers : PySem.W.isFn K (.ref f_writers) = true)
    (l_writers : K.lookup f_writers = some ⟨oc_writers, od_writers, .func (PySem.W.fnOf "writers" "Moment.writers" (defArgs s_Moment_writers) (defBody s_Moment_writers) (defScope s_Moment_writers) .none kV_writers dc_writers pm_writers an_writers cd_writers ct_writers), sl_writers⟩)
    (c_writers : PySem.W.codeIn K cd_writers "Moment.writers" = true)
    (k_writers : PySem.W.keepIn K (.ref f_writers) = true)
    (a_or : PySem.W.findIn K (.ref C) "__or__" = some (some (.ref f_or)))
    (i_or : PySem.W.isFn K (.ref f_or) = true)
    (l_or : K.lookup f_or = some ⟨oc_or, od_or, .func (PySem.W.fnOf "__or__" "Moment.__or__" (defArgs s_Moment_or) (defBody s_Moment_or) (defScope s_Moment_or) .none kV_or dc_or pm_or an_or cd_or ct_or), sl_or⟩)
    (c_or : PySem.W.codeIn K cd_or "Moment.__or__" = true)
    (k_or : PySem.W.keepIn K (.ref f_or) = true)
    (a_and : PySem.W.findIn K (.ref C) "__and__" = some (some (.ref f_and)))
    (i_and : PySem.W.isFn K (.ref f_and) = true)
    (l_and : K.lookup f_and = some ⟨oc_and, od_and, .func (PySem.W.fnOf "__and__" "Moment.__and__" (defArgs s_Moment_and) (defBody s_Moment_and) (defScope s_Moment_and) .none kV_and dc_and pm_and an_and cd_and ct_and), sl_and⟩)
    (c_and : PySem.W.codeIn K cd_and "Moment.__and__" = true)
    (k_and : PySem.W.keepIn K (.ref f_and) = true)
    (a_eq : PySem.W.findIn K (.ref C) "__eq__" = some (some (.ref f_eq)))
    (i_eq : PySem.W.isFn K (.ref f_eq) = true)
    (l_eq : K.lookup f_eq = some ⟨oc_eq, od_eq, .func (PySem.W.fnOf "__eq__" "Moment.__eq__" (defArgs s_Moment_eq) (defBody s_Moment_eq) (defScope s_Moment_eq) .none kV_eq dc_eq pm_eq an_eq cd_eq ct_eq), sl_eq⟩)
    (c_eq : PySem.W.codeIn K cd_eq "Moment.__eq__" = true)
    (k_eq : PySem.W.keepIn K (.ref f_eq) = true)
    (a_le : PySem.W.findIn K (.ref C) "__le__" = some (some (.ref f_le)))
    (i_le : PySem.W.isFn K (.ref f_le) = true)
    (l_le : K.lookup f_le = some ⟨oc_le, od_le, .func (PySem.W.fnOf "__le__" "Moment.__le__" (defArgs s_Moment_le) (defBody s_Moment_le) (defScope s_Moment_le) .none kV_le dc_le pm_le an_le cd_le ct_le), sl_le⟩)
    (c_le : PySem.W.codeIn K cd_le "Moment.__le__" = true)
    (k_le : PySem.W.keepIn K (.ref f_le) = true)
    (a_lt : PySem.W.findIn K (.ref C) "__lt__" = some (some (.ref f_lt)))
    (i_lt : PySem.W.isFn K (.ref f_lt) = true)
    (l_lt : K.lookup f_lt = some ⟨oc_lt, od_lt, .func (PySem.W.fnOf "__lt__" "Moment.__lt__" (defArgs s_Moment_lt) (defBody s_Moment_lt) (defScope s_Moment_lt) .none kV_lt dc_lt pm_lt an_lt cd_lt ct_lt), sl_lt⟩)
    (c_lt : PySem.W.codeIn K cd_lt "Moment.__lt__" = true)
    (k_lt : PySem.W.keepIn K (.ref f_lt) = true)
    (a_ge : PySem.W.findIn K (.ref C) "__ge__" = some (some (.ref f_ge)))
    (i_ge : PySem.W.isFn K (.ref f_ge) = true)
    (l_ge : K.lookup f_ge = some ⟨oc_ge, od_ge, .func (PySem.W.fnOf "__ge__" "Moment.__ge__" (defArgs s_Moment_ge) (defBody s_Moment_ge) (defScope s_Moment_ge) .none kV_ge dc_ge pm_ge an_ge cd_ge ct_ge), sl_ge⟩)
    (c_ge : PySem.W.codeIn K cd_ge "Moment.__ge__" = true)
    (k_ge : PySem.W.keepIn K (.ref f_ge) = true)
    (a_gt : PySem.W.findIn K (.ref C) "__gt__" = some (some (.ref f_gt)))
    (i_gt : PySem.W.isFn K (.ref f_gt) = true)
    (l_gt : K.lookup f_gt = some ⟨oc_gt, od_gt, .func (PySem.W.fnOf "__gt__" "Moment.__gt__" (defArgs s_Moment_gt) (defBody s_Moment_gt) (defScope s_Moment_gt) .none kV_gt dc_gt pm_gt an_gt cd_gt ct_gt), sl_gt⟩)
    (c_gt : PySem.W.codeIn K cd_gt "Moment.__gt__" = true)
    (k_gt : PySem.W.keepIn K (.ref f_gt) = true)
    (a_of : PySem.W.findCls K (.ref C) (.type "type") "of" = some (.get (.builtin "staticmethod.__get__") (.ref pO) .none (.ref C)))
    (r_of : PySem.W.recIn K pO "staticmethod" = some (.ref f_of :: restO))
    (l_of : K.lookup f_of = some ⟨oc_of, od_of, .func (PySem.W.fnOf "of" "Moment.of" (defArgs s_Moment_of) (defBody s_Moment_of) (defScope s_Moment_of) .none kV_of dc_of pm_of an_of cd_of ct_of), sl_of⟩)
    (c_of : PySem.W.codeIn K cd_of "Moment.of" = true)
    (k_of : PySem.W.keepIn K (.ref f_of) = true)
    (rd : PySem.W.readsIn K C (.type "type") = true)
    (ga : PySem.W.specialIn K (.ref C) "__getattribute__" = some (some (.builtin "type.__getattribute__")))
    (pg : PySem.W.plainGet K C Str.empty = true)
    (hd : PySem.W.hasDictIn K C = true)
    (po : PySem.W.plainOver K C = true)
    (sa : PySem.W.findIn K (.ref C) "__setattr__" = some (some (.builtin "object.__setattr__")))
    (mk : PySem.W.makesIn K C = true)
    (kc : PySem.W.keepIn K (.ref C) = true)
    (nN : PySem.W.findIn K (.ref C) "_number" = some none)
    (cC : PySem.W.findIn K (.ref C) "__class__" = some (some (.builtin "object.__class__")))
    (cG : PySem.W.specialIn K (.builtin "object.__class__") "__get__" = some (some (.builtin "getset_descriptor.__get__")))
    (cT : PySem.W.takesIn K (.builtin "object.__class__") = some true)
    (cM : PySem.W.mroIn K C (.type "object") = some true)
    (kCC : PySem.W.kitOne K (.ref C) (.ref C) = some true)
    (kIC : PySem.W.kitOne K (.type "int") (.ref C) = some false)
    (lw : PySem.W.nsIn K mainGlobals "LAST_WRITER" = some (some (.int 30 tw)))
    (ln : PySem.W.nsIn K mainGlobals "LAST_NUMBER" = some (some (.int 2147483647 tl)))
    (sf : PySem.W.selfFirst K C = true)
    (nf : PySem.W.notFirst K C (.ref C) = true)
    (sub : PySem.W.subIn K (.type "int") (.ref C) = some false)
    (ror : PySem.W.findIn K (.ref C) "__ror__" = some (some (.ref gOr)))
    (rand : PySem.W.findIn K (.ref C) "__rand__" = some (some (.ref gAnd)))
    (io1 : PySem.W.findIn K (.type "int") "__or__" = some io1v)
    (io2 : PySem.W.findIn K (.type "int") "__ror__" = some io2v)
    (ia1 : PySem.W.findIn K (.type "int") "__and__" = some ia1v)
    (ia2 : PySem.W.findIn K (.type "int") "__rand__" = some ia2v)
    (ne : PySem.W.findIn K (.ref C) "__ne__" = some (some (.builtin "object.__ne__")))
    (z_len : PySem.W.nsIn K mainGlobals "len" = some none)
    (z_int : PySem.W.nsIn K mainGlobals "int" = some none)
    (z_bool : PySem.W.nsIn K mainGlobals "bool" = some none)
    (z_isinstance : PySem.W.nsIn K mainGlobals "isinstance" = some none)
    (z_range : PySem.W.nsIn K mainGlobals "range" = some none)
    (z_sum : PySem.W.nsIn K mainGlobals "sum" = some none)
    (z_list : PySem.W.nsIn K mainGlobals "list" = some none) :
    ∃ fd : FuncData, (∀ (s : Shared) (v : Value), BindsTo s fd ⟨[v], []⟩ [("script", v)]) ∧ ∀ base : Heap, K.In base → base.Ns mainGlobals mg → FnOk l.prog w K mg base CX0 9 fa fd ["script"] (spLaw K) := by
  have e := hfa.symm.trans (PySem.W.mg_of X G a_law)
  cases e
  have T : Txt K mg C := ⟨⟨pg, hd, po, sa⟩, nN, PySem.W.mg_of X G aC, PySem.W.mg_none_of X G z_len, PySem.W.mg_none_of X G z_int, PySem.W.mg_none_of X G z_bool, PySem.W.mg_none_of X G z_isinstance, PySem.W.mg_none_of X G z_range, PySem.W.mg_none_of X G z_sum, PySem.W.mg_none_of X G z_list,
    cC, cG, cT, cM, kCC, kIC, ⟨tw, PySem.W.mg_of X G lw⟩, ⟨tl, PySem.W.mg_of X G ln⟩⟩
  have F_is_whole := fun_mk (st := s_is_whole) l_is_whole c_is_whole k_is_whole
  have b_is_whole := F_is_whole.binds (ps := ["value"]) fun _ _ _ _ _ _ us hl => match us, hl with | [_], _ => rfl
  have F_is_between := fun_mk (st := s_is_between) l_is_between c_is_between k_is_between
  have b_is_between := F_is_between.binds (ps := ["value", "low", "high"]) fun _ _ _ _ _ _ us hl => match us, hl with | [_, _, _], _ => rfl
  have F_is_writer_number := fun_mk (st := s_is_writer_number) l_is_writer_number c_is_writer_number k_is_writer_number
  have b_is_writer_number := F_is_writer_number.binds (ps := ["value"]) fun _ _ _ _ _ _ us hl => match us, hl with | [_], _ => rfl
  have F_number_of := fun_mk (st := s_number_of) l_number_of c_number_of k_number_of
  have b_number_of := F_number_of.binds (ps := ["value"]) fun _ _ _ _ _ _ us hl => match us, hl with | [_], _ => rfl
  have F_law_pot := fun_mk (st := s_law_pot) l_law_pot c_law_pot k_law_pot
  have b_law_pot := F_law_pot.binds (ps := ["script"]) fun _ _ _ _ _ _ us hl => match us, hl with | [_], _ => rfl
  have F_law_draw := fun_mk (st := s_law_draw) l_law_draw c_law_draw k_law_draw
  have b_law_draw := F_law_draw.binds (ps := ["pot", "many"]) fun _ _ _ _ _ _ us hl => match us, hl with | [_, _], _ => rfl
  have F_law_bits := fun_mk (st := s_law_bits) l_law_bits c_law_bits k_law_bits
  have b_law_bits := F_law_bits.binds (ps := ["number"]) fun _ _ _ _ _ _ us hl => match us, hl with | [_], _ => rfl
  have F_law_inside := fun_mk (st := s_law_inside) l_law_inside c_law_inside k_law_inside
  have b_law_inside := F_law_inside.binds (ps := ["a", "b"]) fun _ _ _ _ _ _ us hl => match us, hl with | [_, _], _ => rfl
  have F_law_right := fun_mk (st := s_law_right) l_law_right c_law_right k_law_right
  have b_law_right := F_law_right.binds (ps := ["one", "other", "a", "b"]) fun _ _ _ _ _ _ us hl => match us, hl with | [_, _, _, _], _ => rfl
  have F_law_more := fun_mk (st := s_law_more) l_law_more c_law_more k_law_more
  have b_law_more := F_law_more.binds (ps := ["pot", "a"]) fun _ _ _ _ _ _ us hl => match us, hl with | [_, _], _ => rfl
  have F_law_moment := fun_mk (st := s_law_moment) l_law_moment c_law_moment k_law_moment
  have b_law_moment := F_law_moment.binds (ps := ["a"]) fun _ _ _ _ _ _ us hl => match us, hl with | [_], _ => rfl
  have F_law := fun_mk (st := s_law) l_law c_law k_law
  have F_writers := fun_mk (st := s_Moment_writers) l_writers c_writers k_writers
  have b_writers := F_writers.binds (ps := ["self"]) fun _ _ _ _ _ _ us hl => match us, hl with | [_], _ => rfl
  have F_or := fun_mk (st := s_Moment_or) l_or c_or k_or
  have b_or := F_or.binds (ps := ["self", "other"]) fun _ _ _ _ _ _ us hl => match us, hl with | [_, _], _ => rfl
  have F_and := fun_mk (st := s_Moment_and) l_and c_and k_and
  have b_and := F_and.binds (ps := ["self", "other"]) fun _ _ _ _ _ _ us hl => match us, hl with | [_, _], _ => rfl
  have F_eq := fun_mk (st := s_Moment_eq) l_eq c_eq k_eq
  have b_eq := F_eq.binds (ps := ["self", "other"]) fun _ _ _ _ _ _ us hl => match us, hl with | [_, _], _ => rfl
  have F_le := fun_mk (st := s_Moment_le) l_le c_le k_le
  have b_le := F_le.binds (ps := ["self", "other"]) fun _ _ _ _ _ _ us hl => match us, hl with | [_, _], _ => rfl
  have F_lt := fun_mk (st := s_Moment_lt) l_lt c_lt k_lt
  have b_lt := F_lt.binds (ps := ["self", "other"]) fun _ _ _ _ _ _ us hl => match us, hl with | [_, _], _ => rfl
  have F_ge := fun_mk (st := s_Moment_ge) l_ge c_ge k_ge
  have b_ge := F_ge.binds (ps := ["self", "other"]) fun _ _ _ _ _ _ us hl => match us, hl with | [_, _], _ => rfl
  have F_gt := fun_mk (st := s_Moment_gt) l_gt c_gt k_gt
  have b_gt := F_gt.binds (ps := ["self", "other"]) fun _ _ _ _ _ _ us hl => match us, hl with | [_, _], _ => rfl
  have F_of := fun_mk (st := s_Moment_of) l_of c_of k_of
  have b_of := F_of.binds (ps := ["number"]) fun _ _ _ _ _ _ us hl => match us, hl with | [_], _ => rfl
  refine ⟨PySem.W.fnOf "law" "law" (defArgs s_law) (defBody s_law) (defScope s_law) .none kV_law dc_law pm_law an_law cd_law ct_law, fun s v => .of_eq rfl, fun base _ _ => ?_⟩
  have M : Mk K C f_init := ⟨mk, a_init, i_init, kc⟩
  have GB : FnOk l.prog w K mg base CX0 2 f_is_between _ ["value", "low", "high"] spBetw := ok_is_between F_is_between T F_is_whole b_is_whole (PySem.W.mg_of X G a_is_whole)
  have GI : FnOk l.prog w K mg base CX0 3 f_is_writer_number _ ["value"] spIsW := ok_is_writer F_is_writer_number T GB k_is_between b_is_between (PySem.W.mg_of X G a_is_between)
  have GN : FnOk l.prog w K mg base CX0 4 f_number_of _ ["value"] (spNum C) := ok_number_of F_number_of T GI k_is_writer_number b_is_writer_number (PySem.W.mg_of X G a_is_writer_number)
  have GM : FnR l.prog w K mg base CX0 4 f_init (spMk C) := ok_init l_init c_init T GI k_is_writer_number b_is_writer_number (PySem.W.mg_of X G a_is_writer_number)
  have GO : FnOk l.prog w K mg base CX0 6 f_of _ ["number"] (spOf C) := ok_of F_of T GB k_is_between b_is_between (PySem.W.mg_of X G a_is_between) M GM
  have O : Ops K mg C f_number_of f_of pO pO (.type "type") := ⟨PySem.W.mg_of X G a_number_of, k_number_of, ⟨rd, ga⟩, ⟨a_of, ⟨_, r_of⟩, k_of⟩⟩
  have Gor : FnR l.prog w K mg base CX0 7 f_or (spBin C fun n m => n ||| m) := Vx.fnR (ok_or F_or T O GN b_number_of (Vx.fnR GO b_of)) b_or
  have Gand : FnR l.prog w K mg base CX0 7 f_and (spBin C fun n m => n &&& m) := Vx.fnR (ok_and F_and T O GN b_number_of (Vx.fnR GO b_of)) b_and
  have oOr : Vx.OpF K C f_or .BitOr := ⟨sf, a_or, i_or, ⟨_, ror, .inr ⟨_, rfl⟩⟩, ⟨_, io1⟩, ⟨_, io2⟩, sub⟩
  have oAn : Vx.OpF K C f_and .BitAnd := ⟨sf, a_and, i_and, ⟨_, rand, .inr ⟨_, rfl⟩⟩, ⟨_, ia1⟩, ⟨_, ia2⟩, sub⟩
  have cle : CmpF K C f_le .LtE := ⟨nf, a_le, i_le⟩
  have cge : CmpF K C f_ge .GtE := ⟨nf, a_ge, i_ge⟩
  have Gle : FnR l.prog w K mg base CX0 1 f_le (spCmp C gLe) := Vx.fnR (ok_le F_le T) b_le
  have Gge : FnR l.prog w K mg base CX0 1 f_ge (spCmp C gGe) := Vx.fnR (ok_ge F_ge T) b_ge
  have Glt : FnR l.prog w K mg base CX0 2 f_lt (spCmp C gLt) := Vx.fnR (ok_lt F_lt T cle Gle) b_lt
  have Ggt : FnR l.prog w K mg base CX0 2 f_gt (spCmp C gGt) := Vx.fnR (ok_gt F_gt T cge Gge) b_gt
  have Geq : FnR l.prog w K mg base CX0 1 f_eq (spCmp C gEq) := Vx.fnR (ok_eq F_eq T) b_eq
  have Z : Cmps l.prog w K mg base C f_le f_ge f_lt f_gt f_eq := ⟨cle, cge, ⟨nf, a_lt, i_lt⟩, ⟨nf, a_gt, i_gt⟩, ⟨nf, a_eq, i_eq⟩, ne, Gle, Gge, Glt, Ggt, Geq⟩
  have GD : FnOk l.prog w K mg base CX0 1 f_law_draw _ ["pot", "many"] spDraw := ok_draw F_law_draw T.int T.len
  refine ok_law F_law T (Calls.mk (PySem.W.mg_of X G a_law_pot) k_law_pot b_law_pot (ok_pot F_law_pot T.int) (PySem.W.mg_of X G a_law_bits) k_law_bits b_law_bits (ok_bits F_law_bits T.int T.range) (PySem.W.mg_of X G a_law_draw) k_law_draw b_law_draw GD
    (PySem.W.mg_of X G a_law_more) k_law_more b_law_more (ok_more F_law_more T GD k_law_draw b_law_draw (PySem.W.mg_of X G a_law_draw))
    (PySem.W.mg_of X G a_law_right) k_law_right b_law_right (ok_right F_law_right T Z (ok_inside F_law_inside) k_law_inside b_law_inside (PySem.W.mg_of X G a_law_inside))
    (PySem.W.mg_of X G a_law_moment) k_law_moment b_law_moment (ok_moment F_law_moment T M GM oOr Gor) ⟨a_writers, i_writers, k_writers⟩ b_writers (ok_writers F_writers T) oOr Gor oAn Gand cle Gle)
theorem walk {l : PySem.W.OpenLaw} {q : Program} {loose : List Str} {XP : (Str → Option Value) → Heap → Prop} {YP : World → Heap → Prop} {d : DefRec} {K : Params → PySem.W.Frag} (hn : l.most = some 63) (hdf : d.params.defaults = [])
    (hY : ∀ (w : World) (h : Heap), YP w h → (K w.params).In h)
    (F : ∀ (w : World) (mg : Str → Option Value) (fa : Addr) (h : Heap), (K w.params).In h → h.Ns mainGlobals mg → mg d.name = some (.ref fa) →
      ∃ fd : FuncData, (∀ (s : Shared) (u : Value), BindsTo s fd ⟨[u], []⟩ [("script", u)]) ∧ ∀ base : Heap, (K w.params).In base → base.Ns mainGlobals mg → FnOk l.prog w (K w.params) mg base CX0 9 fa fd ["script"] (spLaw (K w.params))) :
    PySem.W.WalkO q loose XP YP l.row.toRowW d [] (fun f vs => PySem.call f vs) :=
  L2.walk_of (n := 63) (k := 9) (x := "script") (CX := fun _ => CX0) (sp := fun w => spLaw (K w.params)) hn (by decide) hdf ⟨rfl, by decide, by decide⟩ hY F (fun _ _ a ns hl _ hS => ⟨a, ns, rfl, hS, hl, fun _ => rfl⟩) fun _ _ _ _ _ z => z
end Toy
open PySem PySem.W PyProof.Rows in
set_option maxRecDepth 100000 in
set_option maxHeartbeats 0 in
theorem PySem.Challenge.cw_trustedpages_k04_moments_in_order_holds : PySem.Challenge.rw_trustedpages_k04_moments_in_order.Holds := by
  w_on; o_law; k_head; (case hw => w_witness2)
  k_fill
  refine Toy.walk (l := PySem.Challenge.rw_trustedpages_k04_moments_in_order) rfl rfl (fun w h Y => PySem.W.kIn_of Y) ?F
  case F =>
    intro w mg fa h KX G hmg
    refine' Toy.all_mk KX G hmg ?aC ?a_is_whole ?l_is_whole ?c_is_whole ?k_is_whole ?a_is_between ?l_is_between ?c_is_between ?k_is_between ?a_is_writer_number ?l_is_writer_number ?c_is_writer_number ?k_is_writer_number ?a_number_of ?l_number_of ?c_number_of ?k_number_of ?a_law_pot ?l_law_pot ?c_law_pot ?k_law_pot ?a_law_draw ?l_law_draw ?c_law_draw ?k_law_draw ?a_law_bits ?l_law_bits ?c_law_bits ?k_law_bits ?a_law_inside ?l_law_inside ?c_law_inside ?k_law_inside ?a_law_right ?l_law_right ?c_law_right ?k_law_right ?a_law_more ?l_law_more ?c_law_more ?k_law_more ?a_law_moment ?l_law_moment ?c_law_moment ?k_law_moment ?a_law ?l_law ?c_law ?k_law ?a_init ?i_init ?l_init ?c_init ?k_init ?a_writers ?i_writers ?l_writers ?c_writers ?k_writers ?a_or ?i_or ?l_or ?c_or ?k_or ?a_and ?i_and ?l_and ?c_and ?k_and ?a_eq ?i_eq ?l_eq ?c_eq ?k_eq ?a_le ?i_le ?l_le ?c_le ?k_le ?a_lt ?i_lt ?l_lt ?c_lt ?k_lt ?a_ge ?i_ge ?l_ge ?c_ge ?k_ge ?a_gt ?i_gt ?l_gt ?c_gt ?k_gt ?a_of ?r_of ?l_of ?c_of ?k_of ?rd ?ga ?pg ?hd ?po ?sa ?mk ?kc ?nN ?cC ?cG ?cT ?cM ?kCC ?kIC ?lw ?ln ?sf ?nf ?sub ?ror ?rand ?io1 ?io2 ?ia1 ?ia2 ?ne ?z_len ?z_int ?z_bool ?z_isinstance ?z_range ?z_sum ?z_list
    (case aC => k_is)
    (case a_is_whole => k_is)
    (case l_is_whole => k_is)
    (case c_is_whole => k_is)
    (case k_is_whole => k_is)
    (case a_is_between => k_is)
    (case l_is_between => k_is)
    (case c_is_between => k_is)
    (case k_is_between => k_is)
    (case a_is_writer_number => k_is)
    (case l_is_writer_number => k_is)
    (case c_is_writer_number => k_is)
    (case k_is_writer_number => k_is)
    (case a_number_of => k_is)
    (case l_number_of => k_is)
    (case c_number_of => k_is)
    (case k_number_of => k_is)
    (case a_law_pot => k_is)
    (case l_law_pot => k_is)
    (case c_law_pot => k_is)
    (case k_law_pot => k_is)
    (case a_law_draw => k_is)
    (case l_law_draw => k_is)
    (case c_law_draw => k_is)
    (case k_law_draw => k_is)
    (case a_law_bits => k_is)
    (case l_law_bits => k_is)
    (case c_law_bits => k_is)
    (case k_law_bits => k_is)
    (case a_law_inside => k_is)
    (case l_law_inside => k_is)
    (case c_law_inside => k_is)
    (case k_law_inside => k_is)
    (case a_law_right => k_is)
    (case l_law_right => k_is)
    (case c_law_right => k_is)
    (case k_law_right => k_is)
    (case a_law_more => k_is)
    (case l_law_more => k_is)
    (case c_law_more => k_is)
    (case k_law_more => k_is)
    (case a_law_moment => k_is)
    (case l_law_moment => k_is)
    (case c_law_moment => k_is)
    (case k_law_moment => k_is)
    (case a_law => k_is)
    (case l_law => k_is)
    (case c_law => k_is)
    (case k_law => k_is)
    (case a_init => k_is)
    (case i_init => k_is)
    (case l_init => k_is)
    (case c_init => k_is)
    (case k_init => k_is)
    (case a_writers => k_is)
    (case i_writers => k_is)
    (case l_writers => k_is)
    (case c_writers => k_is)
    (case k_writers => k_is)
    (case a_or => k_is)
    (case i_or => k_is)
    (case l_or => k_is)
    (case c_or => k_is)
    (case k_or => k_is)
    (case a_and => k_is)
    (case i_and => k_is)
    (case l_and => k_is)
    (case c_and => k_is)
    (case k_and => k_is)
    (case a_eq => k_is)
    (case i_eq => k_is)
    (case l_eq => k_is)
    (case c_eq => k_is)
    (case k_eq => k_is)
    (case a_le => k_is)
    (case i_le => k_is)
    (case l_le => k_is)
    (case c_le => k_is)
    (case k_le => k_is)
    (case a_lt => k_is)
    (case i_lt => k_is)
    (case l_lt => k_is)
    (case c_lt => k_is)
    (case k_lt => k_is)
    (case a_ge => k_is)
    (case i_ge => k_is)
    (case l_ge => k_is)
    (case c_ge => k_is)
    (case k_ge => k_is)
    (case a_gt => k_is)
    (case i_gt => k_is)
    (case l_gt => k_is)
    (case c_gt => k_is)
    (case k_gt => k_is)
    (case a_of => k_is)
    (case r_of => k_is)
    (case l_of => k_is)
    (case c_of => k_is)
    (case k_of => k_is)
    (case rd => k_is)
    (case ga => k_is)
    (case pg => k_is)
    (case hd => k_is)
    (case po => k_is)
    (case sa => k_is)
    (case mk => k_is)
    (case kc => k_is)
    (case nN => k_is)
    (case cC => k_is)
    (case cG => k_is)
    (case cT => k_is)
    (case cM => k_is)
    (case kCC => exact if_pos (beq_self_eq_true _))
    (case kIC => kit_is)
    (case lw => k_is)
    (case ln => k_is)
    (case sf => k_is)
    (case nf => k_is)
    (case sub => k_is)
    (case ror => k_is)
    (case rand => k_is)
    (case io1 => k_is)
    (case io2 => k_is)
    (case ia1 => k_is)
    (case ia2 => k_is)
    (case ne => k_is)
    (case z_len => k_is)
    (case z_int => k_is)
    (case z_bool => k_is)
    (case z_isinstance => k_is)
    (case z_range => k_is)
    (case z_sum => k_is)
    (case z_list => k_is)
