import PyProof.Rows.All
import Wide.All
import OpenK.AllK
import Wide.FinOn
import PyProof.EqAt
import PyProof.EqKinds
import PyProof.TupleCall
import KE.KOpsOwn
import HandS.ForMost
import HandS.OwnEq
import HandS.Star
import HandS.ClsMeth
import HandS.IsInst
import HandS.Codes
import HandS.Flow
import HandS.Wide
import PySem.Challenge.RW_trustedpages_k09_bytes_that_are_no_page
import KE.KExcIs
import HandS.ExcInit
import HandS.ExcField
import HandS.ExcIs
import HandS.ExcOwn
import HandS.MakeKw
import HandS.MakeKwOnly
import HandS.Defaults
import HandS.Property
import HandS.WordsExc
import PyProof.ReprRoads
import PyProof.CallFns
import HandS.Ends
import HandS.Walk
import HandS.Bytes
import HandS.BytesMake
import HandS.ToBytes
import KE.GoesMore
import PyProof.Draws
import PyProof.EnumMake
import Open.Row
import KE.RegKIsAll
set_option Elab.async false
set_option linter.all false
set_option maxRecDepth 100000
set_option maxHeartbeats 2000000
/-! own operators, static methods, an own class called with a star -/
namespace Vx
open PySem PySem.Spec PyProof.Rows L2
section
variable {P : Program} {w : World} {K : PySem.W.Frag} {mg : Str → Option Value} {base : Heap} {CX : CXT} {k : Nat} {f : Addr} {fd : FuncData} {ps : List Str} {sp : Sp}
theorem fnR (F : FnOk P w K mg base CX k f fd ps sp) (hb : L2.Binds K fd ps []) : FnR P w K mg base CX k f sp := by
  intro A outer s H us vs Q E hr e0 r hsp
  have hl := F.len _ _ _ _ hsp
  have KX : K.In s.heap := e0.mod.kin.keeps fun b o e => (e0.bs b o e).1
  refine F.run A outer s H ⟨us, []⟩ us vs Q E hr e0 ?_ r hsp
  have := hb s us KX (by rw [List.append_nil, ← r.length]; exact hl)
  simpa using this
end
section
variable {X : Cx} {CX : CXT} {k : Nat} {C f : Addr} {sp : Sp} {E : XK} {pins : List (Addr × Obj)} {σ : L2.St} {H : Hp} {s : Shared} {Q : VK}
theorem cmpBack_of {v : Value} {s' : Shared} (h : EP X pins σ Q v s') : PySem.W.CmpBack (EP X pins σ Q) v s' := by
  cases v with
  | notImplemented =>
    obtain ⟨v', H', I', r, q⟩ := h
    cases v' with
    | int i => obtain ⟨t, e⟩ := r; cases e
    | str i => obtain ⟨t, e⟩ := r; cases e
    | byt i => obtain ⟨t, e⟩ := r; cases e
    | flt i => obtain ⟨t, e⟩ := r; cases e
    | non => cases r
    | bl b => cases r
    | ref a => cases r
    | ty n => cases r
  | _ => exact h
theorem call_cmp {us : List Value} {vs : List V} (F : FnR X.prog X.w X.K X.mg X.base CX k f sp) (hr : Room k X.A) (hx : Passes CX X E) (I : L2.Inv X pins σ H s) (r : Vals vs us) (h : sp vs H Q E) :
    wpAny (model X.prog X.w) X.A (call (.ref f) us) (PySem.W.CmpBack (EP X pins σ Q)) X.xe s :=
  wpAny_mono (wpAny_call (run_fnR F hr hx I r h)) (fun _ _ z => cmpBack_of z) fun _ _ z => z
/-- o op y by the own method of o's class; y of the same class, or an int -/
def rOwn (C : Addr) (sp : Sp) (E : XK) : R2 := fun x y H Q => (∃ a dx fs, x = .ref a ∧ H a = some (.ins C dx fs)) ∧ ((∃ b dy gs, y = .ref b ∧ H b = some (.ins C dy gs)) ∨ ∃ i, y = .int i) ∧ sp [x, y] H Q E
/-- what the text says of an operator of the class at C -/
structure OpF (K : PySem.W.Frag) (C f : Addr) (op : Operator) : Prop where
  sf : PySem.W.selfFirst K C = true
  at_ : PySem.W.findIn K (.ref C) (PySem.dunder op.info.2) = some (some (.ref f))
  fn : PySem.W.isFn K (.ref f) = true
  rf : ∃ rc, PySem.W.findIn K (.ref C) (PySem.dunderR op.info.2) = some rc ∧ (rc = none ∨ ∃ g : Addr, rc = some (.ref g))
  i1 : ∃ fo, PySem.W.findIn K (.type "int") (PySem.dunder op.info.2) = some fo
  i2 : ∃ ro, PySem.W.findIn K (.type "int") (PySem.dunderR op.info.2) = some ro
  sub : PySem.W.subIn K (.type "int") (.ref C) = some false
theorem op_own {op : Operator} (O : OpF X.K C f op) (F : FnR X.prog X.w X.K X.mg X.base CX k f sp) (hr : Room k X.A) (hx : Passes CX X E) : OpR X (binaryOp op) (rOwn C sp E) := by
  intro pins s σ H x y v u Q I rx ry hq
  obtain ⟨⟨a, dx, fs, rfl, ha⟩, hy, hsp⟩ := hq
  have ev : v = Value.ref a := rx
  have cl := call_cmp F hr hx I (us := [v, u]) (vs := [V.ref a, y]) (.cons rx (.cons ry .nil)) hsp
  subst ev
  obtain ⟨mA, J, _⟩ := ins_get I.hok ha
  obtain ⟨od, J, _⟩ := J.look
  obtain ⟨m, hF⟩ := I.fr
  rcases hy with ⟨b, dy, gs, rfl, hb⟩ | ⟨i, rfl⟩
  · have eu : u = Value.ref b := ry
    subst eu
    obtain ⟨mB, J', _⟩ := ins_get I.hok hb
    obtain ⟨od', J', _⟩ := J'.look
    exact PySem.W.binop_K hF I.ok.mod.kin J J'.type O.sf O.at_ O.fn cl
  · obtain ⟨t, rfl⟩ := ry
    obtain ⟨rc, r1, r2⟩ := O.rf
    obtain ⟨fo, i1⟩ := O.i1
    obtain ⟨ro, i2⟩ := O.i2
    exact PySem.W.ksp_binT (T := "int") hF I.ok.mod.kin J rfl O.sf O.at_ O.fn r1 r2 i1 i2 O.sub cl
/-- o cmp y by the own method, y of the same class -/
def rCmp (C : Addr) (sp : Sp) (E : XK) : R2 := fun x y H Q => (∃ a dx fs, x = .ref a ∧ H a = some (.ins C dx fs)) ∧ (∃ b dy gs, y = .ref b ∧ H b = some (.ins C dy gs)) ∧ sp [x, y] H Q E
theorem op_cmpOwn {op : CmpOp} (hc : ∀ v u, compareOp op v u = richCompare op v u) (nf : PySem.W.notFirst X.K C (.ref C) = true) (at_ : PySem.W.findIn X.K (.ref C) (cmpInfo op).2.1 = some (some (.ref f))) (fn : PySem.W.isFn X.K (.ref f) = true)
    (F : FnR X.prog X.w X.K X.mg X.base CX k f sp) (hr : Room k X.A) (hx : Passes CX X E) : OpR X (compareOp op) (rCmp C sp E) := by
  intro pins s σ H x y v u Q I rx ry hq
  obtain ⟨⟨a, dx, fs, rfl, ha⟩, ⟨b, dy, gs, rfl, hb⟩, hsp⟩ := hq
  have ev : v = Value.ref a := rx
  have eu : u = Value.ref b := ry
  have cl := call_cmp F hr hx I (us := [v, u]) (vs := [V.ref a, V.ref b]) (.cons rx (.cons ry .nil)) hsp
  subst ev eu
  obtain ⟨mA, J, _⟩ := ins_get I.hok ha
  obtain ⟨od, J, _⟩ := J.look
  obtain ⟨mB, J', _⟩ := ins_get I.hok hb
  obtain ⟨od', J', _⟩ := J'.look
  obtain ⟨m, hF⟩ := I.fr
  rw [hc]
  exact PySem.W.cmp_K hr.units0 hF I.ok.mod.kin J J'.type nf at_ fn cl
/-- x in o by the own method -/
def rInOwn (C : Addr) (sp : Sp) (E : XK) (neg : Bool) : R2 := fun x y H Q => (∃ a dx fs, y = .ref a ∧ H a = some (.ins C dx fs)) ∧ sp [y, x] H (fun v H' => ∃ b, v = .bl b ∧ Q (.bl (if neg then !b else b)) H') E
theorem op_inOwn (at_ : PySem.W.findIn X.K (.ref C) "__contains__" = some (some (.ref f))) (fn : PySem.W.isFn X.K (.ref f) = true)
    (F : FnR X.prog X.w X.K X.mg X.base CX k f sp) (hr : Room k X.A) (hx : Passes CX X E) : OpR X (compareOp .In) (rInOwn C sp E false) := by
  intro pins s σ H x y v u Q I rx ry hq
  obtain ⟨⟨a, dx, fs, rfl, ha⟩, hsp⟩ := hq
  have eu : u = Value.ref a := ry
  have cl := wpAny_call (run_fnR (us := [u, v]) (vs := [V.ref a, x]) F hr hx I (.cons ry (.cons rx .nil)) hsp)
  subst eu
  obtain ⟨mA, J, _⟩ := ins_get I.hok ha
  obtain ⟨od, J, _⟩ := J.look
  obtain ⟨m, hF⟩ := I.fr
  refine PySem.W.in_K hF I.ok.mod.kin J at_ fn (wpAny_mono cl (fun r s' z => ?_) fun _ _ z => z)
  obtain ⟨v', H', I', rv, b, rfl, q⟩ := z
  have er : r = Value.bool b := rv
  subst er
  exact wpAny_truthy_bool ⟨.bl b, H', I', rfl, q⟩
end
/-! static methods -/
structure SMet (K : PySem.W.Frag) (C : Addr) (mc : Value) (m : Str) (p g : Addr) : Prop where
  at_ : PySem.W.findCls K (.ref C) mc m = some (.get (.builtin "staticmethod.__get__") (.ref p) .none (.ref C))
  rc : ∃ rest, PySem.W.recIn K p "staticmethod" = some (.ref g :: rest)
  kp : PySem.W.keepIn K (.ref g) = true
def tSMeth (C : Addr) (sp : Sp) (E : XK) (ta : TE) (t : TA) : TE := fun σ H Q => ta σ H fun x H1 => x = .ref C ∧ t σ H1 fun vs H2 => sp vs H2 Q E
section
variable {X : Cx} {CX : CXT} {k : Nat} {C p g : Addr} {mc : Value} {sp : Sp} {E : XK} {o e : Expr} {es : List Expr} {m : Str} {pos apos : Pos} {ta : TE} {t : TA} {pl : Sem Bool}
theorem pe_smeth (he : PE X o ta) (r : ClX.CRead X.K C mc) (c : SMet X.K C mc m p g) (F : FnR X.prog X.w X.K X.mg X.base CX k g sp) (hr : Room k X.A) (hx : Passes CX X E) (ha : PA X (e :: es) t)
    (hst : starEach (e :: es) X.env = (false, eval e X.env) :: starEach es X.env := by rfl) (hpl : (backTo pos (starEach es X.env)).any (·.1) = false := by rfl)
    (ht : eval (.Call (.Attribute o m apos) (e :: es) [] pos) X.env = (do
      let ov ← eval o X.env
      standAt apos.atName
      let (f, first) ← holding [ov] (getMethod ov m pl)
      callWith pos f first (backTo pos (starEach (e :: es) X.env)) (backToKw pos (keywordEach [] X.env))) := by rfl) :
    PE X (.Call (.Attribute o m apos) (e :: es) [] pos) (tSMeth C sp E ta t) := by
  refine ⟨fun pins s σ H Q I h => ?_⟩
  refine PySem.W.methodCall_KW (pl := pl) (thn (he.run pins s σ H _ I h) fun u s1 ⟨x, H1, I1, rx, ex, q⟩ => ?_) ht
  subst ex
  obtain rfl : u = Value.ref C := rx
  obtain ⟨rest, hp⟩ := c.rc
  refine PySem.W.method_cls I1.kIn r.ga (PySem.W.cls_bind I1.kIn r.rd c.at_ (wpAny_call (PySem.W.sm_get (s := { s1 with toks := s1.toks + 1 }) I1.kIn hp (PySem.W.handed_on rfl ?_))))
  have I2 : L2.Inv X pins σ H1 { s1 with toks := s1.toks + 1 } := I1.tok _
  refine PySem.W.callWith_K (h₀ := X.base) I2.ok.mod.kin c.kp (thn (ha.run pos pins _ σ H1 _ I2 q) fun us s3 ⟨vs, H2, I3, rv, q2⟩ => ⟨I3.kIn, ?_⟩) hst hpl
  exact wpAny_call (run_fnR F hr hx I3 rv q2)
end
/-! C(*xs) -/
section
variable {X : Cx} {CX : CXT} {k : Nat} {f C : Addr} {sp : Sp} {E : XK} {x : Str} {e : Expr} {te : TE} {p pos sp_ : Pos}
def tMakeS (K : PySem.W.Frag) (C : Addr) (sp : Sp) (E : XK) (te : TE) : TE := fun σ H Q => te σ H fun y H1 => ∃ a xs, y = V.ref a ∧ (SqT K H1 a xs ∨ SqL K H1 a xs) ∧ ∀ x dx, H1 x = Option.none → H1 dx = Option.none → dx ≠ x →
  sp (V.ref x :: xs) (upd (upd H1 dx (.own x)) x (.ins C dx [])) (fun v H2 => v = .non ∧ Q (.ref x) H2) E
theorem pe_makeS (M : Mk X.K C f) (F : FnR X.prog X.w X.K X.mg X.base CX k f sp) (hr : Room (k + 1) X.A) (hg : Gl X x) (hm : X.mg x = some (.ref C)) (hx : Passes CX X E) (he : PE X e te) (hd : (x == ("__debug__" : Str)) = false := by decide)
    (hst : starEach [.Starred e sp_] X.env = [(true, eval e X.env)] := by rfl) :
    PE X (.Call (.Name x p) [.Starred e sp_] [] pos) (tMakeS X.K C sp E te) := by
  refine ⟨fun pins s σ H Q I h => ?_⟩
  refine wpAny_Call_Name_kw (ld_glob I hg hm ?_ hd)
  refine PySem.W.callWith_S (h₀ := X.base) I.ok.mod.kin M.kp (thn (he.run pins s σ H _ I h) fun v s1 ⟨y, H1, I1, ry, a, xs, ey, hxs, q⟩ => ?_) hst
  subst ey
  obtain rfl : v = Value.ref a := ry
  exact StX.star_any I1 hxs fun us s2 I2 rv => ⟨I2.kIn, StX.run_makeR M F hr hx I2 rv q⟩
def tMakeZ (C : Addr) (sp : Sp) (E : XK) : TE := fun _ H Q => ∀ x dx, H x = Option.none → H dx = Option.none → dx ≠ x →
  sp [V.ref x] (upd (upd H dx (.own x)) x (.ins C dx [])) (fun v H2 => v = .non ∧ Q (.ref x) H2) E
end
end Vx
set_option Elab.async false
set_option linter.all false
set_option maxRecDepth 100000
namespace Toy
open PySem PySem.Spec PyProof.Rows L2
def topS (i : Nat) : Stmt := PySem.Challenge.pw_trustedpages_k09_bytes_that_are_no_page.main.body.getD i (.Pass ⟨0, 0, 0, 0⟩)
abbrev s_wall : Stmt := topS 0
theorem sc_wall : FnScope ["k"] ["k"] (defScope s_wall) := ⟨rfl, rfl, rfl, by decide +kernel, rfl, by decide +kernel, by decide +kernel⟩
-- wall cells []
abbrev s_BadRow_init : Stmt := inClass (topS 3) 0
theorem sc_BadRow_init : FnScope ["self", "field"] ["self", "field"] (defScope s_BadRow_init) := ⟨rfl, rfl, rfl, by decide +kernel, rfl, by decide +kernel, by decide +kernel⟩
-- BadRow_init cells []
abbrev s_BadPage_init : Stmt := inClass (topS 4) 0
theorem sc_BadPage_init : FnScope ["self", "at"] ["self", "at"] (defScope s_BadPage_init) := ⟨rfl, rfl, rfl, by decide +kernel, rfl, by decide +kernel, by decide +kernel⟩
-- BadPage_init cells []
abbrev s_BadBytes_init : Stmt := inClass (topS 5) 0
theorem sc_BadBytes_init : FnScope ["self", "at"] ["self", "at"] (defScope s_BadBytes_init) := ⟨rfl, rfl, rfl, by decide +kernel, rfl, by decide +kernel, by decide +kernel⟩
-- BadBytes_init cells []
abbrev s_BadMarks_init : Stmt := inClass (topS 6) 0
theorem sc_BadMarks_init : FnScope ["self", "at"] ["self", "at"] (defScope s_BadMarks_init) := ⟨rfl, rfl, rfl, by decide +kernel, rfl, by decide +kernel, by decide +kernel⟩
-- BadMarks_init cells []
abbrev s_is_whole : Stmt := topS 8
theorem sc_is_whole : FnScope ["value"] ["value"] (defScope s_is_whole) := ⟨rfl, rfl, rfl, by decide +kernel, rfl, by decide +kernel, by decide +kernel⟩
-- is_whole cells []
abbrev s_is_between : Stmt := topS 9
theorem sc_is_between : FnScope ["value", "low", "high"] ["value", "low", "high"] (defScope s_is_between) := ⟨rfl, rfl, rfl, by decide +kernel, rfl, by decide +kernel, by decide +kernel⟩
-- is_between cells []
abbrev s_is_writer_number : Stmt := topS 12
theorem sc_is_writer_number : FnScope ["value"] ["value"] (defScope s_is_writer_number) := ⟨rfl, rfl, rfl, by decide +kernel, rfl, by decide +kernel, by decide +kernel⟩
-- is_writer_number cells []
abbrev s_is_field : Stmt := topS 14
theorem sc_is_field : FnScope ["value"] ["value"] (defScope s_is_field) := ⟨rfl, rfl, rfl, by decide +kernel, rfl, by decide +kernel, by decide +kernel⟩
-- is_field cells []
abbrev s_Row_init : Stmt := inClass (topS 15) 0
theorem sc_Row_init : FnScope ["self", "beginner", "ender"] ["self", "beginner", "ender"] (defScope s_Row_init) := ⟨rfl, rfl, rfl, by decide +kernel, rfl, by decide +kernel, by decide +kernel⟩
-- Row_init cells []
abbrev s_Row_ancient : Stmt := inClass (topS 15) 1
theorem sc_Row_ancient : FnScope [] [] (defScope s_Row_ancient) := ⟨rfl, rfl, rfl, by decide +kernel, rfl, by decide +kernel, by decide +kernel⟩
-- Row_ancient cells []
abbrev s_Row_beginner : Stmt := inClass (topS 15) 2
theorem sc_Row_beginner : FnScope ["self"] ["self"] (defScope s_Row_beginner) := ⟨rfl, rfl, rfl, by decide +kernel, rfl, by decide +kernel, by decide +kernel⟩
-- Row_beginner cells []
abbrev s_Row_ender : Stmt := inClass (topS 15) 3
theorem sc_Row_ender : FnScope ["self"] ["self"] (defScope s_Row_ender) := ⟨rfl, rfl, rfl, by decide +kernel, rfl, by decide +kernel, by decide +kernel⟩
-- Row_ender cells []
abbrev s_Row_seen : Stmt := inClass (topS 15) 4
theorem sc_Row_seen : FnScope ["self", "moment"] ["self", "moment"] (defScope s_Row_seen) := ⟨rfl, rfl, rfl, by decide +kernel, rfl, by decide +kernel, by decide +kernel⟩
-- Row_seen cells []
abbrev s_Row_ended : Stmt := inClass (topS 15) 5
theorem sc_Row_ended : FnScope ["self", "writer"] ["self", "writer"] (defScope s_Row_ended) := ⟨rfl, rfl, rfl, by decide +kernel, rfl, by decide +kernel, by decide +kernel⟩
-- Row_ended cells []
abbrev s_Row_eq : Stmt := inClass (topS 15) 6
theorem sc_Row_eq : FnScope ["self", "other"] ["self", "other"] (defScope s_Row_eq) := ⟨rfl, rfl, rfl, by decide +kernel, rfl, by decide +kernel, by decide +kernel⟩
-- Row_eq cells []
abbrev s_byte : Stmt := topS 18
theorem sc_byte : FnScope ["writer"] ["writer"] (defScope s_byte) := ⟨rfl, rfl, rfl, by decide +kernel, rfl, by decide +kernel, by decide +kernel⟩
-- byte cells []
abbrev s_writer : Stmt := topS 19
theorem sc_writer : FnScope ["byte"] ["byte"] (defScope s_writer) := ⟨rfl, rfl, rfl, by decide +kernel, rfl, by decide +kernel, by decide +kernel⟩
-- writer cells []
abbrev s_row_bytes : Stmt := topS 20
theorem sc_row_bytes : FnScope ["rows", "row", "writer"] ["rows"] (defScope s_row_bytes) := ⟨rfl, rfl, rfl, by decide +kernel, rfl, by decide +kernel, by decide +kernel⟩
-- row_bytes cells []
abbrev s_Page_init : Stmt := inClass (topS 21) 0
theorem sc_Page_init : FnScope ["self", "rows", "at", "row"] ["self", "rows"] (defScope s_Page_init) := ⟨rfl, rfl, rfl, by decide +kernel, rfl, by decide +kernel, by decide +kernel⟩
-- Page_init cells []
abbrev s_Page_read : Stmt := inClass (topS 21) 1
theorem sc_Page_read : FnScope ["data", "last", "at"] ["data"] (defScope s_Page_read) := ⟨rfl, rfl, rfl, by decide +kernel, rfl, by decide +kernel, by decide +kernel⟩
-- Page_read cells ['data']
abbrev s_Page_raw : Stmt := inClass (topS 21) 2
theorem sc_Page_raw : FnScope ["self", "body"] ["self"] (defScope s_Page_raw) := ⟨rfl, rfl, rfl, by decide +kernel, rfl, by decide +kernel, by decide +kernel⟩
-- Page_raw cells []
abbrev s_Page_piece : Stmt := inClass (topS 21) 3
theorem sc_Page_piece : FnScope ["self", "first", "last"] ["self", "first", "last"] (defScope s_Page_piece) := ⟨rfl, rfl, rfl, by decide +kernel, rfl, by decide +kernel, by decide +kernel⟩
-- Page_piece cells []
abbrev s_Page_rows : Stmt := inClass (topS 21) 4
theorem sc_Page_rows : FnScope ["self"] ["self"] (defScope s_Page_rows) := ⟨rfl, rfl, rfl, by decide +kernel, rfl, by decide +kernel, by decide +kernel⟩
-- Page_rows cells []
abbrev s_Page_all_seen : Stmt := inClass (topS 21) 5
theorem sc_Page_all_seen : FnScope ["self", "moment"] ["self", "moment"] (defScope s_Page_all_seen) := ⟨rfl, rfl, rfl, by decide +kernel, rfl, by decide +kernel, by decide +kernel⟩
-- Page_all_seen cells []
abbrev s_Page_twin : Stmt := inClass (topS 21) 6
theorem sc_Page_twin : FnScope ["self"] ["self"] (defScope s_Page_twin) := ⟨rfl, rfl, rfl, by decide +kernel, rfl, by decide +kernel, by decide +kernel⟩
-- Page_twin cells []
abbrev s_Page_len : Stmt := inClass (topS 21) 7
theorem sc_Page_len : FnScope ["self"] ["self"] (defScope s_Page_len) := ⟨rfl, rfl, rfl, by decide +kernel, rfl, by decide +kernel, by decide +kernel⟩
-- Page_len cells []
abbrev s_Page_iter : Stmt := inClass (topS 21) 8
theorem sc_Page_iter : FnScope ["self"] ["self"] (defScope s_Page_iter) := ⟨rfl, rfl, rfl, by decide +kernel, rfl, by decide +kernel, by decide +kernel⟩
-- Page_iter cells []
abbrev s_Page_getitem : Stmt := inClass (topS 21) 9
theorem sc_Page_getitem : FnScope ["self", "at"] ["self", "at"] (defScope s_Page_getitem) := ⟨rfl, rfl, rfl, by decide +kernel, rfl, by decide +kernel, by decide +kernel⟩
-- Page_getitem cells []
abbrev s_Page_setitem : Stmt := inClass (topS 21) 10
theorem sc_Page_setitem : FnScope ["self", "at", "row"] ["self", "at", "row"] (defScope s_Page_setitem) := ⟨rfl, rfl, rfl, by decide +kernel, rfl, by decide +kernel, by decide +kernel⟩
-- Page_setitem cells []
abbrev s_Page_iadd : Stmt := inClass (topS 21) 11
theorem sc_Page_iadd : FnScope ["self", "row"] ["self", "row"] (defScope s_Page_iadd) := ⟨rfl, rfl, rfl, by decide +kernel, rfl, by decide +kernel, by decide +kernel⟩
-- Page_iadd cells []
abbrev s_Page_contains : Stmt := inClass (topS 21) 12
theorem sc_Page_contains : FnScope ["self", "value"] ["self", "value"] (defScope s_Page_contains) := ⟨rfl, rfl, rfl, by decide +kernel, rfl, by decide +kernel, by decide +kernel⟩
-- Page_contains cells []
abbrev s_Page_eq : Stmt := inClass (topS 21) 13
theorem sc_Page_eq : FnScope ["self", "other"] ["self", "other"] (defScope s_Page_eq) := ⟨rfl, rfl, rfl, by decide +kernel, rfl, by decide +kernel, by decide +kernel⟩
-- Page_eq cells []
abbrev s_Made_init : Stmt := inClass (topS 24) 0
theorem sc_Made_init : FnScope ["self", "flags"] ["self", "flags"] (defScope s_Made_init) := ⟨rfl, rfl, rfl, by decide +kernel, rfl, by decide +kernel, by decide +kernel⟩
-- Made_init cells []
abbrev s_pairs : Stmt := topS 25
theorem sc_pairs : FnScope ["one", "other", "k"] ["one", "other"] (defScope s_pairs) := ⟨rfl, rfl, rfl, by decide +kernel, rfl, by decide +kernel, by decide +kernel⟩
-- pairs cells ['one', 'other']
abbrev s_either : Stmt := topS 26
theorem sc_either : FnScope ["one", "other", "a", "b"] ["one", "other"] (defScope s_either) := ⟨rfl, rfl, rfl, by decide +kernel, rfl, by decide +kernel, by decide +kernel⟩
-- either cells []
abbrev s_both : Stmt := topS 27
theorem sc_both : FnScope ["one", "other", "a", "b"] ["one", "other"] (defScope s_both) := ⟨rfl, rfl, rfl, by decide +kernel, rfl, by decide +kernel, by decide +kernel⟩
-- both cells []
abbrev s_Marks_init : Stmt := inClass (topS 28) 0
theorem sc_Marks_init : FnScope ["self", "many"] ["self", "many"] (defScope s_Marks_init) := ⟨rfl, rfl, rfl, by decide +kernel, rfl, by decide +kernel, by decide +kernel⟩
-- Marks_init cells []
abbrev s_Marks_read : Stmt := inClass (topS 28) 1
theorem sc_Marks_read : FnScope ["many", "data", "marks", "number", "k"] ["many", "data"] (defScope s_Marks_read) := ⟨rfl, rfl, rfl, by decide +kernel, rfl, by decide +kernel, by decide +kernel⟩
-- Marks_read cells []
abbrev s_Marks_raw : Stmt := inClass (topS 28) 2
theorem sc_Marks_raw : FnScope ["self", "number", "k"] ["self"] (defScope s_Marks_raw) := ⟨rfl, rfl, rfl, by decide +kernel, rfl, by decide +kernel, by decide +kernel⟩
-- Marks_raw cells []
abbrev s_Marks_pages : Stmt := inClass (topS 28) 3
theorem sc_Marks_pages : FnScope ["self", "k", "flag"] ["self"] (defScope s_Marks_pages) := ⟨rfl, rfl, rfl, by decide +kernel, rfl, by decide +kernel, by decide +kernel⟩
-- Marks_pages cells []
abbrev s_Marks_twin : Stmt := inClass (topS 28) 4
theorem sc_Marks_twin : FnScope ["self"] ["self"] (defScope s_Marks_twin) := ⟨rfl, rfl, rfl, by decide +kernel, rfl, by decide +kernel, by decide +kernel⟩
-- Marks_twin cells []
abbrev s_Marks_len : Stmt := inClass (topS 28) 5
theorem sc_Marks_len : FnScope ["self"] ["self"] (defScope s_Marks_len) := ⟨rfl, rfl, rfl, by decide +kernel, rfl, by decide +kernel, by decide +kernel⟩
-- Marks_len cells []
abbrev s_Marks_iter : Stmt := inClass (topS 28) 6
theorem sc_Marks_iter : FnScope ["self"] ["self"] (defScope s_Marks_iter) := ⟨rfl, rfl, rfl, by decide +kernel, rfl, by decide +kernel, by decide +kernel⟩
-- Marks_iter cells []
abbrev s_Marks_getitem : Stmt := inClass (topS 28) 7
theorem sc_Marks_getitem : FnScope ["self", "at"] ["self", "at"] (defScope s_Marks_getitem) := ⟨rfl, rfl, rfl, by decide +kernel, rfl, by decide +kernel, by decide +kernel⟩
-- Marks_getitem cells []
abbrev s_Marks_setitem : Stmt := inClass (topS 28) 8
theorem sc_Marks_setitem : FnScope ["self", "at", "value"] ["self", "at", "value"] (defScope s_Marks_setitem) := ⟨rfl, rfl, rfl, by decide +kernel, rfl, by decide +kernel, by decide +kernel⟩
-- Marks_setitem cells []
abbrev s_Marks_or : Stmt := inClass (topS 28) 9
theorem sc_Marks_or : FnScope ["self", "other"] ["self", "other"] (defScope s_Marks_or) := ⟨rfl, rfl, rfl, by decide +kernel, rfl, by decide +kernel, by decide +kernel⟩
-- Marks_or cells []
abbrev s_Marks_and : Stmt := inClass (topS 28) 10
theorem sc_Marks_and : FnScope ["self", "other"] ["self", "other"] (defScope s_Marks_and) := ⟨rfl, rfl, rfl, by decide +kernel, rfl, by decide +kernel, by decide +kernel⟩
-- Marks_and cells []
abbrev s_Marks_ior : Stmt := inClass (topS 28) 11
theorem sc_Marks_ior : FnScope ["self", "other"] ["self", "other"] (defScope s_Marks_ior) := ⟨rfl, rfl, rfl, by decide +kernel, rfl, by decide +kernel, by decide +kernel⟩
-- Marks_ior cells []
abbrev s_Marks_iand : Stmt := inClass (topS 28) 12
theorem sc_Marks_iand : FnScope ["self", "other"] ["self", "other"] (defScope s_Marks_iand) := ⟨rfl, rfl, rfl, by decide +kernel, rfl, by decide +kernel, by decide +kernel⟩
-- Marks_iand cells []
abbrev s_Marks_eq : Stmt := inClass (topS 28) 13
theorem sc_Marks_eq : FnScope ["self", "other"] ["self", "other"] (defScope s_Marks_eq) := ⟨rfl, rfl, rfl, by decide +kernel, rfl, by decide +kernel, by decide +kernel⟩
-- Marks_eq cells []
abbrev s_Marks_le : Stmt := inClass (topS 28) 14
theorem sc_Marks_le : FnScope ["self", "other", "a", "b"] ["self", "other"] (defScope s_Marks_le) := ⟨rfl, rfl, rfl, by decide +kernel, rfl, by decide +kernel, by decide +kernel⟩
-- Marks_le cells []
abbrev s_law_pot : Stmt := topS 30
theorem sc_law_pot : FnScope ["script", "cell"] ["script"] (defScope s_law_pot) := ⟨rfl, rfl, rfl, by decide +kernel, rfl, by decide +kernel, by decide +kernel⟩
-- law_pot cells []
abbrev s_law_draw : Stmt := topS 31
theorem sc_law_draw : FnScope ["pot", "many", "cells", "at", "cell"] ["pot", "many"] (defScope s_law_draw) := ⟨rfl, rfl, rfl, by decide +kernel, rfl, by decide +kernel, by decide +kernel⟩
-- law_draw cells []
abbrev s_law_writer : Stmt := topS 32
theorem sc_law_writer : FnScope ["pot", "drawn"] ["pot"] (defScope s_law_writer) := ⟨rfl, rfl, rfl, by decide +kernel, rfl, by decide +kernel, by decide +kernel⟩
-- law_writer cells []
abbrev s_law_numbers : Stmt := topS 33
theorem sc_law_numbers : FnScope ["fields", "numbers", "pair"] ["fields"] (defScope s_law_numbers) := ⟨rfl, rfl, rfl, by decide +kernel, rfl, by decide +kernel, by decide +kernel⟩
-- law_numbers cells []
abbrev s_law_byte : Stmt := topS 34
theorem sc_law_byte : FnScope ["value", "marks", "k"] ["value"] (defScope s_law_byte) := ⟨rfl, rfl, rfl, by decide +kernel, rfl, by decide +kernel, by decide +kernel⟩
-- law_byte cells []
abbrev s_law_data : Stmt := topS 35
theorem sc_law_data : FnScope ["numbers", "data", "number"] ["numbers"] (defScope s_law_data) := ⟨rfl, rfl, rfl, by decide +kernel, rfl, by decide +kernel, by decide +kernel⟩
-- law_data cells []
abbrev s_law_due : Stmt := topS 36
theorem sc_law_due : FnScope ["numbers", "at"] ["numbers"] (defScope s_law_due) := ⟨rfl, rfl, rfl, by decide +kernel, rfl, by decide +kernel, by decide +kernel⟩
-- law_due cells []
abbrev s_law_told : Stmt := topS 37
theorem sc_law_told : FnScope ["data", "told", "e"] ["data"] (defScope s_law_told) := ⟨rfl, rfl, rfl, by decide +kernel, rfl, by decide +kernel, by decide +kernel⟩
-- law_told cells []
abbrev s_law_bent : Stmt := topS 38
theorem sc_law_bent : FnScope ["pot", "numbers", "k", "word", "at", "value"] ["pot", "numbers"] (defScope s_law_bent) := ⟨rfl, rfl, rfl, by decide +kernel, rfl, by decide +kernel, by decide +kernel⟩
-- law_bent cells []
abbrev s_law : Stmt := topS 39
theorem sc_law : FnScope ["script", "pot", "fields", "numbers", "data", "due", "told", "other", "k"] ["script"] (defScope s_law) := ⟨rfl, rfl, rfl, by decide +kernel, rfl, by decide +kernel, by decide +kernel⟩
-- law cells ['pot']
end Toy
set_option Elab.async false
set_option linter.all false
set_option maxRecDepth 100000
set_option maxHeartbeats 2000000
namespace Toy
open PySem PySem.Spec PyProof.Rows L2
/-! ### heaps -/
theorem same_upd {H : Hp} {p : Addr} {o : HO} (h : H p = none) : Same H (upd H p o) := fun b x e => by
  rw [upd_ne (ne_of_none e h)]
  exact e
/-! ### moments as numbers -/
def mo (n : Nat) : List (Str × V) := [("_number", .int n)]
def MoAt (C : Addr) (H : Hp) (p : Addr) (n : Nat) : Prop := n < 2147483648 ∧ ∃ dx, H p = some (.ins C dx (mo n))
theorem MoAt.same {C : Addr} {H H' : Hp} {p : Addr} {n : Nat} (h : MoAt C H p n) (s : Same H H') : MoAt C H' p n := ⟨h.1, h.2.imp fun _ e => s _ _ e⟩
def vi (k : Nat) : V := .int k
def bits (n : Nat) : List Nat := (List.range 31).filter fun k => n.testBit k
/-- what the text says of the class and the names -/
structure Txt (K : PySem.W.Frag) (mg : Str → Option Value) (C : Addr) : Prop where
  cl : Cls K C
  nN : NoAttr K C "_number"
  mgC : mg "Moment" = some (.ref C)
  len : mg "len" = none
  int : mg "int" = none
  bool : mg "bool" = none
  isi : mg "isinstance" = none
  range : mg "range" = none
  sum : mg "sum" = none
  list : mg "list" = none
  cC : PySem.W.findIn K (.ref C) "__class__" = some (some (.builtin "object.__class__"))
  cG : PySem.W.specialIn K (.builtin "object.__class__") "__get__" = some (some (.builtin "getset_descriptor.__get__"))
  cT : PySem.W.takesIn K (.builtin "object.__class__") = some true
  cM : PySem.W.mroIn K C (.type "object") = some true
  kCC : PySem.W.kitOne K (.ref C) (.ref C) = some true
  kIC : PySem.W.kitOne K (.type "int") (.ref C) = some false
  lw : ∃ t, mg "LAST_WRITER" = some (.int 30 t)
  ln : ∃ t, mg "LAST_NUMBER" = some (.int 2147483647 t)
section
variable {P : Program} {w : World} {K : PySem.W.Frag} {mg : Str → Option Value} {base : Heap} {C : Addr}
/-! ### is_whole -/
def spWhole : Sp := fun vs H Q _ => ∃ i : Int, vs = [.int i] ∧ Q (.bl true) H
theorem ok_is_whole {f : Addr} {fd : FuncData} (F : Fun K "is_whole" "is_whole" s_is_whole f fd) (T : Txt K mg C) : FnOk P w K mg base CX0 1 f fd ["value"] spWhole := by
  refine F.ok sc_is_whole (fun vs H Q E h => ?_) (fun cdv A outer s H vs Q E hr h => ?_)
  · obtain ⟨i, rfl, _⟩ := h
    rfl
  · obtain ⟨i, rfl, q⟩ := h
    refine ⟨_, pss_one (ps_ret (pe_and (pe_callB call_isi (by rfl) T.isi (by decide +kernel) (pa_cons (pv 0) (pa_cons (pe_bltn (v := .ty "int") (by rfl) T.int (by decide +kernel) rfl) pa_nil)))
      (pe_one (pe_not (pe_callB call_isi (by rfl) T.isi (by decide +kernel) (pa_cons (pv 0) (pa_cons (pe_bltn (v := .ty "bool") (by rfl) T.bool (by decide +kernel) rfl) pa_nil))))))), ?_⟩
    refine ⟨_, rfl, .int i, .ty "int", _, _, true, rfl, .ty _, .base (.int i), kit_ty (by decide +kernel), true, rfl, iteT ?_⟩
    exact ⟨_, rfl, .int i, .ty "bool", _, _, false, rfl, .ty _, .base (.int i), kit_ty (by decide +kernel), false, rfl, q⟩
/-! ### is_between -/
def spBetw : Sp := fun vs H Q _ => ∃ i l h : Int, vs = [.int i, .int l, .int h] ∧ Q (.bl (decide (l ≤ i ∧ i ≤ h))) H
theorem ok_is_between {f fW : Addr} {fd fdW : FuncData} (F : Fun K "is_between" "is_between" s_is_between f fd) (T : Txt K mg C) (FW : Fun K "is_whole" "is_whole" s_is_whole fW fdW) (bW : L2.Binds K fdW ["value"] []) (gW : mg "is_whole" = some (.ref fW)) :
    FnOk P w K mg base CX0 2 f fd ["value", "low", "high"] spBetw := by
  have GW : FnOk P w K mg base CX0 1 fW fdW ["value"] spWhole := ok_is_whole FW T
  refine F.ok sc_is_between (fun vs H Q E h => ?_) (fun cdv A outer s H vs Q E hr h => ?_)
  · obtain ⟨i, l, h, rfl, _⟩ := h
    rfl
  · obtain ⟨i, l, u, rfl, q⟩ := h
    refine ⟨_, pss_one (ps_ret (pe_and (pe_call GW hr (by rfl) gW FW.kp bW .nil pass0 (pa_cons (pv 0) pa_nil)) (pe_one (pe_chain op_le op_le (pv 1) (pv 0) (pv 2))))), ?_⟩
    refine ⟨_, rfl, i, rfl, true, rfl, iteT ?_⟩
    refine ⟨_, rfl, _, rfl, l, i, rfl, rfl, decide (l ≤ i), rfl, ?_⟩
    by_cases h1 : l ≤ i
    · rw [decide_eq_true h1]
      refine iteT ⟨_, rfl, i, u, rfl, rfl, ?_⟩
      have e : decide (l ≤ i ∧ i ≤ u) = decide (i ≤ u) := by by_cases h2 : i ≤ u <;> simp [h1, h2]
      rw [e] at q
      exact q
    · rw [decide_eq_false h1]
      have e : decide (l ≤ i ∧ i ≤ u) = false := by simp [h1]
      rw [e] at q
      exact iteF q
end
end Toy
set_option Elab.async false
set_option linter.all false
set_option maxRecDepth 100000
set_option maxHeartbeats 2000000
namespace Toy
open PySem PySem.Spec PyProof.Rows L2
/-! ### the mathematics of bits -/
theorem bits_succ (p : Nat → Bool) (i : Nat) : (List.range (i + 1)).filter p = if p i = true then (List.range i).filter p ++ [i] else (List.range i).filter p := by
  rw [List.range_succ, List.filter_append]
  by_cases h : p i = true
  · rw [if_pos h, List.filter_cons_of_pos h]
    rfl
  · rw [if_neg h, List.filter_cons_of_neg h, List.filter_nil, List.append_nil]
theorem mod_succ (n i : Nat) : n % 2 ^ (i + 1) = n % 2 ^ i + (if n.testBit i = true then 2 ^ i else 0) := by
  rw [Nat.pow_succ, Nat.mod_mul, Nat.testBit_eq_decide_div_mod_eq]
  by_cases h : n / 2 ^ i % 2 = 1
  · rw [h, if_pos (by decide), Nat.mul_one]
  · have h0 : n / 2 ^ i % 2 = 0 := by omega
    rw [h0, if_neg (by decide), Nat.mul_zero]
theorem sum_bits (n : Nat) : ∀ i : Nat, (((List.range i).filter fun k => n.testBit k).map fun k => ((2 ^ k : Nat) : Int)).sum = ((n % 2 ^ i : Nat) : Int)
  | 0 => by simp [Nat.mod_one]
  | i + 1 => by
    have ih := sum_bits n i
    rw [bits_succ, mod_succ]
    by_cases h : n.testBit i = true
    · rw [if_pos h, if_pos h, List.map_append, List.sum_append, ih]
      simp
    · rw [if_neg h, if_neg h, ih]
      simp
theorem mem_bits {n k : Nat} : k ∈ bits n ↔ k < 31 ∧ n.testBit k = true := by
  unfold bits
  rw [List.mem_filter, List.mem_range]
theorem inV_vi (k : Nat) (ws : List Nat) : inV (vi k) (ws.map vi) = decide (k ∈ ws) := by
  unfold inV
  induction ws with
  | nil => rfl
  | cons a r ih =>
    rw [List.map_cons, List.any_cons, ih]
    show ((((a : Nat) : Int) == ((k : Nat) : Int)) || decide (k ∈ r)) = decide (k ∈ a :: r)
    by_cases h : a = k
    · subst h
      simp
    · have h1 : (((a : Nat) : Int) == ((k : Nat) : Int)) = false := by
        simp
        omega
      rw [h1]
      have h2 : k ≠ a := fun e => h e.symm
      simp [h2]
theorem flat_vi (ws : List Nat) : (ws.map vi).all flatV = true := by
  rw [List.all_map]
  simp [Function.comp, vi, flatV]
theorem filter_bits_mem (n : Nat) (i : Nat) (hi : i ≤ 31) : (List.range i).filter (fun k => decide (k ∈ bits n)) = (List.range i).filter (fun k => n.testBit k) := by
  apply List.filter_congr
  intro k hk
  have h : k < 31 := Nat.lt_of_lt_of_le (List.mem_range.mp hk) hi
  by_cases b : n.testBit k = true
  · rw [b]
    exact decide_eq_true (mem_bits.mpr ⟨h, b⟩)
  · have b' : n.testBit k = false := by simpa using b
    rw [b']
    exact decide_eq_false fun z => b (mem_bits.mp z).2
theorem bit_test (n k : Nat) : ((Builtin.bitAnd ((n : Int) / 2 ^ k) 1 : Int) != 0) = n.testBit k := by
  have e : ((n : Int) / 2 ^ k) = ((n / 2 ^ k : Nat) : Int) := by simp
  rw [e, bitAnd_pp (Int.natCast_nonneg _) (by decide), Int.toNat_natCast]
  show (((n / 2 ^ k &&& 1 : Nat) : Int) != 0) = _
  rw [Nat.testBit_eq_decide_div_mod_eq, Nat.and_one_is_mod]
  by_cases h : n / 2 ^ k % 2 = 1
  · rw [h]
    decide
  · have h0 : n / 2 ^ k % 2 = 0 := by omega
    rw [h0]
    decide
section
variable {P : Program} {w : World} {K : PySem.W.Frag} {mg : Str → Option Value} {base : Heap} {C : Addr}
/-! ### is_writer_number -/
def spIsW : Sp := fun vs H Q _ => ∃ i : Int, vs = [.int i] ∧ Q (.bl (decide (0 ≤ i ∧ i ≤ 30))) H
theorem ok_is_writer {f fB : Addr} {fd fdB : FuncData} (F : Fun K "is_writer_number" "is_writer_number" s_is_writer_number f fd) (T : Txt K mg C) (GB : FnOk P w K mg base CX0 2 fB fdB ["value", "low", "high"] spBetw) (kB : PySem.W.keepIn K (.ref fB) = true)
    (bB : L2.Binds K fdB ["value", "low", "high"] []) (gB : mg "is_between" = some (.ref fB)) : FnOk P w K mg base CX0 3 f fd ["value"] spIsW := by
  obtain ⟨t, lw⟩ := T.lw
  refine F.ok sc_is_writer_number (fun vs H Q E h => ?_) (fun cdv A outer s H vs Q E hr h => ?_)
  · obtain ⟨i, rfl, _⟩ := h
    rfl
  · obtain ⟨i, rfl, q⟩ := h
    refine ⟨_, pss_one (ps_ret (pe_call GB hr (by rfl) gB kB bB .nil pass0 (pa_cons (pv 0) (pa_cons pe_int (pa_cons (pe_glob (v := .int 30) (by rfl) lw ⟨_, rfl⟩) pa_nil))))), ?_⟩
    exact ⟨_, rfl, i, 0, 30, rfl, q⟩
/-! ### _number_of -/
/-- what stands on the right: a moment or a writer, with its number -/
def Arg (C : Addr) (H : Hp) (y : V) (m : Nat) : Prop := m < 2147483648 ∧ ((∃ b, y = .ref b ∧ MoAt C H b m) ∨ ∃ k : Nat, y = vi k ∧ k ≤ 30 ∧ m = 2 ^ k)
end
end Toy
set_option Elab.async false
set_option linter.all false
set_option maxRecDepth 100000
set_option maxHeartbeats 2000000
namespace Toy
open PySem PySem.Spec PyProof.Rows L2
/-! ### the pot of drawn numbers -/
def Pot (H : Hp) (p c : Addr) : Prop := ∃ (cs : List Int) (at_ : Nat) (x : Int), H p = some (.lst [.ref c, .int at_, .int x]) ∧ H c = some (.lst (cs.map V.int)) ∧ cs.length ≤ 63 ∧ 0 ≤ x ∧ x < 2147483647
theorem Pot.ne {H : Hp} {p c : Addr} (h : Pot H p c) : p ≠ c := by
  obtain ⟨cs, a, x, h1, h2, _⟩ := h
  intro e
  rw [e, h2] at h1
  injection h1 with h1
  injection h1 with h1
  cases cs with
  | nil => cases h1
  | cons y r => injection h1 with z; cases z
theorem Pot.same {H H' : Hp} {p c : Addr} (h : Pot H p c) (s : Same H H') : Pot H' p c := by
  obtain ⟨cs, a, x, h1, h2, r⟩ := h
  exact ⟨cs, a, x, s _ _ h1, s _ _ h2, r⟩
/-- all but the pot stays -/
def Kept (p c : Addr) (H H' : Hp) : Prop := ∀ b o, b ≠ p → b ≠ c → H b = some o → H' b = some o
theorem Kept.rfl' {p c : Addr} {H : Hp} : Kept p c H H := fun _ _ _ _ e => e
theorem Kept.trans {p c : Addr} {H H1 H2 : Hp} (a : Kept p c H H1) (b : Kept p c H1 H2) : Kept p c H H2 := fun x o n m e => b x o n m (a x o n m e)
theorem Kept.of_same {p c : Addr} {H H' : Hp} (s : Same H H') : Kept p c H H' := fun b o _ _ e => s b o e
theorem ixN_nat {n k : Nat} (h : k < n) : ixN n (k : Int) = some k := by
  unfold ixN
  rw [if_pos (Int.natCast_nonneg _), if_pos (by omega), Int.toNat_natCast]
theorem cut63 {xs : List V} (h : xs.length ≤ 63) : cutV xs none (some 63) = xs := by
  unfold cutV
  rw [HT.sIx_none, show HT.sIx xs.length xs.length (some 63) = min 63 xs.length from HT.sIx_nat xs.length xs.length 63, List.drop_zero, Nat.sub_zero]
  exact List.take_of_length_le (by omega)
section
variable {P : Program} {w : World} {K : PySem.W.Frag} {mg : Str → Option Value} {base : Heap} {C : Addr}
def spPot (K : PySem.W.Frag) : Sp := fun vs H Q _ => ∃ (a : Addr) (ns : List Int), vs = [.ref a] ∧ SqL K H a (ns.map V.int) ∧ ns.length ≤ 63 ∧ ∀ H' p c, Same H H' → H p = none → H c = none → Pot H' p c → Q (.ref p) H'
theorem ok_pot {f : Addr} {fd : FuncData} (F : Fun K "_law_pot" "_law_pot" s_law_pot f fd) (mi : mg "int" = none) : FnOk P w K mg base CX0 1 f fd ["script"] (spPot K) := by
  refine F.ok sc_law_pot (fun vs H Q E h => ?_) (fun cdv A outer s H vs Q E hr h => ?_)
  · obtain ⟨a, ns, rfl, _⟩ := h
    rfl
  · obtain ⟨a, ns, rfl, hS, hn, q⟩ := h
    refine ⟨_, pss_one (ps_ret (pe_lst (pa_cons (pe_lc (own := [("cell", 1)]) (g := gName 1) (tt := tYes) rfl sc_law_pot.nd (pi_list (pe_slice sl_list (pv 0) po_none (po_some pe_int)))
        (blkOk_by (own := [("cell", 1)]) (N := ["script", "cell"]) (sc := defScope s_law_pot) (by decide +kernel)) (fun _ _ _ _ _ => pg_name (i := 1) sc_law_pot.nd rfl (Or.inl rfl))
        (fun _ _ _ _ _ => pts_nil) (fun _ _ _ _ _ => pe_callTy call_int1 (by rfl) mi (by decide +kernel) (pa_cons (pv 1) pa_nil))) (pa_cons pe_int (pa_cons pe_int pa_nil))))), ?_⟩
    refine ⟨.ref a, rfl, 63, rfl, a, _, rfl, hS, fun b nb => ?_⟩
    rw [cut63 (by rw [List.length_map]; exact hn)]
    refine ⟨b, rfl, ⟨_, SqL.of upd_same⟩, fun D hD => ?_⟩
    have hb : (upd H b (.lst (ns.map V.int))) b = some (.lst (ns.map V.int)) := upd_same
    have s1 : Same H (upd H b (.lst (ns.map V.int))) := same_upd nb
    have hD0 : H D = none := s1.free hD
    refine lc_list (K := K) (a := b) (xs := ns.map V.int) (fun i H2 => Same (upd H b (.lst (ns.map V.int))) H2 ∧ H2 D = some (.lst ((ns.take i).map V.int))) ⟨same_upd hD, upd_same⟩ (fun i H2 _ z => SqL.of (z.1 _ _ hb)) ?_ ?_
    · rintro i x H2 hx ⟨s2, e2⟩
      obtain ⟨n, hi, rfl⟩ : ∃ n, ns[i]? = some n ∧ x = V.int n := by
        rw [List.getElem?_map] at hx
        cases e : ns[i]? with
        | none => rw [e] at hx; cases hx
        | some n => rw [e] at hx; exact ⟨n, rfl, (Option.some.inj hx).symm⟩
      refine ⟨rfl, ?_⟩
      refine ⟨_, rfl, .inl ⟨n, rfl, _, e2, ?_, fun d o e => ?_, ?_⟩⟩
      · rw [List.length_map, List.length_take]
        exact Nat.lt_of_le_of_lt (Nat.le_trans (Nat.min_le_right _ _) hn) (by decide)
      · rw [upd_ne (ne_of_none e hD)]
        exact s2 _ _ e
      · rw [upd_same, List.take_add_one, hi, List.map_append]
        rfl
    · rintro H2 ⟨s2, e2⟩
      rw [List.length_map, List.take_length] at e2
      refine ⟨(by show 3 ≤ sizeLine; decide), fun p np => ?_⟩
      have s3 : Same H (upd H2 p (.lst [.ref D, .int 0, .int 7])) := s1.trans (s2.trans (same_upd np))
      have hDp : D ≠ p := ne_of_none e2 np
      refine q _ p D s3 ((s1.trans s2).free np) hD0 ⟨ns, 0, 7, upd_same, by rw [upd_ne hDp]; exact e2, hn, by decide, by decide⟩
/-! ### a draw -/
def spDraw : Sp := fun vs H Q _ => ∃ (p c : Addr) (m : Int), vs = [.ref p, .int m] ∧ Pot H p c ∧ 0 < m ∧ m ≤ 1000000000000 ∧ ∀ H' r, Pot H' p c → Kept p c H H' → 0 ≤ r → r < m → Q (.int r) H'
theorem fmod_lt {a m : Int} (h : 0 < m) : 0 ≤ a.fmod m ∧ a.fmod m < m := by
  rw [Int.fmod_eq_emod_of_nonneg _ (Int.le_of_lt h)]
  exact ⟨Int.emod_nonneg _ (by omega), Int.emod_lt_of_pos _ h⟩
def nxt (x cell : Int) : Int := (x * 48271 + cell * 69621 + 11).fmod 2147483647
theorem ok_draw {f : Addr} {fd : FuncData} (F : Fun K "_law_draw" "_law_draw" s_law_draw f fd) (mi : mg "int" = none) (ml : mg "len" = none) : FnOk P w K mg base CX0 1 f fd ["pot", "many"] spDraw := by
  refine F.ok sc_law_draw (fun vs H Q E h => ?_) (fun cdv A outer s H vs Q E hr h => ?_)
  · obtain ⟨p, c, m, rfl, _⟩ := h
    rfl
  · obtain ⟨p, c, m, rfl, hP, hm, hm2, q⟩ := h
    refine ⟨_, pss_cons (ps_set (i := 2) sc_law_draw.nd rfl (Or.inl rfl) (pe_ix ix_list (pv 0) pe_int (fun _ _ => rfl)))
      (pss_cons (ps_set (i := 3) sc_law_draw.nd rfl (Or.inl rfl) (pe_ix ix_list (pv 0) pe_int (fun _ _ => rfl)))
      (pss_cons (ps_set (i := 4) sc_law_draw.nd rfl (Or.inl rfl) pe_int)
      (C8.pss_cut (ps_if (pt_cmpR op_lt (pv 3) (pe_callB call_len_seq (by rfl) ml PySem.boot_len (pa_cons (pv 2) pa_nil)) (nomark _))
        (pss_cons (ps_set (i := 4) sc_law_draw.nd rfl (Or.inl rfl) (pe_ix ix_list (pv 2) (pv 3) (fun _ _ => rfl)))
        (pss_cons (ps_if (pt_cmpR op_ge (pv 4) (pe_op op_pow pe_int pe_int) (nomark _))
          (pss_cons (ps_asg (pe_op op_fdivW (pv 4) (pv 1)) (pg_sub (pv 2) (pv 3) set_list))
          (pss_one (ps_ret (pe_op op_modN (pe_callTy call_int1 (by rfl) mi (by decide +kernel) (pa_cons (pv 4) pa_nil)) (pv 1))))) pss_nil)
        (pss_one (ps_asg (pe_op op_add (pv 3) pe_int) (pg_sub (pv 0) pe_int set_list))))) pss_nil)
      (pss_cons (ps_asg (pe_op op_modN (pe_callTy call_int1 (by rfl) mi (by decide +kernel) (pa_cons (pe_op op_add (pe_op op_add (pe_op op_mul (pe_ix ix_list (pv 0) pe_int (fun _ _ => rfl)) pe_int) (pe_op op_mul (pv 4) pe_int)) pe_int) pa_nil)) pe_int) (pg_sub (pv 0) pe_int set_list))
      (pss_one (ps_ret (pe_op op_modN (pe_callTy call_int1 (by rfl) mi (by decide +kernel) (pa_cons (pe_op op_add (pe_op op_fdivN (pe_op op_mul (pe_ix ix_list (pv 0) pe_int (fun _ _ => rfl)) pe_int) pe_int) (pe_ix ix_list (pv 0) pe_int (fun _ _ => rfl))) pa_nil)) (pv 1)))))))), ?_⟩
    have pc : p ≠ c := hP.ne
    obtain ⟨cs, at_, x, h1, h2, hl, x0, x1⟩ := hP
    refine ⟨_, rfl, p, _, _, _, rfl, rfl, SqL.of h1, rfl, ?_⟩
    refine ⟨_, rfl, p, _, _, _, rfl, rfl, SqL.of h1, rfl, ?_⟩
    refine ⟨fun σ' H' => ∃ (a : Nat) (cell : Int), σ' = [some (.ref p), some (.int m), some (.ref c), some (.int at_), some (.int cell)] ∧ H' p = some (.lst [.ref c, .int a, .int x]) ∧ H' c = some (.lst (cs.map V.int)) ∧ Kept p c H H', ?_, ?_⟩
    · refine ⟨_, rfl, _, rfl, c, _, rfl, .inl (SqL.of h2), _, _, rfl, rfl, _, rfl, ?_⟩
      rw [List.length_map]
      refine ite2 (fun hlt => ?_) (fun _ => ⟨at_, 0, rfl, h1, h2, Kept.rfl'⟩)
      have hi : at_ < cs.length := by have := of_decide_eq_true hlt; omega
      have hg : (cs.map V.int)[at_]? = some (.int cs[at_]) := by rw [List.getElem?_map, List.getElem?_eq_getElem hi]; rfl
      refine ⟨_, rfl, _, rfl, c, _, _, _, rfl, rfl, SqL.of h2, atI_nat hg, ?_⟩
      refine ⟨_, rfl, 10, 18, rfl, rfl, ⟨by decide, by decide, by decide⟩, _, _, rfl, rfl, _, rfl, ?_⟩
      refine ite2 (fun _ => ?_) (fun _ => ?_)
      · refine ⟨_, rfl, _, rfl, _, _, rfl, rfl, wide_div (b := 42) hm (by omega) (by decide) (by decide), _, rfl, _, rfl, c, _, _, at_, rfl, rfl, h2, ixN_nat (by rw [List.length_map]; exact hi), ?_⟩
        refine ⟨_, rfl, .inl ⟨_, rfl, _, rfl, _, _, rfl, rfl, by omega, ?_⟩⟩
        have f := fmod_lt (a := cs[at_]) hm
        refine q _ _ ⟨cs.set at_ (cs[at_] / m), at_, x, by rw [upd_ne pc]; exact h1, ?_, by rw [List.length_set]; exact hl, x0, x1⟩ (fun b o n1 n2 e => ?_) f.1 f.2
        · rw [upd_same, List.map_set]
        · rw [upd_ne n2]
          exact e
      · refine ⟨_, rfl, _, _, rfl, rfl, _, rfl, p, _, _, 1, rfl, rfl, h1, rfl, ?_⟩
        refine ⟨at_ + 1, cs[at_], rfl, ?_, by rw [upd_ne pc.symm]; exact h2, fun b o n1 n2 e => ?_⟩
        · rw [upd_same]
          rfl
        · rw [upd_ne n1]
          exact e
    · rintro σ' H1 ⟨a, cell, rfl, g1, g2, kp⟩
      refine ⟨_, rfl, p, _, _, _, rfl, rfl, SqL.of g1, rfl, _, _, rfl, rfl, .inl ⟨by omega, by omega⟩, _, rfl, _, _, rfl, rfl, .inr ⟨by decide, by decide⟩, _, _, rfl, rfl, _, _, rfl, rfl, .inl ⟨_, rfl, _, _, rfl, rfl, (show (2147483647 : Int) ≠ 0 by decide), _, rfl, p, _, _, 2, rfl, rfl, g1, rfl, ?_⟩⟩
      have fy : 0 ≤ nxt x cell ∧ nxt x cell < 2147483647 := fmod_lt (by decide)
      have g3 : (upd H1 p (.lst ([V.ref c, V.int a, V.int x].set 2 (V.int (nxt x cell))))) p = some (.lst [V.ref c, V.int a, V.int (nxt x cell)]) := upd_same
      refine ⟨_, rfl, p, _, _, _, rfl, rfl, SqL.of g3, rfl, _, _, rfl, rfl, .inl ⟨by omega, by omega⟩, _, _, rfl, rfl, ⟨by decide, by decide⟩, _, rfl, p, _, _, _, rfl, rfl, SqL.of g3, rfl, _, _, rfl, rfl, .inl ⟨_, rfl, _, rfl, _, _, rfl, rfl, by omega, ?_⟩⟩
      have f := fmod_lt (a := (nxt x cell * 16807).fdiv 128 + nxt x cell) hm
      refine q _ _ ⟨cs, a, nxt x cell, g3, by rw [upd_ne pc.symm]; exact g2, hl, fy.1, fy.2⟩ (fun b o n1 n2 e => ?_) f.1 f.2
      rw [upd_ne n1]
      exact kp b o n1 n2 e
end
end Toy
set_option Elab.async false
set_option linter.all false
set_option maxRecDepth 100000
set_option maxHeartbeats 2000000
namespace Vx
open PySem PySem.Spec PyProof.Rows L2
section
variable {X : Cx} {CX : CXT} {k : Nat} {C f : Addr} {sp : Sp} {E : XK} {pins : List (Addr × Obj)} {σ : L2.St} {H : Hp} {s : Shared} {Q : VK} {A : Around}
/-- a def called somewhere below the running body -/
theorem run_in {us : List Value} {vs : List V} (sb : Sub X k A) (F : FnR X.prog X.w X.K X.mg X.base CX k f sp) (hx : Passes CX X E) (I : L2.Inv X pins σ H s) (r : Vals vs us) (h : sp vs H Q E) :
    codeAny (model X.prog X.w) A (.call (.ref f) ⟨us, []⟩) (fun r s' => match r with | .ok (.ret v) => EP X pins σ Q v s' | .ok _ => False | .error e => X.xe e s') s := by
  have e0 : Env0 X.prog X.w X.K X.mg X.base A X.stack s H := by
    have e := I.env0
    exact ⟨by rw [sb.fr]; exact e.frames, e.mod, e.bs, e.bsz, e.funs, e.frf, e.hok, e.bare⟩
  refine codeAny_mono (F A X.stack s H us vs Q E sb.room e0 r h) fun r s' hq => ?_
  cases r with
  | error e => exact hx pins σ H s e s' I hq
  | ok fl =>
    cases fl with
    | ret u => exact I.after hq
    | next => exact False.elim hq
    | brk => exact False.elim hq
    | cont => exact False.elim hq
end
section
variable {prog : Program} {w : World} {A : Around} {E : Value → Shared → Prop} {s : Shared} {K : PySem.W.Frag} {x C L f : Addr} {h₀ : Heap} {m : Str → Option Value} {ox : Obj} {od : Option Obj} {b : Value}
open PySem.W in
theorem ne_body (hu : A.units < cLine) (X : K.In s.heap) (I : InstAt s.heap x ox C od) (he : findIn K (.ref C) "__eq__" = some (some (.ref f))) (hf : isFn K (.ref f) = true) {Q : Value → Shared → Prop}
    (h : wpAny (model prog w) A (call (.ref f) [.ref x, b]) (fun v s' => ∃ r, v = .bool r ∧ Q (.bool (!r)) s') E s) :
    wpAny (model prog w) A (Builtin.«object.__ne__» ⟨[.ref x, b], []⟩) (fun fin s' => ∃ v, fin = .done (.ret v) ∧ Q v s') E s := by
  unfold Builtin.«object.__ne__»
  obtain ⟨hh, g, d, t, os⟩ := s
  have st : wpAny (model prog w) A (callSpecialIfBound? (.ref x) "__eq__" [b]) (fun r s' => ∃ v, r = some (.bool v) ∧ Q (.bool (!v)) s') E ⟨hh, g, d, t, os⟩ :=
    ifBound_K X I he hf (wpAny_mono h (fun v s' hv => by obtain ⟨r, rfl, q⟩ := hv; exact ⟨r, rfl, q⟩) fun _ _ z => z)
  repeat (first | with_reducible refine wpAny_cRoomFor hu ?_ | with_reducible refine wpAny_bind (wpAny_mono st (fun r s' hr => ?_) fun _ _ z => z) | wp_step)
  obtain ⟨v, rfl, q⟩ := hr
  refine wpAny_bind (wpAny_truthy_bool ?_)
  exact wpAny_pure ⟨_, rfl, q⟩
open PySem.W in
theorem ne_K {Q : Value → Shared → Prop} {tb : Value} (hu : A.units + 1 < cLine) (F : Fr h₀ L s.heap m) (X₀ : K.In h₀) (I : InstAt s.heap x ox C od) (hb : Looks (model prog w) s.heap (typeOf b) tb) (hn : notFirst K C tb = true)
    (hs : findIn K (.ref C) "__ne__" = some (some (.builtin "object.__ne__"))) (he : findIn K (.ref C) "__eq__" = some (some (.ref f))) (hf : isFn K (.ref f) = true) (ho : mroIn K C (.type "object") = some true)
    (h : wpAny (model prog w) A.in1 (call (.ref f) [.ref x, b]) (fun v s' => ∃ r, v = .bool r ∧ Q (.bool (!r)) s') E s) : wpAny (model prog w) A (richCompare .NotEq (.ref x) b) Q E s := by
  have X := X₀.keeps F.keep
  have hu0 : A.units < cLine := Nat.lt_trans (Nat.lt_succ_self _) hu
  have cb : wpAny (model prog w) A (call (.builtin "object.__ne__") ([.ref x] ++ [b])) (fun v s' => ∃ r, v = .bool r ∧ Q v s') E s := by
    refine wpAny_call (codeAny_call_builtin PySem.F.cmp_object.ne.plain PySem.F.cmpEntry_ne (check_slot PySem.F.cmpKind_ne PySem.F.cmpSplit_ne (I.type.andThen (looks_mroIn X ho)) (PySem.F.cmpArgs_ne _ _) ?_))
    have z : wpAny (model prog w) A.in1 (Builtin.«object.__ne__» ⟨[.ref x, b], []⟩) (fun fin s' => ∃ v, fin = .done (.ret v) ∧ ∃ r, v = .bool r ∧ Q v s') E s :=
      ne_body (Q := fun v s' => ∃ r, v = .bool r ∧ Q v s') (A := A.in1) hu X I he hf (wpAny_mono h (fun v s' hv => by obtain ⟨r, rfl, q⟩ := hv; exact ⟨r, rfl, _, rfl, q⟩) fun _ _ z => z)
    refine wpAny_mono z (fun fin s' hv => ?_) fun _ _ y => y
    obtain ⟨v, rfl, r, rfl, q⟩ := hv
    exact ⟨r, rfl, q⟩
  have one : wpAny (model prog w) A (tryCompare (.ref x) "__ne__" b) (fun r s' => ∃ v, r = some v ∧ Q v s') E s := by
    unfold tryCompare
    refine wpAny_bind ?_
    simp only [callSpecialIfBound?, bindSpecialIfBound?]
    refine wpAny_holding (wpAny_bind (wpAny_bind (wpAny_bind (I.type.here ((looks_findIn X hs).here ?_)))))
    simp only [PySem.F.cmp_object.ne.bind]
    refine wpAny_bind (wpAny_askSetting (wpAny_ite ?_))
    have fin : wpAny (model prog w) A (call (.builtin "object.__ne__") ([.ref x] ++ [b]) >>= fun v => pure (some v)) (fun r s' => ∃ v, r = some (.bool v) ∧ Q (.bool v) s') E s :=
      wpAny_bind (wpAny_mono cb (fun v s' h' => by obtain ⟨r, rfl, q⟩ := h'; exact wpAny_pure ⟨r, rfl, q⟩) fun _ _ h' => h')
    have fin2 := wpAny_mono fin (Q' := fun r s' => wpAny (model prog w) A (match r with | some .notImplemented => pure none | none => pure none | some v => pure (some v)) (fun r s' => ∃ v, r = some v ∧ Q v s') E s') (fun r s' h' => by obtain ⟨v, rfl, q⟩ := h'; exact wpAny_pure ⟨_, rfl, q⟩) fun _ _ z => z
    split
    · exact wpAny_bind (wpAny_pure (wpAny_pure fin2))
    · exact wpAny_tryCatch (wpAny_bind (wpAny_pure (wpAny_pure fin2)))
  unfold richCompare
  simp only [oneThing_ref]
  refine wpAny_holding (wpAny_bind (wpAny_cRoomFor hu0 ?_))
  refine wpAny_bind (I.type.here (wpAny_bind (hb.here ?_)))
  split
  · rename_i q
    have e : subIn K tb (.ref C) = some false := by
      rcases Bool.or_eq_true_iff.mp hn with e | e
      · rw [beq_iff_eq.mp e] at q; simp at q
      · exact beq_iff_eq.mp e
    refine wpAny_bind ((looks_subIn X e).here ?_)
    simp only [Bool.false_eq_true, if_false]
    refine wpAny_bind (wpAny_mono one (fun r s' z => ?_) fun _ _ e => e)
    obtain ⟨v, rfl, hq⟩ := z
    exact wpAny_pure hq
  · refine wpAny_bind (wpAny_pure ?_)
    simp only [Bool.false_eq_true, if_false]
    refine wpAny_bind (wpAny_mono one (fun r s' z => ?_) fun _ _ e => e)
    obtain ⟨v, rfl, hq⟩ := z
    exact wpAny_pure hq
end
section
variable {X : Cx} {CX : CXT} {k : Nat} {C f : Addr} {sp : Sp} {E : XK}
/-- o != y: not o == y, by the own == -/
def rNeOwn (C : Addr) (sp : Sp) (E : XK) : R2 := fun x y H Q => (∃ a dx fs, x = .ref a ∧ H a = some (.ins C dx fs)) ∧ (∃ b dy gs, y = .ref b ∧ H b = some (.ins C dy gs)) ∧ sp [x, y] H (fun v H' => ∃ r, v = .bl r ∧ Q (.bl (!r)) H') E
theorem op_neOwn (nf : PySem.W.notFirst X.K C (.ref C) = true) (hs : PySem.W.findIn X.K (.ref C) "__ne__" = some (some (.builtin "object.__ne__"))) (he : PySem.W.findIn X.K (.ref C) "__eq__" = some (some (.ref f))) (fn : PySem.W.isFn X.K (.ref f) = true)
    (ho : PySem.W.mroIn X.K C (.type "object") = some true) (F : FnR X.prog X.w X.K X.mg X.base CX k f sp) (hr : Room (k + 1) X.A) (hx : Passes CX X E) : OpR X (compareOp .NotEq) (rNeOwn C sp E) := by
  intro pins s σ H x y v u Q I rx ry hq
  obtain ⟨⟨a, dx, fs, rfl, ha⟩, ⟨b, dy, gs, rfl, hb⟩, hsp⟩ := hq
  have ev : v = Value.ref a := rx
  have eu : u = Value.ref b := ry
  have sb : Sub X k X.A.in1 := (⟨hr, rfl⟩ : Sub X (k + 1) X.A).in1
  have cl := wpAny_call (run_in (us := [v, u]) (vs := [V.ref a, V.ref b]) sb F hx I (.cons rx (.cons ry .nil)) hsp)
  subst ev eu
  obtain ⟨mA, J, _⟩ := ins_get I.hok ha
  obtain ⟨od, J, _⟩ := J.look
  obtain ⟨mB, J', _⟩ := ins_get I.hok hb
  obtain ⟨od', J', _⟩ := J'.look
  obtain ⟨m, hF⟩ := I.fr
  show wpAny (model X.prog X.w) X.A (richCompare .NotEq (.ref a) (.ref b)) (EP X pins σ Q) X.xe s
  refine ne_K (hu_of hr) hF I.ok.mod.kin J J'.type nf hs he fn ho (wpAny_mono cl (fun v s' hv => ?_) fun _ _ z => z)
  obtain ⟨v', H', I', rv, r, rfl, q⟩ := hv
  exact ⟨r, rv, .bl (!r), H', I', rfl, q⟩
end
end Vx
set_option Elab.async false
set_option linter.all false
set_option maxRecDepth 100000
set_option maxHeartbeats 2000000
/-! own errors: a base's __init__ said by the base's name; isinstance of what was caught; makings that may raise, within a try -/
namespace Vx
open PySem PySem.Spec PyProof.Rows L2
/-- the class at D, above an own error, whose __init__ is ValueError's -/
structure UpC (K : PySem.W.Frag) (D : Addr) (mc : Value) : Prop where
  rd : ClX.CRead K D mc
  ini : PySem.W.findCls K (.ref D) mc "__init__" = some (.val (.builtin "ValueError.__init__"))
def tUp (K : PySem.W.Frag) (D : Addr) (ta : TE) (t : TA) : TE := fun σ H Q => ta σ H fun x H1 => x = .ref D ∧ tVeI K t σ H1 Q
section
variable {X : Cx} {D : Addr} {mc : Value} {o e : Expr} {es : List Expr} {pos apos : Pos} {ta : TE} {t : TA} {pl : Sem Bool}
theorem pe_up (hO : PE X o ta) (U : UpC X.K D mc) (hA : PA X (e :: es) t) (h1 : starEach (e :: es) X.env = (false, eval e X.env) :: starEach es X.env := by rfl) (h2 : (backTo pos (starEach es X.env)).any (·.1) = false := by rfl)
    (hW : eval (.Call (.Attribute o "__init__" apos) (e :: es) [] pos) X.env = (do
      let ov ← eval o X.env
      standAt apos.atName
      let (f, first) ← holding [ov] (getMethod ov "__init__" pl)
      callWith pos f first (backTo pos (starEach (e :: es) X.env)) (backToKw pos (keywordEach [] X.env))) := by rfl) : PE X (.Call (.Attribute o "__init__" apos) (e :: es) [] pos) (tUp X.K D ta t) := by
  refine ⟨fun pn s σ H Q I h => PySem.W.methodCall_KW (pl := pl) (thn (hO.run pn s σ H _ I h) fun u s1 hh => ?_) hW⟩
  obtain ⟨x, H1, I1, rx, ex, q⟩ := hh
  subst ex
  obtain rfl : u = Value.ref D := rx
  refine PySem.W.method_cls I1.kIn U.rd.ga (PySem.W.cls_value I1.kIn U.rd.rd U.ini rfl ?_)
  refine PyProof.Rows.callWith_method1 (thn (hA.run pos pn _ σ H1 _ (I1.tok _) q) fun us s2 hh => ?_) h1 h2
  obtain ⟨vs, H2, I2, r2, a, C, ws, ev, hl, T, ea, q2⟩ := hh
  subst ev
  cases r2 with
  | @cons _ u0 _ ur ra rb =>
    obtain rfl : u0 = Value.ref a := ra
    exact oinit_ok T I2 ea (by rw [← Paired.length rb, sizeLine_eq]; omega) fun s3 J => ⟨.non, H2, J, rfl, q2⟩
end
/-! isinstance(e, c), e a caught error with its dict -/
structure ExcX (K : PySem.W.Frag) (C : Addr) : Prop where
  cl : (PySem.W.clsIn K C).isSome = true
  ga : PySem.W.findIn K (.ref C) "__getattribute__" = some (some (.builtin "BaseException.__getattribute__"))
  gt : PySem.W.findIn K (.ref C) "__getattr__" = some none
  sb : PySem.W.subIn K (.ref C) (.type "BaseException") = some true
  ac : PySem.W.findIn K (.ref C) "__class__" = some (some (.builtin "object.__class__"))
  gn : PySem.W.specialIn K (.builtin "object.__class__") "__get__" = some (some (.builtin "getset_descriptor.__get__"))
  tk : PySem.W.takesIn K (.builtin "object.__class__") = some true
  mo : PySem.W.mroIn K C (.type "object") = some true
def rIsX (K : PySem.W.Frag) (C a : Addr) (cls : Value) (d : Option Addr) : List V → Hp → VK → Prop := fun xs H Q => cls = .ref C ∧ ∃ (dd : Addr) (fs : List (Str × V)) (c : V) (cv : Value) (b : Bool), d = some dd ∧ H dd = some (.xd fs) ∧ xs = [.ref a, c] ∧ (∀ u, RelV c u → u = cv) ∧ PySem.W.kitOne K (.ref C) cv = some b ∧ Q (.bl b) H
theorem call_isX {X : Cx} {a C : Addr} {oe : Obj} {cls : Value} {d : Option Addr} {pn : List (Addr × Obj)} (T : ExcX X.K C) (hz : Zc cls d oe) (hf : ∃ vs, oe.data = .fields vs) : CallR (X.suite a ((a, oe) :: pn)) (.builtin "isinstance") (rIsX X.K C a cls d) := by
  intro pins s σ H xs us Q I r h
  obtain ⟨ec, dd, fs, c, cv, b, ed, hd, ex, hcv, e, q⟩ := h
  subst ec ed ex
  cases r with
  | cons rx rr =>
    cases rr with
    | cons rt rn =>
      cases rn
      cases rx
      obtain rfl := hcv _ rt
      obtain ⟨hget, _⟩ := I.pin (a, oe) (List.mem_append.mpr (.inl List.mem_cons_self))
      obtain ⟨vs, hv⟩ := hf
      have hx : ObjOk X.prog X.w H s.heap dd (.xd fs) := I.hok dd _ hd
      obtain ⟨mA, hns, _⟩ := hx
      obtain ⟨od, ho, _⟩ := lookIn_ns hns
      have J : PySem.W.InstAt s.heap a oe C (some od) := ⟨hget, hz.1, by unfold PySem.W.notCls; rw [hv] <;> rfl, by rw [hz.2]; exact ho⟩
      exact PySem.W.kia_one (PySem.W.kitx_exc T.cl T.ga T.gt T.sb T.ac T.gn T.tk T.mo) I.kIn J e (fun z => nomatch z) fun tk => ⟨.bl b, H, I.kept (t' := tk) fun _ _ z => z, rfl, q⟩
/-! makings and static calls that may raise, the wish at the caller's slots -/
section
variable {X : Cx} {CX : CXT} {k n : Nat} {f C : Addr} {fd : FuncData} {ps ks : List Str} {sp : Sp} {E : L2.St → XK} {x : Str} {p pos : Pos} {e : Expr} {es : List Expr} {kws : List Keyword} {t tk : TA} {g : List Value → List Value → List Value} {gV : List V → List V → List V}
def tMakeNS (C : Addr) (n m : Nat) (sp : Sp) (gV : List V → List V → List V) (E : L2.St → XK) (t tk : TA) : TE := fun σ H Q => t σ H fun vs H1 => tk σ H1 fun zs H2 => vs.length = n ∧ zs.length = m ∧
  ∀ y dy, H2 y = none → H2 dy = none → dy ≠ y → sp (gV (.ref y :: vs) zs) (upd (upd H2 dy (.own y)) y (.ins C dy [])) (fun v H3 => v = .non ∧ Q (.ref y) H3) (E σ)
theorem run_makeNS {pn : List (Addr × Obj)} {σ : L2.St} {H : Hp} {s : Shared} {Q : VK} {us ws : List Value} {vs zs : List V} (M : Mk X.K C f) (F : FnOk X.prog X.w X.K X.mg X.base CX k f fd ps sp) (hr : Room (k + 1) X.A) (hb : KBn X.K fd ps (n + 1) ks g gV)
    (hx : PassesAt CX X σ (E σ)) (I : L2.Inv X pn σ H s) (ru : Vals vs us) (rw_ : Vals zs ws) (e1 : vs.length = n) (e2 : zs.length = ks.length)
    (h : ∀ y dy, H y = none → H dy = none → dy ≠ y → sp (gV (.ref y :: vs) zs) (upd (upd H dy (.own y)) y (.ins C dy [])) (fun v H3 => v = .non ∧ Q (.ref y) H3) (E σ)) : wpAny (model X.prog X.w) X.A (call (.ref C) us (ks.zip ws)) (EP X pn σ Q) X.xe s := by
  have J : L2.Inv X pn σ _ _ := L2.Inv.made (C := C) I
  have r1 : Vals (V.ref (s.heap.objs.size + 1) :: vs) (Value.ref (s.heap.objs.size + 1) :: us) := Paired.cons rfl ru
  have z1 : (Value.ref (s.heap.objs.size + 1) :: us).length = n + 1 := r1.length.symm.trans (congrArg (· + 1) e1)
  have z2 : ws.length = ks.length := rw_.length.symm.trans e2
  have hq := h (s.heap.objs.size + 1) s.heap.objs.size (I.hok.fresh (Nat.le_succ _)) (I.hok.fresh Nat.le.refl) (Nat.ne_of_lt (Nat.lt_succ_self _))
  have run := F.run _ X.stack _ _ ⟨Value.ref (s.heap.objs.size + 1) :: us, ks.zip ws⟩ (g (Value.ref (s.heap.objs.size + 1) :: us) ws) _ _ (E σ) (hr.make C us (ks.zip ws)) (J.env0.make C us (ks.zip ws)) (hb.to _ _ ws J.kIn z1 z2) (hb.rel r1 rw_) hq
  refine wpAny_call (make_map (f := f) I.kIn M.makes M.init (beq_iff_eq.mp M.fn) (codeAny_mono run fun r s2 z => ?_))
  match r, z with
  | .error er, z => exact hx pn _ _ er s2 J z
  | .ok (.ret u), z =>
    obtain ⟨v, H3, J3, rv, ev, q⟩ := J.after z
    subst ev
    exact ⟨rv, .ref (s.heap.objs.size + 1), H3, J3, rfl, q⟩
theorem pe_makeNS (M : Mk X.K C f) (F : FnOk X.prog X.w X.K X.mg X.base CX k f fd ps sp) (hr : Room (k + 1) X.A) (hg : Gl X x) (hm : X.mg x = some (.ref C)) (hb : KBn X.K fd ps (n + 1) ks g gV) (hx : ∀ σ, PassesAt CX X σ (E σ)) (hA : PA X (e :: es) t) (hK : PK X kws tk)
    (h1 : (backToKw pos (keywordEach kws X.env)).all (·.1.isSome) = true := by rfl) (h2 : (backToKw pos (keywordEach kws X.env)).filterMap (·.1) = ks := by rfl) (h3 : (x == ("__debug__" : Str)) = false := by decide)
    (h4 : starEach (e :: es) X.env = (false, eval e X.env) :: starEach es X.env := by rfl) (h5 : ((backTo pos (starEach (e :: es) X.env)).any (·.1) || (backToKw pos (keywordEach kws X.env)).any (·.1.isNone)) = false := by rfl) :
    PE X (.Call (.Name x p) (e :: es) kws pos) (tMakeNS C n ks.length sp gV E t tk) := by
  refine ⟨fun pn s σ H Q I h => wpAny_Call_Name_kw (ld_glob I hg hm ?_ h3)⟩
  refine PySem.W.callWith_KW (h₀ := X.base) I.ok.mod.kin M.kp h1 (thn (hA.run pos pn s σ H _ I h) fun us s1 hh => ?_) h5 h4
  obtain ⟨vs, H1, I1, r1, q⟩ := hh
  refine thn (hK.run pos pn s1 σ H1 _ I1 q) fun ws s2 hh => ?_
  obtain ⟨zs, H2, I2, r2, l1, l2, q2⟩ := hh
  refine ⟨I2.kIn, ?_⟩
  rw [h2]
  exact run_makeNS M F hr hb (hx σ) I2 r1 r2 l1 l2 q2
end
section
variable {X : Cx} {CX : CXT} {k : Nat} {f C : Addr} {sp : Sp} {E : L2.St → XK}
theorem run_fnRS {pn : List (Addr × Obj)} {σ : L2.St} {H : Hp} {s : Shared} {Q : VK} {us : List Value} {vs : List V} (F : FnR X.prog X.w X.K X.mg X.base CX k f sp) (hr : Room k X.A) (hx : PassesAt CX X σ (E σ)) (I : L2.Inv X pn σ H s) (r : Vals vs us) (h : sp vs H Q (E σ)) :
    wpAny (model X.prog X.w) X.A (call (.ref f) us) (EP X pn σ Q) X.xe s := by
  refine wpAny_call (codeAny_mono (F X.A X.stack s H us vs Q (E σ) hr I.env0 r h) fun z s2 y => ?_)
  match z, y with
  | .error er, y => exact hx pn H s er s2 I y
  | .ok (.ret u), y => exact I.after y
theorem run_makeRS {pn : List (Addr × Obj)} {σ : L2.St} {H : Hp} {s : Shared} {Q : VK} {us : List Value} {vs : List V} (M : Mk X.K C f) (F : FnR X.prog X.w X.K X.mg X.base CX k f sp) (hr : Room (k + 1) X.A) (hx : PassesAt CX X σ (E σ)) (I : L2.Inv X pn σ H s) (r : Vals vs us)
    (h : ∀ y dy, H y = Option.none → H dy = Option.none → dy ≠ y → sp (V.ref y :: vs) (upd (upd H dy (.own y)) y (.ins C dy [])) (fun v H2 => v = .non ∧ Q (.ref y) H2) (E σ)) : wpAny (model X.prog X.w) X.A (call (.ref C) us) (EP X pn σ Q) X.xe s := by
  have J : L2.Inv X pn σ _ _ := L2.Inv.made (C := C) I
  have r1 : Vals (V.ref (s.heap.objs.size + 1) :: vs) (Value.ref (s.heap.objs.size + 1) :: us) := Paired.cons rfl r
  have hq := h (s.heap.objs.size + 1) s.heap.objs.size (I.hok.fresh (Nat.le_succ _)) (I.hok.fresh Nat.le.refl) (Nat.ne_of_lt (Nat.lt_succ_self _))
  refine wpAny_call (make_map (f := f) I.kIn M.makes M.init (beq_iff_eq.mp M.fn) (codeAny_mono (F _ X.stack _ _ (Value.ref (s.heap.objs.size + 1) :: us) _ _ (E σ) (hr.make C us []) (J.env0.make C us []) r1 hq) fun z s2 y => ?_))
  match z, y with
  | .error er, y => exact hx pn _ _ er s2 J y
  | .ok (.ret u), y =>
    obtain ⟨v, H3, J3, rv, ev, q⟩ := J.after y
    subst ev
    exact ⟨rv, .ref (s.heap.objs.size + 1), H3, J3, rfl, q⟩
def tMethE (C : Addr) (m : Str) (sp : Sp) (E : L2.St → XK) (ta : TE) (t : TA) : TE := fun σ H Q => ta σ H fun x H1 => ∃ a dx fs, x = .ref a ∧ H1 a = some (.ins C dx fs) ∧ fs.lookup m = Option.none ∧ t σ H1 fun vs H2 => sp (.ref a :: vs) H2 Q (E σ)
theorem pe_methE {o e : Expr} {es : List Expr} {m : Str} {pos apos : Pos} {ta : TE} {t : TA} {pl : Sem Bool} (hO : PE X o ta) (c : Cls X.K C) (hm : Meth X.K C m f) (F : FnR X.prog X.w X.K X.mg X.base CX k f sp) (hr : Room k X.A) (hx : ∀ σ, PassesAt CX X σ (E σ)) (hA : PA X (e :: es) t)
    (h1 : starEach (e :: es) X.env = (false, eval e X.env) :: starEach es X.env := by rfl) (h2 : (backTo pos (starEach es X.env)).any (·.1) = false := by rfl)
    (hW : eval (.Call (.Attribute o m apos) (e :: es) [] pos) X.env = (do
      let ov ← eval o X.env
      standAt apos.atName
      let (f, first) ← holding [ov] (getMethod ov m pl)
      callWith pos f first (backTo pos (starEach (e :: es) X.env)) (backToKw pos (keywordEach [] X.env))) := by rfl) : PE X (.Call (.Attribute o m apos) (e :: es) [] pos) (tMethE C m sp E ta t) := by
  refine ⟨fun pn s σ H Q I h => PySem.W.methodCall_KW (pl := pl) (thn (hO.run pn s σ H _ I h) fun u s1 hh => ?_) hW⟩
  obtain ⟨x, H1, I1, rx, a, dx, fs, ex, ea, l, q⟩ := hh
  subst ex
  obtain rfl : u = Value.ref a := rx
  refine getmeth_ok I1 ea c hm l (PySem.W.callWith_K (first := [.ref a]) (h₀ := X.base) I.ok.mod.kin hm.kp (thn (hA.run pos pn s1 σ H1 _ I1 q) fun us s2 hh => ?_) h1 h2)
  obtain ⟨vs, H2, I2, r, q2⟩ := hh
  exact ⟨I2.kIn, run_fnRS (us := .ref a :: us) (vs := .ref a :: vs) F hr (hx σ) I2 (.cons rfl r) q2⟩
def tSMethE (C : Addr) (sp : Sp) (E : L2.St → XK) (ta : TE) (t : TA) : TE := fun σ H Q => ta σ H fun x H1 => x = .ref C ∧ t σ H1 fun vs H2 => sp vs H2 Q (E σ)
theorem pe_smethE {o e : Expr} {es : List Expr} {m : Str} {g q : Addr} {mc : Value} {pos apos : Pos} {ta : TE} {t : TA} {pl : Sem Bool} (hO : PE X o ta) (cr : ClX.CRead X.K C mc) (c : SMet X.K C mc m q g) (F : FnR X.prog X.w X.K X.mg X.base CX k g sp) (hr : Room k X.A) (hx : ∀ σ, PassesAt CX X σ (E σ)) (hA : PA X (e :: es) t)
    (h1 : starEach (e :: es) X.env = (false, eval e X.env) :: starEach es X.env := by rfl) (h2 : (backTo pos (starEach es X.env)).any (·.1) = false := by rfl)
    (hW : eval (.Call (.Attribute o m apos) (e :: es) [] pos) X.env = (do
      let ov ← eval o X.env
      standAt apos.atName
      let (f, first) ← holding [ov] (getMethod ov m pl)
      callWith pos f first (backTo pos (starEach (e :: es) X.env)) (backToKw pos (keywordEach [] X.env))) := by rfl) : PE X (.Call (.Attribute o m apos) (e :: es) [] pos) (tSMethE C sp E ta t) := by
  refine ⟨fun pn s σ H Q I h => PySem.W.methodCall_KW (pl := pl) (thn (hO.run pn s σ H _ I h) fun u s1 hh => ?_) hW⟩
  obtain ⟨x, H1, I1, rx, ex, y⟩ := hh
  subst ex
  obtain rfl : u = Value.ref C := rx
  obtain ⟨rest, hp⟩ := c.rc
  refine PySem.W.method_cls I1.kIn cr.ga (PySem.W.cls_bind I1.kIn cr.rd c.at_ (wpAny_call (PySem.W.sm_get (s := { s1 with toks := s1.toks + 1 }) I1.kIn hp (PySem.W.handed_on rfl ?_))))
  have I2 : L2.Inv X pn σ H1 { s1 with toks := s1.toks + 1 } := I1.tok _
  refine PySem.W.callWith_K (h₀ := X.base) I2.ok.mod.kin c.kp (thn (hA.run pos pn _ σ H1 _ I2 y) fun us s3 hh => ?_) h1 h2
  obtain ⟨vs, H2, I3, rv, q2⟩ := hh
  exact ⟨I3.kIn, run_fnRS F hr (hx σ) I3 rv q2⟩
end
end Vx
set_option Elab.async false
set_option linter.all false
set_option maxRecDepth 100000
set_option maxHeartbeats 4000000
namespace L2
open PySem PySem.Spec PyProof.Rows
theorem FnOk.imp' {P : Program} {w : World} {K : PySem.W.Frag} {mg : Str → Option Value} {base : Heap} {CX : CXT} {k : Nat} {f : Addr} {fd : FuncData} {ps : List Str} {sp sp' : Sp} (F : FnOk P w K mg base CX k f fd ps sp) (h : ∀ vs H Q E, sp' vs H Q E → sp vs H Q E) : FnOk P w K mg base CX k f fd ps sp' :=
  ⟨fun vs H Q E z => F.len vs H Q E (h _ _ _ _ z), fun A outer s H args us vs Q E hr e0 b r z => F.run A outer s H args us vs Q E hr e0 b r (h _ _ _ _ z)⟩
end L2
namespace Toy
open PySem PySem.Spec PyProof.Rows L2
theorem TyX.same {K : PySem.W.Frag} {H H' : Hp} {v : V} {t : Value} (h : TyX K H v t) (s : Same H H') : TyX K H' v t := by
  cases h with
  | base h =>
    cases h with
    | non => exact .base .non
    | bl x => exact .base (.bl x)
    | int x => exact .base (.int x)
    | str x => exact .base (.str x)
    | flt x => exact .base (.flt x)
    | lst e => exact .base (.lst (s _ _ e))
    | frz e => exact .base (.frz (s _ _ e))
    | tup e => exact .base (.tup (s _ _ e))
    | dK e => exact .base (.dK (s _ _ e))
    | dT e => exact .base (.dT (s _ _ e))
    | ins e cl a b c d => exact .base (.ins (s _ _ e) cl a b c d)
  | byt b => exact .byt b
  | set e => exact .set (s _ _ e)
  | kList e c => exact .kList e c
  | kTuple e c => exact .kTuple e c
  | kDict e c => exact .kDict e c
  | fTuple e => exact .fTuple (s _ _ e)
  | fDict e => exact .fDict (s _ _ e)
/-- what a value is as a number: a number, or none (a truth value is none) -/
inductive NV (K : PySem.W.Frag) (H : Hp) : V → Option Int → Prop
  | int (i : Int) : NV K H (.int i) (some i)
  | bl (b : Bool) : NV K H (.bl b) none
  | oth {v : V} {t : Value} (h : TyX K H v t) (k : PySem.W.kitOne K t (.type "int") = some false) (kb : PySem.W.kitOne K t (.type "bool") = some false) (n : ∀ i, v ≠ .int i) : NV K H v none
theorem NV.same {K : PySem.W.Frag} {H H' : Hp} {v : V} {o : Option Int} (h : NV K H v o) (s : Same H H') : NV K H' v o := by
  cases h with
  | int i => exact .int i
  | bl b => exact .bl b
  | oth h k kb n => exact .oth (TyX.same h s) k kb n
theorem NV.non {K : PySem.W.Frag} {H : Hp} : NV K H .non none := .oth (t := .type "NoneType") (.base .non) (kit_ty (by decide +kernel)) (kit_ty (by decide +kernel)) (fun _ z => nomatch z)
theorem NV.str {K : PySem.W.Frag} {H : Hp} (z : Str) : NV K H (.str z) none := .oth (t := .type "str") (.base (.str z)) (kit_ty (by decide +kernel)) (kit_ty (by decide +kernel)) (fun _ z => nomatch z)
theorem NV.lst {K : PySem.W.Frag} {H : Hp} {a : Addr} {xs : List V} (h : H a = some (.lst xs)) : NV K H (.ref a) none := .oth (t := .type "list") (.base (.lst h)) (kit_ty (by decide +kernel)) (kit_ty (by decide +kernel)) (fun _ z => nomatch z)
theorem NV.tup {K : PySem.W.Frag} {H : Hp} {a : Addr} {xs : List V} (h : H a = some (.tup xs)) : NV K H (.ref a) none := .oth (t := .type "tuple") (.base (.tup h)) (kit_ty (by decide +kernel)) (kit_ty (by decide +kernel)) (fun _ z => nomatch z)
def btw (o : Option Int) (l h : Int) : Bool := match o with
  | some i => decide (l ≤ i ∧ i ≤ h)
  | none => false
structure NmI (mg : Str → Option Value) : Prop where
  isi : mg "isinstance" = none
  int : mg "int" = none
  bool : mg "bool" = none
section
variable {P : Program} {w : World} {K : PySem.W.Frag} {mg : Str → Option Value} {base : Heap}
def spWholeG (K : PySem.W.Frag) : Sp := fun vs H Q _ => ∃ (v : V) (o : Option Int), vs = [v] ∧ NV K H v o ∧ Q (.bl o.isSome) H
theorem ok_wholeG {f : Addr} {fd : FuncData} (F : Fun K "is_whole" "is_whole" s_is_whole f fd) (T : NmI mg) : FnOk P w K mg base CX0 1 f fd ["value"] (spWholeG K) := by
  refine F.ok sc_is_whole (fun vs H Q E h => ?_) (fun cdv A outer s H vs Q E hr h => ?_)
  · obtain ⟨v, o, rfl, _⟩ := h
    rfl
  · obtain ⟨v, o, rfl, hv, q⟩ := h
    refine ⟨_, pss_one (ps_ret (pe_and (pe_callB call_isi (by rfl) T.isi (by decide +kernel) (pa_cons (pv 0) (pa_cons (pe_bltn (v := .ty "int") (by rfl) T.int (by decide +kernel) rfl) pa_nil)))
      (pe_one (pe_not (pe_callB call_isi (by rfl) T.isi (by decide +kernel) (pa_cons (pv 0) (pa_cons (pe_bltn (v := .ty "bool") (by rfl) T.bool (by decide +kernel) rfl) pa_nil))))))), ?_⟩
    cases hv with
    | int i => exact ⟨_, rfl, .int i, .ty "int", _, _, true, rfl, .ty _, .base (.int i), kit_ty (by decide +kernel), true, rfl, iteT ⟨_, rfl, .int i, .ty "bool", _, _, false, rfl, .ty _, .base (.int i), kit_ty (by decide +kernel), false, rfl, q⟩⟩
    | bl b => exact ⟨_, rfl, .bl b, .ty "int", _, _, true, rfl, .ty _, .base (.bl b), kit_ty (by decide +kernel), true, rfl, iteT ⟨_, rfl, .bl b, .ty "bool", _, _, true, rfl, .ty _, .base (.bl b), kit_ty (by decide +kernel), true, rfl, q⟩⟩
    | oth ht k kb n => exact ⟨_, rfl, v, .ty "int", _, _, false, rfl, .ty _, ht, k, false, rfl, iteF q⟩
def spBetwG (K : PySem.W.Frag) : Sp := fun vs H Q _ => ∃ (v : V) (o : Option Int) (l h : Int), vs = [v, .int l, .int h] ∧ NV K H v o ∧ Q (.bl (btw o l h)) H
theorem NV.some_eq {H : Hp} {v : V} {i : Int} (h : NV K H v (some i)) : v = .int i := by
  cases h
  rfl
theorem ok_betwG {f fW : Addr} {fd fdW : FuncData} (F : Fun K "is_between" "is_between" s_is_between f fd) (GW : FnOk P w K mg base CX0 1 fW fdW ["value"] (spWholeG K)) (kW : PySem.W.keepIn K (.ref fW) = true) (bW : L2.Binds K fdW ["value"] []) (gW : mg "is_whole" = some (.ref fW)) :
    FnOk P w K mg base CX0 2 f fd ["value", "low", "high"] (spBetwG K) := by
  refine F.ok sc_is_between (fun vs H Q E h => ?_) (fun cdv A outer s H vs Q E hr h => ?_)
  · obtain ⟨v, o, l, h, rfl, _⟩ := h
    rfl
  · obtain ⟨v, o, l, u, rfl, hv, q⟩ := h
    refine ⟨_, pss_one (ps_ret (pe_and (pe_call GW hr (by rfl) gW kW bW .nil pass0 (pa_cons (pv 0) pa_nil)) (pe_one (pe_chain op_le op_le (pv 1) (pv 0) (pv 2))))), ?_⟩
    refine ⟨_, rfl, v, o, rfl, hv, o.isSome, rfl, ?_⟩
    cases o with
    | none => exact iteF q
    | some i =>
      obtain rfl := hv.some_eq
      refine iteT ⟨_, rfl, _, rfl, l, i, rfl, rfl, decide (l ≤ i), rfl, ?_⟩
      by_cases h1 : l ≤ i
      · rw [decide_eq_true h1]
        refine iteT ⟨_, rfl, i, u, rfl, rfl, ?_⟩
        have e : btw (some i) l u = decide (i ≤ u) := by by_cases h2 : i ≤ u <;> simp [btw, h1, h2]
        rw [e] at q
        exact q
      · rw [decide_eq_false h1]
        have e : btw (some i) l u = false := by simp [btw, h1]
        rw [e] at q
        exact iteF q
def spIsWG (K : PySem.W.Frag) : Sp := fun vs H Q _ => ∃ (v : V) (o : Option Int), vs = [v] ∧ NV K H v o ∧ Q (.bl (btw o 0 30)) H
theorem ok_isWG {f fB : Addr} {fd fdB : FuncData} (F : Fun K "is_writer_number" "is_writer_number" s_is_writer_number f fd) (GB : FnOk P w K mg base CX0 2 fB fdB ["value", "low", "high"] (spBetwG K)) (kB : PySem.W.keepIn K (.ref fB) = true)
    (bB : L2.Binds K fdB ["value", "low", "high"] []) (gB : mg "is_between" = some (.ref fB)) (lw : ∃ t, mg "LAST_WRITER" = some (.int 30 t)) : FnOk P w K mg base CX0 3 f fd ["value"] (spIsWG K) := by
  obtain ⟨tk, lw⟩ := lw
  refine F.ok sc_is_writer_number (fun vs H Q E h => ?_) (fun cdv A outer s H vs Q E hr h => ?_)
  · obtain ⟨v, o, rfl, _⟩ := h
    rfl
  · obtain ⟨v, o, rfl, hv, q⟩ := h
    refine ⟨_, pss_one (ps_ret (pe_call GB hr (by rfl) gB kB bB .nil pass0 (pa_cons (pv 0) (pa_cons pe_int (pa_cons (pe_glob (v := .int 30) (by rfl) lw ⟨_, rfl⟩) pa_nil))))), ?_⟩
    exact ⟨_, rfl, v, o, 0, 30, rfl, hv, q⟩
theorem whole_int {f : Addr} {fd : FuncData} (F : FnOk P w K mg base CX0 1 f fd ["value"] (spWholeG K)) : FnOk P w K mg base CX0 1 f fd ["value"] spWhole := F.imp' fun vs H Q E h => by
  obtain ⟨i, rfl, q⟩ := h
  exact ⟨_, _, rfl, .int i, q⟩
theorem betw_int {f : Addr} {fd : FuncData} (F : FnOk P w K mg base CX0 2 f fd ["value", "low", "high"] (spBetwG K)) : FnOk P w K mg base CX0 2 f fd ["value", "low", "high"] spBetw := F.imp' fun vs H Q E h => by
  obtain ⟨i, l, u, rfl, q⟩ := h
  exact ⟨_, _, l, u, rfl, .int i, q⟩
theorem isW_int {f : Addr} {fd : FuncData} (F : FnOk P w K mg base CX0 3 f fd ["value"] (spIsWG K)) : FnOk P w K mg base CX0 3 f fd ["value"] spIsW := F.imp' fun vs H Q E h => by
  obtain ⟨i, rfl, q⟩ := h
  exact ⟨_, _, rfl, .int i, q⟩
end
end Toy
set_option Elab.async false
set_option linter.all false
set_option maxRecDepth 100000
set_option maxHeartbeats 4000000
namespace Gd
open PySem PySem.Spec PyProof.Rows L2
/-! promises that are kept where no repr is under way: what repr of a list or a tuple asks -/
abbrev Calm0 (A : Around) : Prop := A.guards = some []
def FnG (P : Program) (w : World) (K : PySem.W.Frag) (mg : Str → Option Value) (base : Heap) (CX : CXT) (k : Nat) (f : Addr) (sp : Sp) : Prop :=
  ∀ (A : Around) (outer : List Env) (s : Shared) (H : Hp) (us : List Value) (vs : List V) (Q : VK) (E : XK), Calm0 A → Room k A → Env0 P w K mg base A outer s H → Vals vs us → sp vs H Q E →
    codeAny (model P w) A (.call (.ref f) ⟨us, []⟩) (CR CX outer P w H s Q E) s
section
variable {P : Program} {w : World} {K : PySem.W.Frag} {mg : Str → Option Value} {base : Heap} {k : Nat} {f : Addr} {fd : FuncData} {x qual : Str} {st : Stmt} {N ps : List Str} {sp : Sp}
theorem FnG.of {CX : CXT} (F : FnR P w K mg base CX k f sp) : FnG P w K mg base CX k f sp := fun A o s H us vs Q E _ hr e r h => F A o s H us vs Q E hr e r h
/-- a def by its body, run where no repr is under way -/
theorem fnG_ok (F : Fun K x qual st f fd) (S : FnScope N ps (defScope st)) (B : L2.Binds K fd ps []) (len : ∀ vs H Q E, sp vs H Q E → vs.length = ps.length)
    (body : ∀ (cdv : Value) (A : Around) (outer : List Env) (s : Shared) (H : Hp) (vs : List V) (Q : VK) (E : XK), Calm0 A → Room k (A.deeper (envOfC qual (defScope st) s.heap.objs.size f cdv)) → sp vs H Q E →
      ∃ t, PSs (cxOf CX0 P w K mg base N qual (defScope st) f cdv A outer s H E).nox (defBody st) t ∧ t { nx := fun _ G => Q .non G, rt := Q } (start N vs) H) : FnG P w K mg base CX0 (k + 1) f sp := by
  obtain ⟨oc, od, kV, doc, pm, an, cdv, ct, osl, rfl, lk, hcd⟩ := F.ex
  intro A outer s H us vs Q E g room e r h
  have n1 : vs.length = ps.length := len vs H Q E h
  have inH : K.In s.heap := e.mod.kin.keeps (fun b o z => (e.bs b o z).left)
  have nolim : s.heap.NoLimit := e.mod.nolimit.keeps (fun b o z => (e.bs b o z).left)
  have bd := B s us inH (by rw [List.append_nil, ← r.length]; exact n1)
  rw [List.append_nil] at bd
  have kinds : ∀ q ∈ ps.zip us, (defScope st).names.lookup q.1 = some .local ∨ ((defScope st).names.lookup q.1 = some .cell ∧ ((cellsFrom (s.heap.objs.size + 1) (defScope st).names []).lookup q.1).isSome = true) := by
    rintro ⟨n, v⟩ hq
    cases S.par n (List.of_mem_zip hq).1 with
    | inl z => exact Or.inl z
    | inr z => exact Or.inr ⟨z, PySem.W.cellsFrom_some _ _ _ (Or.inl z)⟩
  obtain ⟨t, ht, q⟩ := body cdv A outer s H vs Q E g (room.deeper _) h
  apply codeAny_call_function room.depth (inH _ _ lk) rfl S.co S.gen rfl (PySem.W.codeRec_of inH hcd) (bd _ _ _ _ _)
  apply wpAny_newFunctionEnv_cells S.kind kinds
  intro env he s1 z
  subst he
  refine And.intro (nolim.keeps z.toInCall.keep) (codeAny_func ?_)
  have I := inv_start (CX := CX0) (E := E) S room.hd e n1 r z
  apply wpAny_mono (ht.nox.run [] s1 (start N vs) H _ I q) (fun fl s2 hs => ?_) (fun _ _ hs => hs)
  cases fl with
  | ret u => obtain ⟨v, σ2, H2, J, rv, z2⟩ := hs; exact ⟨v, H2, J.os, J.bare, J.base, J.hok, rv, z2⟩
  | next => obtain ⟨σ2, H2, J, z2⟩ := hs; exact ⟨V.non, H2, J.os, J.bare, J.base, J.hok, rfl, z2⟩
  | brk => exact hs.elim fun _ z2 => z2.elim fun _ z3 => z3.2.elim
  | cont => exact hs.elim fun _ z2 => z2.elim fun _ z3 => z3.2.elim
end
section
variable {X : Cx} {CX : CXT} {k : Nat} {f : Addr} {sp : Sp} {E : XK} {x : Str} {p pos : Pos} {e : Expr} {es : List Expr} {t : TA}
theorem pe_callG (F : FnG X.prog X.w X.K X.mg X.base CX k f sp) (g : Calm0 X.A) (hr : Room k X.A) (hg : Gl X x) (hm : X.mg x = some (.ref f)) (hk : PySem.W.keepIn X.K (.ref f) = true) (hx : Passes CX X E)
    (ha : PA X (e :: es) t) (hdb : (x == ("__debug__" : Str)) = false := by decide) (he : starEach (e :: es) X.env = (false, eval e X.env) :: starEach es X.env := by rfl) (hpl : (backTo pos (starEach es X.env)).any (·.1) = false := by rfl) :
    PE X (.Call (.Name x p) (e :: es) [] pos) (tCall sp [] E t) := by
  constructor
  intro pins s σ H Q I h
  apply wpAny_Call_Name_kw (ld_glob I hg hm ?_ hdb)
  apply PySem.W.callWith_K (h₀ := X.base) I.ok.mod.kin hk (thn (ha.run pos pins s σ H _ I h) fun us s1 ⟨vs, H1, I1, r, q⟩ => ⟨I1.kIn, ?_⟩) he hpl
  have q : sp vs H1 Q E := by
    have z : sp (vs ++ []) H1 Q E := q
    rwa [List.append_nil] at z
  refine wpAny_call (codeAny_mono (F _ _ _ _ _ _ _ _ g hr I1.env0 r q) fun z s2 hq => ?_)
  match z, hq with
  | .error u, hq => exact hx pins σ H1 s1 u s2 I1 hq
  | .ok (.ret u), hq => exact I1.after hq
end
/-! repr of data -/
def okShow : PyData → Bool
  | .int i => decide (i.natAbs.log2 < 1920)
  | d => d.showable && !d.hasDict && decide (d.depth ≤ 8) && decide (d.shown.length ≤ 1000000)
theorem show_of {d : PyData} (n : ∀ i, d ≠ .int i) (h : okShow d = true) : d.showable = true ∧ d.hasDict = false ∧ d.depth ≤ 8 ∧ d.shown.length ≤ sizeLine := by
  cases d with
  | int i => exact (n i rfl).elim
  | _ =>
    simp only [okShow, Bool.and_eq_true, decide_eq_true_eq, Bool.not_eq_true'] at h
    exact ⟨h.1.1.1, h.1.1.2, h.1.2, Nat.le_trans h.2 (by decide)⟩
theorem call_reprD {X : Cx} (g : Calm0 X.A) (hu : X.A.units + 64 < cLine) : CallR X (.builtin "repr") (fun xs H Q => ∃ v d, xs = [v] ∧ Dp X.K H v d ∧ okShow d = true ∧ Q (.str d.shown) H) := by
  intro pins s σ H xs us Q I r ⟨v, d, e, hd, ok, q⟩
  subst e
  obtain ⟨u, rfl, ru⟩ := vals1 r
  cases hd with
  | non => cases ru; exact PySem.P.repr_of_none ⟨.str _, H, I.tok _, ⟨_, rfl⟩, q⟩
  | bl b => cases ru; exact PySem.P.repr_of_bool ⟨.str _, H, I.tok _, ⟨_, rfl⟩, q⟩
  | int i => obtain ⟨t, rfl⟩ := ru; exact PySem.P.repr_of_int (of_decide_eq_true ok) ⟨.str _, H, I.tok _, ⟨_, rfl⟩, q⟩
  | str z => obtain ⟨t, rfl⟩ := ru; exact PySem.P.repr_of_str ⟨.str _, H, I.tok _, ⟨_, rfl⟩, q⟩ (show_of (by intro i e; cases e) ok).2.2.2
  | lst h1 h2 =>
    obtain ⟨o1, o2, o3, o5⟩ := show_of (by intro i e; cases e) ok
    obtain ⟨as, rd⟩ := Dp.reads I _ _ _ (Dp.lst h1 h2) ru
    cases ru
    exact repr_of_reads' rd o1 (fun z => by rw [o2] at z; cases z) g (by omega) (fun _ _ z => z) (fun h' u tk hk => ⟨.str _, H, I.kept hk, ⟨_, rfl⟩, q⟩) o5
  | tup h1 h2 =>
    obtain ⟨o1, o2, o3, o5⟩ := show_of (by intro i e; cases e) ok
    obtain ⟨as, rd⟩ := Dp.reads I _ _ _ (Dp.tup h1 h2) ru
    cases ru
    exact repr_of_reads' rd o1 (fun z => by rw [o2] at z; cases z) g (by omega) (fun _ _ z => z) (fun h' u tk hk => ⟨.str _, H, I.kept hk, ⟨_, rfl⟩, q⟩) o5
/-! the head of a law that is kept where no repr is under way -/
section
variable {P : Program} {w : World} {K : PySem.W.Frag} {mg mb : Str → Option Value} {k : Nat} {fa a : Addr} {sp : Sp} {s : Shared} {vs : List Value} {ns : List Int}
/-- what the law's run is to give -/
abbrev Gives (s : Shared) (r : Result) (s2 : Shared) : Prop := r = .ok (.ret (.bool true)) ∧ OldK s.heap s2.heap ∧ s2.os = s.os ∧ AllBare s2.gens
/-- the ground of a heap H that tracks at most the script -/
theorem ground_of {H : Hp} (inH : K.In s.heap) (g : s.heap.Ns mainGlobals mg) (b : s.heap.Ns builtinsNs mb) (bb : ∀ x : Str, x ≠ "__name__" → mb x = bootBuiltins x) (nl : s.heap.NoLimit) (ng : s.gens = #[])
    (sc : s.heap.get? a = some { cls := .type "list", data := .seq vs.toArray }) (ok : HOk P w H s.heap) (one : ∀ b u, H b = some u → b = a ∧ K.lookup a = none) :
    K.In (hidT s.heap H) ∧ (hidT s.heap H).Ns mainGlobals mg ∧ Env0 P w K mg (hidT s.heap H) callerA [] s H := by
  have open_ : ∀ {b : Addr} {o : Obj}, s.heap.get? b = some o → b ≠ a → (hidT s.heap H).get? b = some o := fun {b o} e n => hidT_get e (by
    cases z : H b with
    | none => rfl
    | some u => exact (n (one b u z).1).elim)
  have names : ∀ {b : Addr} {m : Str → Option Value}, s.heap.Ns b m → (hidT s.heap H).Ns b m := by
    rintro b m ⟨o, es, ep, e, d, r⟩
    refine ⟨o, es, ep, open_ e ?_, d, r⟩
    rintro rfl
    rw [e] at sc
    cases sc
    cases d
  have inG : K.In (hidT s.heap H) := fun b o e => by
    by_cases z : b = a
    · subst z
      refine hidT_get (inH b o e) ?_
      cases y : H b with
      | none => rfl
      | some u => rw [(one b u y).2] at e; cases e
    · exact open_ (inH b o e) z
  obtain ⟨mc, l1, l2⟩ := nl
  exact ⟨inG, names g, ⟨rfl, ⟨inG, names g, ⟨mb, names b, bb⟩, ⟨mc, names l1, l2⟩⟩, fun b o e => of_hidT e, Nat.le_of_eq (hidT_size _ _), trivial, fun b hb => (nomatch hb), ok, .of_eq ng⟩⟩
theorem law_runG (inH : K.In s.heap) (g : s.heap.Ns mainGlobals mg) (b : s.heap.Ns builtinsNs mb) (bb : ∀ x : Str, x ≠ "__name__" → mb x = bootBuiltins x) (nl : s.heap.NoLimit) (ng : s.gens = #[])
    (sc : s.heap.get? a = some { cls := .type "list", data := .seq vs.toArray }) (hi : IntsAre vs ns) (hl : ns.length ≤ sizeLine) (hr : Room k callerA)
    (F : ∀ base : Heap, K.In base → base.Ns mainGlobals mg → FnG P w K mg base CX0 k fa sp) (hsp : ∀ H : Hp, SqL K H a (ns.map V.int) → sp [.ref a] H (fun v _ => v = .bl true) fun _ _ _ => False) :
    codeAny (model P w) callerA (.call (.ref fa) ⟨[.ref a], []⟩) (Gives s) s := by
  have rv := vals_ints hi
  have small : (ns.map V.int).length ≤ sizeLine := by rw [List.length_map]; exact hl
  have way : ∀ H : Hp, (∀ b u, H b = some u → ∃ o xs, u = .frz o (.lst xs)) → SqL K H a (ns.map V.int) → HOk P w H s.heap → (∀ b u, H b = some u → b = a ∧ K.lookup a = none) → codeAny (model P w) callerA (.call (.ref fa) ⟨[.ref a], []⟩) (Gives s) s := by
    intro H fz S ok one
    obtain ⟨g1, g2, g3⟩ := ground_of inH g b bb nl ng sc ok one
    refine codeAny_mono (F _ g1 g2 callerA [] s H [.ref a] [V.ref a] _ _ rfl hr g3 (.cons rfl .nil) (hsp H S)) fun r s2 h => ?_
    match r, h with
    | .ok (.ret u), ⟨v, H2, os, bare, un, ok2, ru, q⟩ =>
      have q : v = .bl true := q
      subst q
      have ru : u = Value.bool true := ru
      subst ru
      refine ⟨rfl, OldK.of_keep fun c o e => ?_, os, bare⟩
      cases z : H c with
      | none => exact un.keep c o e z (by intro y; cases y) (by simp)
      | some u =>
        obtain ⟨ob, xs, rfl⟩ := fz c u z
        have e1 := (ok c _ z).1
        rw [e] at e1
        cases e1
        exact (ok2 c _ (un.frzs c o _ z)).1
  cases own : K.lookup a with
  | some o =>
    have e := inH a o own
    rw [sc] at e
    cases e
    exact way (fun _ => none) (fun _ _ z => nomatch z) (.inr ⟨_, vs.toArray, _, own, rfl, rfl, rfl, by rw [List.size_toArray, hi.length]; exact hl, by simpa using rv⟩) (fun _ _ z => nomatch z) (fun _ _ z => nomatch z)
  | none =>
    have at_ : ∀ b u, (if b = a then some (HO.frz { cls := .type "list", data := .seq vs.toArray } (.lst (ns.map V.int))) else none) = some u → b = a ∧ u = .frz { cls := .type "list", data := .seq vs.toArray } (.lst (ns.map V.int)) := fun b u z => by
      by_cases y : b = a
      · rw [if_pos y] at z; cases z; exact ⟨y, rfl⟩
      · rw [if_neg y] at z; cases z
    refine way (fun b => if b = a then some (.frz { cls := .type "list", data := .seq vs.toArray } (.lst (ns.map V.int))) else none) (fun b u z => ⟨_, _, (at_ b u z).2⟩) (.inl (.inr ⟨_, if_pos rfl⟩)) (fun b u z => ?_) (fun b u z => ⟨(at_ b u z).1, own⟩)
    obtain ⟨rfl, rfl⟩ := at_ b u z
    exact ⟨sc, small, vs, _, rv, sc⟩
end
theorem walkG {l : PySem.W.OpenLaw} {n k : Nat} {q : Program} {loose : List Str} {XP : (Str → Option Value) → Heap → Prop} {YP : World → Heap → Prop} {d : DefRec} {K : Params → PySem.W.Frag} {sp : PySem.W.Frag → Sp}
    (hn : l.most = some n) (n2 : n ≤ sizeLine) (hdf : d.params.defaults = []) (hr : Room k callerA) (hY : ∀ (w : World) (h : Heap), YP w h → (K w.params).In h)
    (F : ∀ (w : World) (mg : Str → Option Value) (fa : Addr) (h : Heap), (K w.params).In h → h.Ns mainGlobals mg → mg d.name = some (.ref fa) → ∀ base : Heap, (K w.params).In base → base.Ns mainGlobals mg → FnG l.prog w (K w.params) mg base CX0 k fa (sp (K w.params)))
    (hsp : ∀ (K : PySem.W.Frag) (H : Hp) (a : Addr) (ns : List Int), ns.length ≤ n → SqL K H a (ns.map V.int) → sp K [.ref a] H (fun v _ => v = .bl true) fun _ _ _ => False) :
    PySem.W.WalkO q loose XP YP l.row.toRowW d [] (fun f vs => PySem.call f vs) := by
  apply Att.attach_call hn hdf
  intro w s₀ s₁ mg mb fa o pm cd doc a vs ns G Y ho hd hcd hmg hobj hints hlen hg
  exact law_runG (hY w _ Y) G.T.g G.T.b G.T.builtins G.T.nolimit hg hobj hints (Nat.le_trans hlen n2) hr (F w mg fa _ (hY w _ Y) G.T.g hmg) (fun H S => hsp _ H a ns hlen S)
end Gd
set_option Elab.async false
set_option linter.all false
set_option maxRecDepth 100000
set_option maxHeartbeats 4000000
namespace Vx
open PySem PySem.Spec PyProof.Rows L2
/-- o cmp y by the own method; y of any class that does not come first -/
def rCmpA (K : PySem.W.Frag) (C : Addr) (sp : Sp) (E : XK) : R2 := fun x y H Q => (∃ a dx fs, x = .ref a ∧ H a = some (.ins C dx fs)) ∧ (∃ t, TyX K H y t ∧ PySem.W.notFirst K C t = true) ∧ sp [x, y] H Q E
theorem op_cmpAny {X : Cx} {CX : CXT} {k : Nat} {C f : Addr} {sp : Sp} {E : XK} {op : CmpOp} (hc : ∀ v u, compareOp op v u = richCompare op v u) (at_ : PySem.W.findIn X.K (.ref C) (cmpInfo op).2.1 = some (some (.ref f))) (fn : PySem.W.isFn X.K (.ref f) = true)
    (F : FnR X.prog X.w X.K X.mg X.base CX k f sp) (hr : Room k X.A) (hx : Passes CX X E) : OpR X (compareOp op) (rCmpA X.K C sp E) := by
  intro pins s σ H x y v u Q I rx ry hq
  obtain ⟨⟨a, dx, fs, rfl, ha⟩, ⟨t, ty, nf⟩, hsp⟩ := hq
  have ev : v = Value.ref a := rx
  have cl := call_cmp F hr hx I (us := [v, u]) (vs := [V.ref a, y]) (.cons rx (.cons ry .nil)) hsp
  subst ev
  obtain ⟨mA, J, _⟩ := ins_get I.hok ha
  obtain ⟨od, J, _⟩ := J.look
  obtain ⟨m, hF⟩ := I.fr
  obtain ⟨PP, KX, hP, _⟩ := L2.kit_of I ry ty
  rw [hc]
  exact PySem.W.cmp_K hr.units0 hF I.ok.mod.kin J (KX.ty _ _ I.kIn hP) nf at_ fn cl
end Vx
namespace Toy
open PySem PySem.Spec PyProof.Rows L2
/-! ### own errors -/
/-- what the text says of an own error class: its attribute f, its __init__ at fI -/
structure Err (P : Program) (w : World) (K : PySem.W.Frag) (mg : Str → Option Value) (base : Heap) (x f : Str) (C fI : Addr) (fd : FuncData) (sp : Sp) : Prop where
  T : OexC K C
  no : PySem.W.findIn K (.ref C) f = some none
  gC : mg x = some (.ref C)
  iC : PySem.W.findIn K (.ref C) "__init__" = some (some (.ref fI))
  tI : PySem.W.typeIn K (.ref fI) = some (.type "function")
  F : FnOk P w K mg base CX0 1 fI fd ["self", f] sp
  b : L2.Binds K fd ["self", f] []
def spErr (K : PySem.W.Frag) (f : Str) : Sp := fun vs H Q _ => ∃ (a C : Addr) (v : V), vs = [.ref a, v] ∧ OexC K C ∧ PySem.W.findIn K (.ref C) f = some none ∧ H a = some (exo a C none) ∧ ∀ d, H d = none → d ≠ a → Q .non (upd (upd H d (exd d [(f, v)])) a (exo a C (some d)))
theorem err_end {K : PySem.W.Frag} {f : Str} {C a : Addr} {v : V} {H : Hp} {E : XK} (T : OexC K C) (no : PySem.W.findIn K (.ref C) f = some none) (na : H a = none)
    (q : ∀ H' d, Same H H' → H d = none → H' d = some (.xd [(f, v)]) → E (.ref C) (some d) H') :
    spErr K f (.ref a :: ([v] ++ [])) (upd H a (exo a C none)) (fun u H2 => u = .non ∧ ∃ (d : Addr) (fs : List (Str × V)), H2 a = some (exo a C (some d)) ∧ H2 d = some (exd d fs) ∧ H d = none ∧ E (.ref C) (some d) (upd (del H2 a) d (.xd fs))) (fun _ _ _ => False) := by
  refine ⟨a, C, v, rfl, T, no, upd_same, fun d hd ne => ⟨rfl, d, _, upd_same, by rw [upd_ne ne]; exact upd_same, ?_, ?_⟩⟩
  · rw [upd_ne ne] at hd
    exact hd
  · rw [upd_ne ne] at hd
    refine q _ d (fun b o e => ?_) hd upd_same
    have nba : b ≠ a := ne_of_none e na
    have nbd : b ≠ d := ne_of_none e hd
    rw [upd_ne nbd, del_ne nba, upd_ne nba, upd_ne nbd, upd_ne nba]
    exact e
section
variable {P : Program} {w : World} {K : PySem.W.Frag} {mg : Str → Option Value} {base : Heap}
theorem ok_BadRow_init {f D : Addr} {mc : Value} {fd : FuncData} (F : Fun K "__init__" "BadRow.__init__" s_BadRow_init f fd) (gD : mg "PagesError" = some (.ref D)) (U : Vx.UpC K D mc) : FnOk P w K mg base CX0 1 f fd ["self", "field"] (spErr K "field") := by
  refine F.ok sc_BadRow_init (fun vs H Q E h => ?_) (fun cdv A outer s H vs Q E hr h => ?_)
  · obtain ⟨a, C, v, rfl, _⟩ := h
    rfl
  · obtain ⟨a, C, v, rfl, T, no, ha, q⟩ := h
    refine ⟨_, pss_cons (ps_expr (Vx.pe_up (pe_glob (v := .ref D) (by rfl) gD rfl) U (pa_cons (pv 0) (pa_cons pe_str pa_nil)))) (pss_one (ps_ost (pv 0) (pv 1))), ?_⟩
    exact ⟨rfl, _, rfl, a, C, _, rfl, (by decide), T, ha, _, rfl, _, rfl, a, C, rfl, T, no, .inl ⟨ha, fun d nd ne => q d nd ne⟩⟩
/-! ### rows -/
def okf (v : V) (o : Option Int) : Bool := decide (v = .non) || btw o 0 30
def spField (K : PySem.W.Frag) : Sp := fun vs H Q _ => ∃ (v : V) (o : Option Int), vs = [v] ∧ NV K H v o ∧ Q (.bl (okf v o)) H
theorem ok_field {f fI : Addr} {fd fdI : FuncData} (F : Fun K "_is_field" "_is_field" s_is_field f fd) (GI : FnOk P w K mg base CX0 3 fI fdI ["value"] (spIsWG K)) (kI : PySem.W.keepIn K (.ref fI) = true) (bI : L2.Binds K fdI ["value"] []) (gI : mg "is_writer_number" = some (.ref fI)) :
    FnOk P w K mg base CX0 4 f fd ["value"] (spField K) := by
  refine F.ok sc_is_field (fun vs H Q E h => ?_) (fun cdv A outer s H vs Q E hr h => ?_)
  · obtain ⟨v, o, rfl, _⟩ := h
    rfl
  · obtain ⟨v, o, rfl, hv, q⟩ := h
    refine ⟨_, pss_one (ps_ret (pe_or (pe_cmpR op_isN (pv 0) pe_non (nomark _)) (pe_one (pe_call GI hr (by rfl) gI kI bI .nil pass0 (pa_cons (pv 0) pa_nil))))), ?_⟩
    refine ⟨_, rfl, rfl, decide (v = .non), rfl, ?_⟩
    unfold okf at q
    cases h : decide (v = V.non) with
    | true =>
      rw [h] at q
      exact iteT q
    | false =>
      rw [h] at q
      exact iteF ⟨_, rfl, v, o, rfl, hv, q⟩
def ro (b e : V) : List (Str × V) := [("_beginner", b), ("_ender", e)]
/-- Row.__init__: the row's fields, or BadRow (its class at B) with the first wrong one -/
def spRowI (K : PySem.W.Frag) (R B : Addr) : Sp := fun vs H Q E => ∃ (H0 : Hp) (p dx : Addr) (v1 v2 : V) (o1 o2 : Option Int), vs = [.ref p, v1, v2] ∧ Same H0 H ∧ H0 p = none ∧ H p = some (.ins R dx []) ∧ NV K H v1 o1 ∧ NV K H v2 o2 ∧
  ((okf v1 o1 && okf v2 o2) = true → ∀ H', Same H0 H' → H' p = some (.ins R dx (ro v1 v2)) → Q .non H') ∧
  ((okf v1 o1 && okf v2 o2) = false → ∀ H' d, Same H0 H' → H0 d = none → H' d = some (.xd [("field", .str (if okf v1 o1 = true then "ender" else "beginner"))]) → E (.ref B) (some d) H')
structure RowT (P : Program) (w : World) (K : PySem.W.Frag) (mg : Str → Option Value) (base : Heap) (R B fF fI : Addr) (fdF fdI : FuncData) : Prop where
  cl : Cls K R
  nB : NoAttr K R "_beginner"
  nE : NoAttr K R "_ender"
  GF : FnOk P w K mg base CX0 4 fF fdF ["value"] (spField K)
  kF : PySem.W.keepIn K (.ref fF) = true
  bF : L2.Binds K fdF ["value"] []
  gF : mg "_is_field" = some (.ref fF)
  er : Err P w K mg base "BadRow" "field" B fI fdI (spErr K "field")
theorem ok_Row_init {f R B fF fI : Addr} {fd fdF fdI : FuncData} {dvs : List V} {kws : List (Str × V)} (F : FunD K "__init__" "Row.__init__" (defArgs s_Row_init) (defBody s_Row_init) (defScope s_Row_init) dvs kws f fd) (T : RowT P w K mg base R B fF fI fdF fdI) :
    FnOk P w K mg base (L2.CX P w) 5 f fd ["self", "beginner", "ender"] (spRowI K R B) := by
  refine F.ok sc_Row_init (fun vs H Q E h => ?_) (fun cdv A outer s H vs Q E hr h => ?_)
  · obtain ⟨H0, p, dx, v1, v2, o1, o2, rfl, _⟩ := h
    rfl
  · obtain ⟨H0, p, dx, v1, v2, o1, o2, rfl, s0, p0, hp, h1, h2, qg, qb⟩ := h
    have hr2 : Room 2 _ := hr.mono (by decide)
    refine ⟨_, pss_cons (ps_if (pt_not (pt_val (pe_call T.GF hr (by rfl) T.gF T.kF T.bF .nil pass0 (pa_cons (pv 1) pa_nil)))) (pss_one (ps_raise rfl (takes_of rfl rfl rfl rfl) (pmk_oex T.er.T T.er.iC T.er.tI T.er.F hr2 T.er.b .nil pass0 (by rfl) T.er.gC (pa_cons pe_str pa_nil)))) pss_nil)
      (pss_cons (ps_if (pt_not (pt_val (pe_call T.GF hr (by rfl) T.gF T.kF T.bF .nil pass0 (pa_cons (pv 2) pa_nil)))) (pss_one (ps_raise rfl (takes_of rfl rfl rfl rfl) (pmk_oex T.er.T T.er.iC T.er.tI T.er.F hr2 T.er.b .nil pass0 (by rfl) T.er.gC (pa_cons pe_str pa_nil)))) pss_nil)
      (pss_cons (ps_fld (pv 0) (pv 1) rfl) (pss_one (ps_fld (pv 0) (pv 2) rfl)))), ?_⟩
    refine ⟨_, rfl, v1, o1, rfl, h1, okf v1 o1, rfl, ?_⟩
    cases e1 : okf v1 o1 with
    | false =>
      rw [e1] at qb
      refine iteT ⟨by decide, fun a na => err_end T.er.T T.er.no na fun H' d sm nd hd => qb rfl H' d (s0.trans sm) (s0.free nd) hd⟩
    | true =>
      refine iteF ⟨_, rfl, v2, o2, rfl, h2, okf v2 o2, rfl, ?_⟩
      rw [e1] at qb qg
      cases e2 : okf v2 o2 with
      | false =>
        rw [e2] at qb
        refine iteT ⟨by decide, fun a na => err_end T.er.T T.er.no na fun H' d sm nd hd => qb rfl H' d (s0.trans sm) (s0.free nd) hd⟩
      | true =>
        rw [e2] at qg
        refine iteF ⟨_, rfl, _, rfl, p, R, dx, _, rfl, hp, T.cl, T.nB, (by show (0 : Nat) < 1000; decide), ?_⟩
        refine ⟨_, rfl, _, rfl, p, R, dx, _, rfl, upd_same, T.cl, T.nE, (by show (1 : Nat) < 1000; decide), ?_⟩
        refine qg rfl _ (fun b o e => ?_) upd_same
        rw [upd_ne (ne_of_none e p0), upd_ne (ne_of_none e p0)]
        exact s0 _ _ e
end
end Toy
set_option Elab.async false
set_option linter.all false
set_option maxRecDepth 100000
set_option maxHeartbeats 4000000
namespace Toy
open PySem PySem.Spec PyProof.Rows L2
def fv : Option Nat → V
  | none => .non
  | some k => vi k
def fok (o : Option Nat) : Prop := ∀ k, o = some k → k ≤ 30
theorem scal_fv (a b : Option Nat) : scal (fv a) (fv b) = true := by cases a <;> cases b <;> rfl
theorem fv_inj {a b : Option Nat} : fv a = fv b ↔ a = b := by
  constructor
  · intro h
    cases a with
    | none => cases b with
      | none => rfl
      | some k => cases h
    | some j => cases b with
      | none => cases h
      | some k =>
        have z : V.int (j : Int) = V.int (k : Int) := h
        injection z with z
        have : j = k := by omega
        rw [this]
  · intro h
    rw [h]
def nv : Option Nat → Option Int
  | none => none
  | some k => some (k : Int)
theorem NV.fv {K : PySem.W.Frag} {H : Hp} (o : Option Nat) : NV K H (Toy.fv o) (nv o) := by
  cases o with
  | none => exact NV.non
  | some k => exact NV.int _
theorem okf_fv {o : Option Nat} (h : fok o) : okf (Toy.fv o) (nv o) = true := by
  cases o with
  | none => rfl
  | some k =>
    have hk := h k rfl
    show (decide (vi k = V.non) || decide ((0 : Int) ≤ (k : Int) ∧ (k : Int) ≤ 30)) = true
    rw [decide_eq_true (show (0 : Int) ≤ (k : Int) ∧ (k : Int) ≤ 30 by omega), Bool.or_true]
def RowAt (R : Addr) (H : Hp) (p : Addr) (b e : V) : Prop := ∃ dx, H p = some (.ins R dx (ro b e))
theorem RowAt.same {R : Addr} {H H' : Hp} {p : Addr} {b e : V} (h : RowAt R H p b e) (s : Same H H') : RowAt R H' p b e := h.imp fun _ z => s _ _ z
section
variable {P : Program} {w : World} {K : PySem.W.Frag} {mg : Str → Option Value} {base : Heap} {C R B : Addr}
structure RowM (P : Program) (w : World) (K : PySem.W.Frag) (mg : Str → Option Value) (base : Heap) (R B fR : Addr) (fdR : FuncData) : Prop where
  mkR : Mk K R fR
  gR : mg "Row" = some (.ref R)
  F : FnOk P w K mg base (L2.CX P w) 5 fR fdR ["self", "beginner", "ender"] (spRowI K R B)
  b2 : L2.Binds K fdR ["self", "beginner", "ender"] []
  b1 : ∃ u, RelV .non u ∧ L2.Binds K fdR ["self", "beginner", "ender"] [u]
  b0 : ∃ u1 u2, RelV .non u1 ∧ RelV .non u2 ∧ L2.Binds K fdR ["self", "beginner", "ender"] [u1, u2]
/-- what a making of a row asks, where the fields are good -/
theorem row_good {H : Hp} {b e : V} {ob oe : Option Int} {Q : VK} {E : XK} (h1 : NV K H b ob) (h2 : NV K H e oe) (o1 : okf b ob = true) (o2 : okf e oe = true) (q : ∀ H' r, Same H H' → H r = none → RowAt R H' r b e → Q (.ref r) H') :
    ∀ x dx, H x = none → H dx = none → dx ≠ x → spRowI K R B [.ref x, b, e] (upd (upd H dx (.own x)) x (.ins R dx [])) (fun v H3 => v = .non ∧ Q (.ref x) H3) E := fun x dx nx nd ne => by
  have s : Same H (upd (upd H dx (.own x)) x (.ins R dx [])) := fun c o y => by
    rw [upd_ne (ne_of_none y nx), upd_ne (ne_of_none y nd)]
    exact y
  refine ⟨H, x, dx, b, e, ob, oe, rfl, s, nx, upd_same, h1.same s, h2.same s, fun _ H' s' e' => ⟨rfl, q H' x s' nx ⟨dx, e'⟩⟩, fun z => ?_⟩
  rw [o1, o2] at z
  cases z
def spRowEq (K : PySem.W.Frag) (R : Addr) : Sp := fun vs H Q _ => ∃ (p : Addr) (y : V) (b e : Option Nat), vs = [.ref p, y] ∧ RowAt R H p (fv b) (fv e) ∧
  ((∃ (r : Addr) (b' e' : Option Nat), y = .ref r ∧ RowAt R H r (fv b') (fv e') ∧ Q (.bl (decide (b = b' ∧ e = e'))) H) ∨ ∃ t, TyX K H y t ∧ PySem.W.kitOne K t (.ref R) = some false ∧ Q (.bl false) H)
structure RowC (K : PySem.W.Frag) (mg : Str → Option Value) (R : Addr) : Prop where
  cl : Cls K R
  cC : PySem.W.findIn K (.ref R) "__class__" = some (some (.builtin "object.__class__"))
  cG : PySem.W.specialIn K (.builtin "object.__class__") "__get__" = some (some (.builtin "getset_descriptor.__get__"))
  cT : PySem.W.takesIn K (.builtin "object.__class__") = some true
  cM : PySem.W.mroIn K R (.type "object") = some true
  kk : PySem.W.kitOne K (.ref R) (.ref R) = some true
theorem RowC.ty {p : Addr} {b e : V} {H : Hp} (T : RowC K mg R) (h : RowAt R H p b e) : TyX K H (.ref p) (.ref R) := by
  obtain ⟨dx, z⟩ := h
  exact .base (.ins z T.cl T.cC T.cG T.cT T.cM)
theorem dec_fv (a b : Option Nat) : decide (fv a = fv b) = decide (a = b) := by
  by_cases h : a = b
  · rw [decide_eq_true h, decide_eq_true (fv_inj.mpr h)]
  · rw [decide_eq_false h, decide_eq_false fun z => h (fv_inj.mp z)]
theorem ok_row_eq {f : Addr} {fd : FuncData} (F : Fun K "__eq__" "Row.__eq__" s_Row_eq f fd) (T : RowC K mg R) (gR : mg "Row" = some (.ref R)) (isi : mg "isinstance" = none) (nB : NoAttr K R "_beginner") (nE : NoAttr K R "_ender") : FnOk P w K mg base CX0 1 f fd ["self", "other"] (spRowEq K R) := by
  refine F.ok sc_Row_eq (fun vs H Q E h => ?_) (fun cdv A outer s H vs Q E hr h => ?_)
  · obtain ⟨p, y, b, e, rfl, _⟩ := h
    rfl
  · obtain ⟨p, y, b, e, rfl, hp, h⟩ := h
    refine ⟨_, pss_one (ps_ret (pe_and (pe_callB call_isi (by rfl) isi (by decide +kernel) (pa_cons (pv 1) (pa_cons (pe_glob (v := .ref R) (by rfl) gR rfl) pa_nil)))
      (pe_and (pe_cmpR op_eq (pe_fld (pv 0) rfl) (pe_fld (pv 1) rfl) (nomark _)) (pe_one (pe_cmpR op_eq (pe_fld (pv 0) rfl) (pe_fld (pv 1) rfl) (nomark _)))))), ?_⟩
    rcases h with ⟨r, b', e', rfl, hy, q⟩ | ⟨t, ty, k, q⟩
    · refine ⟨_, rfl, .ref r, .ref R, .ref R, .ref R, true, rfl, .own R, T.ty hy, T.kk, true, rfl, iteT ?_⟩
      obtain ⟨dx, hp⟩ := hp
      obtain ⟨dy, hy⟩ := hy
      refine ⟨_, rfl, p, R, dx, _, _, rfl, hp, T.cl, nB, rfl, _, rfl, r, R, dy, _, _, rfl, hy, T.cl, nB, rfl, scal_fv _ _, _, rfl, ?_⟩
      rw [dec_fv]
      by_cases h1 : b = b'
      · rw [decide_eq_true h1]
        refine iteT ⟨_, rfl, p, R, dx, _, _, rfl, hp, T.cl, nE, rfl, _, rfl, r, R, dy, _, _, rfl, hy, T.cl, nE, rfl, scal_fv _ _, ?_⟩
        rw [dec_fv]
        have e1 : decide (b = b' ∧ e = e') = decide (e = e') := by simp [h1]
        rw [e1] at q
        exact q
      · rw [decide_eq_false h1]
        have e1 : decide (b = b' ∧ e = e') = false := by simp [h1]
        rw [e1] at q
        exact iteF q
    · exact ⟨_, rfl, y, .ref R, t, .ref R, false, rfl, .own R, ty, k, false, rfl, iteF q⟩
end
end Toy
set_option Elab.async false
set_option linter.all false
set_option maxRecDepth 100000
set_option maxHeartbeats 4000000
namespace Toy
open PySem PySem.Spec PyProof.Rows L2
section
variable {P : Program} {w : World} {K : PySem.W.Frag} {mg : Str → Option Value} {base : Heap} {R B f : Addr} {fd : FuncData}
abbrev RowD (K : PySem.W.Frag) (f : Addr) (fd : FuncData) : Prop := FunD K "__init__" "Row.__init__" (defArgs s_Row_init) (defBody s_Row_init) (defScope s_Row_init) [.non, .non] [] f fd
theorem row_b2 (F : RowD K f fd) : L2.Binds K fd ["self", "beginner", "ender"] [] := by
  obtain ⟨ds, hv, hb⟩ := F.binds1 (ps := ["self", "beginner", "ender"]) 3 2 (by simp) rfl (fun T kV doc pm an cdv ct us its hu hi => match us, hu, its, hi with | [_, _, _], _, [_, _], _ => ⟨_, rfl, rfl⟩)
  cases hv
  exact hb
theorem row_b1 (F : RowD K f fd) : ∃ u, RelV .non u ∧ L2.Binds K fd ["self", "beginner", "ender"] [u] := by
  obtain ⟨ds, hv, hb⟩ := F.binds1 (ps := ["self", "beginner", "ender"]) 2 1 (by simp) rfl (fun T kV doc pm an cdv ct us its hu hi => match us, hu, its, hi with | [_, _], _, [_, _], _ => ⟨_, rfl, rfl⟩)
  cases hv with
  | cons r1 r2 =>
    cases r2
    exact ⟨_, r1, hb⟩
theorem row_b0 (F : RowD K f fd) : ∃ u1 u2, RelV .non u1 ∧ RelV .non u2 ∧ L2.Binds K fd ["self", "beginner", "ender"] [u1, u2] := by
  obtain ⟨ds, hv, hb⟩ := F.binds1 (ps := ["self", "beginner", "ender"]) 1 0 (by simp) rfl (fun T kV doc pm an cdv ct us its hu hi => match us, hu, its, hi with | [_], _, [_, _], _ => ⟨_, rfl, rfl⟩)
  cases hv with
  | cons r1 r2 =>
    cases r2 with
    | cons r2 r3 =>
      cases r3
      exact ⟨_, _, r1, r2, hb⟩
theorem row_k2 (F : RowD K f fd) : ∃ g, KBn K fd ["self", "beginner", "ender"] 2 ["ender"] g (fun vs zs => vs ++ zs) := by
  obtain ⟨its, kb⟩ := F.kbindsD (ps := ["self", "beginner", "ender"]) 2 ["ender"] (fun us _ ws => us ++ ws) (by simp) (fun r1 _ r3 => r1.append r3) (fun T kV doc pm an cdv ct us its ws hu hi hw => match us, hu, its, hi, ws, hw with | [_, _], _, [_, _], _, [_], _ => ⟨_, rfl, rfl⟩)
  exact ⟨_, kb⟩
theorem row_k1 (F : RowD K f fd) : ∃ g, KBn K fd ["self", "beginner", "ender"] 1 ["ender"] g (fun vs zs => vs ++ ([.non] ++ zs)) := by
  obtain ⟨its, kb⟩ := F.kbindsD (ps := ["self", "beginner", "ender"]) 1 ["ender"] (fun us ds ws => us ++ (ds.take 1 ++ ws)) (by simp) (fun r1 r2 r3 => r1.append ((r2.take 1).append r3)) (fun T kV doc pm an cdv ct us its ws hu hi hw => match us, hu, its, hi, ws, hw with | [_], _, [_, _], _, [_], _ => ⟨_, rfl, rfl⟩)
  exact ⟨_, kb⟩
abbrev PageD (K : PySem.W.Frag) (f : Addr) (fd : FuncData) (dvs : List V) : Prop := FunD K "__init__" "Page.__init__" (defArgs s_Page_init) (defBody s_Page_init) (defScope s_Page_init) dvs [] f fd
theorem page_b1 {t : Addr} (F : PageD K f fd [.ref t]) : L2.Binds K fd ["self", "rows"] [] := by
  obtain ⟨ds, hv, hb⟩ := F.binds1 (ps := ["self", "rows"]) 2 1 (by simp) rfl (fun T kV doc pm an cdv ct us its hu hi => match us, hu, its, hi with | [_, _], _, [_], _ => ⟨_, rfl, rfl⟩)
  cases hv
  exact hb
end
end Toy
set_option Elab.async false
set_option linter.all false
set_option maxRecDepth 100000
set_option maxHeartbeats 4000000
namespace Toy
open PySem PySem.Spec PyProof.Rows L2
/-- all but the objects of S stays -/
def KeepL (S : List Addr) (H H' : Hp) : Prop := ∀ b o, b ∉ S → H b = some o → H' b = some o
theorem KeepL.rfl' {S : List Addr} {H : Hp} : KeepL S H H := fun _ _ _ e => e
theorem KeepL.trans {S : List Addr} {H H1 H2 : Hp} (a : KeepL S H H1) (b : KeepL S H1 H2) : KeepL S H H2 := fun x o n e => b x o n (a x o n e)
theorem KeepL.same {S : List Addr} {H H' : Hp} (s : Same H H') : KeepL S H H' := fun b o _ e => s b o e
theorem KeepL.pot {S : List Addr} {p c : Addr} {H H' : Hp} (hp : p ∈ S) (hc : c ∈ S) (k : Kept p c H H') : KeepL S H H' := fun b o n e => k b o (fun z => n (by rw [z]; exact hp)) (fun z => n (by rw [z]; exact hc)) e
theorem KeepL.put {S : List Addr} {a : Addr} {o : HO} {H : Hp} (ha : a ∈ S) : KeepL S H (upd H a o) := fun b u n e => by
  rw [upd_ne fun z => n (by rw [z]; exact ha)]
  exact e
theorem off {H : Hp} {p c a : Addr} (P : Pot H p c) (n : H a = none) : a ≠ p ∧ a ≠ c := by
  obtain ⟨cs, at_, x, h1, h2, _⟩ := P
  exact ⟨(ne_of_none h1 n).symm, (ne_of_none h2 n).symm⟩
theorem Pot.put {H : Hp} {p c a : Addr} {o : HO} (P : Pot H p c) (h1 : a ≠ p) (h2 : a ≠ c) : Pot (upd H a o) p c := by
  obtain ⟨cs, at_, x, g1, g2, g3⟩ := P
  exact ⟨cs, at_, x, by rw [upd_ne h1.symm]; exact g1, by rw [upd_ne h2.symm]; exact g2, g3⟩
abbrev Fl := Option Nat × Option Nat
def fokP (q : Fl) : Prop := fok q.1 ∧ fok q.2
/-- objects with what they stand for -/
abbrev Obs (α : Type) := List (Addr × α)
def refs {α : Type} (L : Obs α) : List V := L.map fun x => V.ref x.1
theorem refs_append {α : Type} (L M : Obs α) : refs (L ++ M) = refs L ++ refs M := List.map_append
theorem refs_len {α : Type} (L : Obs α) : (refs L).length = L.length := List.length_map _
theorem refs_get {α : Type} {L : Obs α} {i : Nat} {x : V} (h : (refs L)[i]? = some x) : ∃ y, L[i]? = some y ∧ x = .ref y.1 := by
  unfold refs at h
  rw [List.getElem?_map] at h
  cases e : L[i]? with
  | none => rw [e] at h; cases h
  | some k => rw [e] at h; exact ⟨k, rfl, (Option.some.inj h).symm⟩
theorem refs_at {α : Type} {L : Obs α} {i : Nat} {y : Addr × α} (h : L[i]? = some y) : (refs L)[i]? = some (.ref y.1) := by
  unfold refs
  rw [List.getElem?_map, h]
  rfl
section
variable {P : Program} {w : World} {K : PySem.W.Frag} {mg : Str → Option Value} {base : Heap} {C R B : Addr}
structure Drw (P : Program) (w : World) (K : PySem.W.Frag) (mg : Str → Option Value) (base : Heap) (fD : Addr) (fdD : FuncData) : Prop where
  G : FnOk P w K mg base CX0 1 fD fdD ["pot", "many"] spDraw
  k : PySem.W.keepIn K (.ref fD) = true
  b : L2.Binds K fdD ["pot", "many"] []
  g : mg "_law_draw" = some (.ref fD)
/-! ### _law_writer -/
def spWtr : Sp := fun vs H Q _ => ∃ (p c : Addr), vs = [.ref p] ∧ Pot H p c ∧ ∀ H' o, Pot H' p c → Kept p c H H' → fok o → Q (fv o) H'
theorem ok_wtr {f fD : Addr} {fd fdD : FuncData} (F : Fun K "_law_writer" "_law_writer" s_law_writer f fd) (D : Drw P w K mg base fD fdD) : FnOk P w K mg base CX0 2 f fd ["pot"] spWtr := by
  refine F.ok sc_law_writer (fun vs H Q E h => ?_) (fun cdv A outer s H vs Q E hr h => ?_)
  · obtain ⟨p, c, rfl, _⟩ := h
    rfl
  · obtain ⟨p, c, rfl, hP, q⟩ := h
    refine ⟨_, pss_cons (ps_set (i := 1) sc_law_writer.nd rfl (Or.inl rfl) (pe_call D.G hr (by rfl) D.g D.k D.b .nil pass0 (pa_cons (pv 0) (pa_cons pe_int pa_nil))))
      (pss_one (ps_ret (pe_ifExp (pt_cmpR op_gt (pv 1) pe_int (nomark _)) pe_non (pv 1)))), ?_⟩
    refine ⟨_, rfl, p, c, 40, rfl, hP, by decide, by decide, fun H1 d P1 K1 d0 d1 => ⟨_, rfl, d, 30, rfl, rfl, _, rfl, ?_⟩⟩
    refine ite2 (fun h => q H1 none P1 K1 (fun k z => nomatch z)) (fun h => ⟨_, rfl, ?_⟩)
    have h30 : ¬ d > 30 := fun z => h (decide_eq_true z)
    obtain ⟨k, rfl⟩ := Int.eq_ofNat_of_zero_le d0
    refine q H1 (some k) P1 K1 (fun j z => ?_)
    cases z
    omega
theorem ok_BadPage_init {f D : Addr} {mc : Value} {fd : FuncData} (F : Fun K "__init__" "BadPage.__init__" s_BadPage_init f fd) (gD : mg "PagesError" = some (.ref D)) (U : Vx.UpC K D mc) : FnOk P w K mg base CX0 1 f fd ["self", "at"] (spErr K "at") := by
  refine F.ok sc_BadPage_init (fun vs H Q E h => ?_) (fun cdv A outer s H vs Q E hr h => ?_)
  · obtain ⟨a, C, v, rfl, _⟩ := h
    rfl
  · obtain ⟨a, C, v, rfl, T, no, ha, q⟩ := h
    refine ⟨_, pss_cons (ps_expr (Vx.pe_up (pe_glob (v := .ref D) (by rfl) gD rfl) U (pa_cons (pv 0) (pa_cons pe_str pa_nil)))) (pss_one (ps_ost (pv 0) (pv 1))), ?_⟩
    exact ⟨rfl, _, rfl, a, C, _, rfl, (by decide), T, ha, _, rfl, _, rfl, a, C, rfl, T, no, .inl ⟨ha, fun d nd ne => q d nd ne⟩⟩
/-! ### a page -/
theorem none_of {H H' : Hp} {a : Addr} (s : Same H H') (n : H' a = none) : H a = none := by
  cases e : H a with
  | none => rfl
  | some o => rw [s _ _ e] at n; cases n
def PageAt (PC : Addr) (H : Hp) (q : Addr) (L : Obs Fl) : Prop := ∃ dx l, H q = some (.ins PC dx [("_rows", .ref l)]) ∧ H l = some (.lst (refs L))
theorem PageAt.same {PC : Addr} {H H' : Hp} {q : Addr} {L : Obs Fl} (h : PageAt PC H q L) (s : Same H H') : PageAt PC H' q L := by
  obtain ⟨dx, l, h1, h2⟩ := h
  exact ⟨dx, l, s _ _ h1, s _ _ h2⟩
def RowsAt (R : Addr) (H : Hp) (L : Obs Fl) : Prop := ∀ x ∈ L, RowAt R H x.1 (fv x.2.1) (fv x.2.2) ∧ fokP x.2
theorem RowsAt.same {R : Addr} {H H' : Hp} {L : Obs Fl} (h : RowsAt R H L) (s : Same H H') : RowsAt R H' L := fun x hx => ⟨(h x hx).1.same s, (h x hx).2⟩
structure PgT (K : PySem.W.Frag) (mg : Str → Option Value) (PC : Addr) : Prop where
  cl : Cls K PC
  nR : NoAttr K PC "_rows"
  isi : mg "isinstance" = none
  list : mg "list" = none
  len : mg "len" = none
  all : mg "all" = none
  enum : mg "enumerate" = none
  m7 : ∃ t, mg "MOST_ROWS" = some (.int 7 t)
def spPageI (K : PySem.W.Frag) (PC R : Addr) : Sp := fun vs H Q _ => ∃ (H0 : Hp) (q dx a : Addr) (L : Obs Fl), vs = [.ref q, .ref a] ∧ Same H0 H ∧ H0 q = none ∧ H q = some (.ins PC dx []) ∧ SqL K H0 a (refs L) ∧ L.length ≤ 7 ∧ RowsAt R H0 L ∧ ∀ H' l, Same H0 H' → H0 l = none → H' q = some (.ins PC dx [("_rows", .ref l)]) → H' l = some (.lst (refs L)) → Q .non H'
theorem ok_page_init {f PC : Addr} {fd : FuncData} {dvs : List V} (F : FunD K "__init__" "Page.__init__" (defArgs s_Page_init) (defBody s_Page_init) (defScope s_Page_init) dvs [] f fd) (T : PgT K mg PC) (RC : RowC K mg R) (gR : mg "Row" = some (.ref R)) : FnOk P w K mg base CX0 1 f fd ["self", "rows"] (spPageI K PC R) := by
  obtain ⟨t7, g7⟩ := T.m7
  refine F.ok sc_Page_init (fun vs H Q E h => ?_) (fun cdv A outer s H vs Q E hr h => ?_)
  · obtain ⟨H0, q, dx, a, L, rfl, _⟩ := h
    rfl
  · obtain ⟨H0, q, dx, a, L, rfl, s0, q0, hq, ha, hL, hrows, k⟩ := h
    refine ⟨_, PSs.nox (pss_cons (ps_for PassesOwn.never rfl (pi_enum (by rfl) T.enum (pa_cons (pv 1) pa_nil)) (pg_tup rfl (pgs_cons (pg_name (i := 2) sc_Page_init.nd rfl (Or.inl rfl)) (pgs_cons (pg_name (i := 3) sc_Page_init.nd rfl (Or.inl rfl)) pgs_nil)))
        (pss_one (ps_if (PW.pt (pw_or (pt_cmpR op_eq (pv 2) (pe_glob (v := .int 7) (by rfl) g7 ⟨_, rfl⟩) (nomark _)) (pw_or1 (pt_not (pt_val (pe_callB call_isi (by rfl) T.isi (by decide +kernel) (pa_cons (pv 3) (pa_cons (pe_glob (v := .ref R) (by rfl) gR rfl) pa_nil)))))))) (pss_one ps_never) pss_nil)))
      (pss_one (ps_fld (pv 0) (pe_callTy call_list_of (by rfl) T.list (by decide +kernel) (pa_cons (pv 1) pa_nil)) rfl))), ?_⟩
    refine ⟨_, rfl, a, refs L, rfl, s0.seq ha, for_it (walk_enum (K := K) (a := a) (xs := refs L)) (fun i σ H' => ∃ x y, σ = [some (.ref q), some (.ref a), x, y] ∧ Same H H') ⟨none, none, rfl, Same.refl H⟩ (fun i σ H' _ z => ?_) ?_ ?_⟩
    · obtain ⟨_, _, _, s1⟩ := z
      exact (s0.trans s1).seq ha
    · rintro i x σ H' H2 hi ⟨x0, y0, rfl, s1⟩ ⟨t, u, v, rfl, nt, rfl, eu, ev⟩
      obtain ⟨y, hy, rfl⟩ := refs_get ev
      obtain rfl := (Option.some.inj eu).symm
      have s2 := s1.trans (same_upd (o := .tup [V.int (i : Nat), V.ref y.1]) nt)
      have hR := (hrows y (List.mem_of_getElem? hy)).1.same (s0.trans s2)
      refine ⟨t, _, rfl, SqT.of upd_same, rfl, _, _, rfl, _, _, rfl, rfl, ?_⟩
      refine ⟨_, rfl, rfl, _, rfl, ?_⟩
      have hi7 : i < 7 := Nat.lt_of_lt_of_le (by rw [refs_len] at hi; exact hi) hL
      have e7 : decide (V.int (i : Nat) = V.int 7) = false := decide_eq_false fun z => by
        injection z with z
        omega
      rw [e7]
      refine iteF ⟨_, rfl, .ref y.1, .ref R, .ref R, .ref R, true, rfl, .own R, RC.ty hR, RC.kk, true, rfl, iteF ⟨_, _, rfl, s2⟩⟩
    · rintro σ H' ⟨x0, y0, rfl, s1⟩
      have t1 := s0.trans s1
      refine ⟨_, rfl, a, _, rfl, .inl (t1.seq ha), fun l nl => ?_⟩
      have hq1 := s1 _ _ hq
      have qs : q ≠ l := ne_of_none hq1 nl
      refine ⟨_, rfl, q, PC, dx, _, rfl, by rw [upd_ne qs]; exact hq1, T.cl, T.nR, (by show (0 : Nat) < 1000; decide), ?_⟩
      refine k _ l (fun b o e => ?_) (none_of t1 nl) upd_same ?_
      · rw [upd_ne (ne_of_none e q0)]
        exact (t1.trans (same_upd nl)) _ _ e
      · rw [upd_ne qs.symm]
        exact upd_same
def spPgRows (PC : Addr) : Sp := fun vs H Q _ => ∃ (q : Addr) (L : Obs Fl), vs = [.ref q] ∧ PageAt PC H q L ∧ ∀ H' l, Same H H' → H l = none → H' l = some (.lst (refs L)) → Q (.ref l) H'
theorem ok_pg_rows {f PC : Addr} {fd : FuncData} (F : Fun K "rows" "Page.rows" s_Page_rows f fd) (T : PgT K mg PC) : FnOk P w K mg base CX0 1 f fd ["self"] (spPgRows PC) := by
  refine F.ok sc_Page_rows (fun vs H Q E h => ?_) (fun cdv A outer s H vs Q E hr h => ?_)
  · obtain ⟨q, L, rfl, _⟩ := h
    rfl
  · obtain ⟨q, L, rfl, ⟨dx, l, h1, h2⟩, k⟩ := h
    refine ⟨_, pss_one (ps_ret (pe_callTy call_list_of (by rfl) T.list (by decide +kernel) (pa_cons (pe_fld (pv 0) rfl) pa_nil))), ?_⟩
    exact ⟨_, rfl, q, PC, dx, _, _, rfl, h1, T.cl, T.nR, rfl, l, _, rfl, .inl (SqL.of h2), fun m nm => k _ m (same_upd nm) nm upd_same⟩
def spPgLen (PC : Addr) : Sp := fun vs H Q _ => ∃ (q : Addr) (L : Obs Fl), vs = [.ref q] ∧ PageAt PC H q L ∧ Q (.int (L.length : Nat)) H
theorem ok_pg_len {f PC : Addr} {fd : FuncData} (F : Fun K "__len__" "Page.__len__" s_Page_len f fd) (T : PgT K mg PC) : FnOk P w K mg base CX0 1 f fd ["self"] (spPgLen PC) := by
  refine F.ok sc_Page_len (fun vs H Q E h => ?_) (fun cdv A outer s H vs Q E hr h => ?_)
  · obtain ⟨q, L, rfl, _⟩ := h
    rfl
  · obtain ⟨q, L, rfl, ⟨dx, l, h1, h2⟩, k⟩ := h
    refine ⟨_, pss_one (ps_ret (pe_callB call_len_seq (by rfl) T.len PySem.boot_len (pa_cons (pe_fld (pv 0) rfl) pa_nil))), ?_⟩
    refine ⟨_, rfl, q, PC, dx, _, _, rfl, h1, T.cl, T.nR, rfl, l, _, rfl, .inl (SqL.of h2), ?_⟩
    rw [refs_len]
    exact k
end
end Toy
set_option Elab.async false
set_option linter.all false
set_option maxRecDepth 100000
set_option maxHeartbeats 4000000
namespace Toy
open PySem PySem.Spec PyProof.Rows L2
/-! ### bytes of numbers -/
def bA (ns : List Nat) : Array UInt8 := byteArr (ns.map fun (k : Nat) => (k : Int))
theorem bA_app (a b : List Nat) : bA a ++ bA b = bA (a ++ b) := by
  unfold bA
  rw [byteArr_app, List.map_append]
theorem bA_size (ns : List Nat) : (bA ns).size = ns.length := by
  unfold bA
  rw [byteArr_size, List.length_map]
theorem bA_bi {ns : List Nat} (h : ∀ k ∈ ns, k < 256) : bi (bA ns) = ns.map fun (k : Nat) => (k : Int) := bi_make fun n hn => by
  obtain ⟨k, hk, rfl⟩ := List.mem_map.mp hn
  have := h k hk
  omega
theorem bA_list {ns : List Nat} (h : ∀ k ∈ ns, k < 256) : (bi (bA ns)).map V.int = ns.map vi := by
  rw [bA_bi h, List.map_map]
  rfl
theorem bA_inj {a b : List Nat} (ha : ∀ k ∈ a, k < 256) (hb : ∀ k ∈ b, k < 256) (h : bA a = bA b) : a = b := by
  have := congrArg bi h
  rw [bA_bi ha, bA_bi hb] at this
  have e : ∀ l : List Nat, (l.map fun (k : Nat) => (k : Int)).map Int.toNat = l := fun l => by
    rw [List.map_map]
    conv => rhs; rw [← List.map_id l]
    exact List.map_congr_left fun k _ => Int.toNat_natCast k
  rw [← e a, this, e b]
theorem bA_mid (a c : Nat) (l : List Nat) : PySem.W.KBy.picked (bA (a :: l ++ [c])) (some 1) (some (-1)) = bA l := by
  rw [PySem.W.KBc.picked_eq]
  show (((bA (a :: l ++ [c])).toList.drop (clipAt (bA (a :: l ++ [c])).size ((1 : Nat) : Int))).take (clipAt (bA (a :: l ++ [c])).size (-1) - clipAt (bA (a :: l ++ [c])).size ((1 : Nat) : Int))).toArray = _
  have sz : (bA (a :: l ++ [c])).size = l.length + 2 := by rw [bA_size]; simp
  have n1 := clipAt_neg (bA (a :: l ++ [c])).size 1 (Nat.le_refl 1)
  have e1 : clipAt (bA (a :: l ++ [c])).size (-1) = l.length + 1 := by
    rw [sz] at n1 ⊢
    exact n1.trans (by omega)
  rw [e1, clipAt_nat, sz, Nat.min_eq_left (by omega)]
  unfold bA byteArr
  simp [List.drop_append, List.take_append]
/-! ### the bytes of rows -/
def fb : Option Nat → Nat
  | none => 0
  | some k => k + 1
theorem fb_lt {o : Option Nat} (h : fok o) : fb o ≤ 31 := by
  cases o with
  | none => exact Nat.zero_le _
  | some k => exact Nat.succ_le_succ (h k rfl)
theorem fb_inj {a b : Option Nat} (h : fb a = fb b) : a = b := by
  cases a <;> cases b <;> simp [fb] at h ⊢ <;> omega
def rb : List Fl → List Nat
  | [] => []
  | q :: r => fb q.1 :: fb q.2 :: rb r
theorem rb_app : ∀ a b : List Fl, rb (a ++ b) = rb a ++ rb b
  | [], _ => rfl
  | q :: r, b => by
    show fb q.1 :: fb q.2 :: rb (r ++ b) = _
    rw [rb_app r b]
    rfl
theorem rb_len : ∀ a : List Fl, (rb a).length = 2 * a.length
  | [] => rfl
  | q :: r => by
    show (rb r).length + 1 + 1 = 2 * (r.length + 1)
    rw [rb_len r]
    omega
theorem rb_take : ∀ (a : List Fl) (k : Nat), rb (a.take k) = (rb a).take (2 * k)
  | [], k => by simp [rb]
  | q :: r, 0 => rfl
  | q :: r, k + 1 => by
    show fb q.1 :: fb q.2 :: rb (r.take k) = _
    rw [rb_take r k]
    rfl
theorem rb_drop : ∀ (a : List Fl) (k : Nat), rb (a.drop k) = (rb a).drop (2 * k)
  | [], k => by simp [rb]
  | q :: r, 0 => rfl
  | q :: r, k + 1 => by
    show rb (r.drop k) = _
    rw [rb_drop r k]
    rfl
theorem rb_lt : ∀ {a : List Fl}, (∀ q ∈ a, fokP q) → ∀ k ∈ rb a, k ≤ 31
  | [], _, k, h => absurd h List.not_mem_nil
  | q :: r, hq, k, h => by
    have hh := hq q List.mem_cons_self
    rcases List.mem_cons.mp h with rfl | h
    · exact fb_lt hh.1
    · rcases List.mem_cons.mp h with rfl | h
      · exact fb_lt hh.2
      · exact rb_lt (fun y hy => hq y (List.mem_cons_of_mem _ hy)) k h
theorem rb_inj : ∀ {a b : List Fl}, rb a = rb b → a = b
  | [], [], _ => rfl
  | [], _ :: _, h => by cases h
  | _ :: _, [], h => by cases h
  | q :: r, p :: s, h => by
    have h : fb q.1 :: fb q.2 :: rb r = fb p.1 :: fb p.2 :: rb s := h
    injection h with h1 h
    injection h with h2 h3
    obtain ⟨a, b⟩ := q
    obtain ⟨c, d⟩ := p
    obtain rfl := fb_inj h1
    obtain rfl := fb_inj h2
    rw [rb_inj h3]
/-- all numbers of a page's bytes -/
def nums (qs : List Fl) : List Nat := (qs.length :: rb qs) ++ [(qs.length + (rb qs).sum) % 256]
theorem nums_lt {qs : List Fl} (h7 : qs.length ≤ 7) (h : ∀ q ∈ qs, fokP q) : ∀ k ∈ nums qs, k < 256 := by
  intro k hk
  unfold nums at hk
  simp only [List.cons_append, List.mem_cons, List.mem_append, List.not_mem_nil, or_false] at hk
  rcases hk with rfl | hk | rfl
  · omega
  · have := rb_lt h k hk; omega
  · exact Nat.mod_lt _ (by decide)
theorem rb_mid {qs : List Fl} {i j : Nat} : rb ((qs.take j).drop i) = ((rb qs).take (2 * j)).drop (2 * i) := by rw [rb_drop, rb_take]
theorem nums_mid {qs : List Fl} {i j : Nat} (hj : j ≤ qs.length) : ((nums qs).take (1 + 2 * j)).drop (1 + 2 * i) = rb ((qs.take j).drop i) := by
  rw [rb_mid]
  unfold nums
  have hz := rb_len qs
  rw [List.take_append_of_le_length (by simp; omega), show 1 + 2 * j = 2 * j + 1 by omega, List.take_succ_cons, show 1 + 2 * i = 2 * i + 1 by omega, List.drop_succ_cons]
theorem mid_join {α : Type} (xs : List α) {l m h : Nat} (h1 : l ≤ m) (h2 : m ≤ h) : (xs.take m).drop l ++ (xs.take h).drop m = (xs.take h).drop l := by
  have e : xs.take m = (xs.take h).take m := by rw [List.take_take, Nat.min_eq_left h2]
  rw [e]
  generalize xs.take h = ys
  by_cases hm : m ≤ ys.length
  · have z : ys.drop l = (ys.take m ++ ys.drop m).drop l := by rw [List.take_append_drop]
    rw [z, List.drop_append_of_le_length (by rw [List.length_take, Nat.min_eq_left hm]; exact h1)]
  · rw [List.take_of_length_le (by omega), List.drop_of_length_le (show ys.length ≤ m by omega), List.append_nil]
theorem cut_mid {xs : List V} {i j : Nat} : cutV xs (some (i : Int)) (some (j : Int)) = (xs.take j).drop i := by
  unfold cutV
  rw [HT.sIx_nat, HT.sIx_nat, List.drop_take]
  by_cases hi : i ≤ xs.length
  · rw [Nat.min_eq_left hi]
    by_cases hj : j ≤ xs.length
    · rw [Nat.min_eq_left hj]
    · rw [Nat.min_eq_right (by omega), List.take_of_length_le (by rw [List.length_drop]; exact Nat.le_refl _), List.take_of_length_le (by rw [List.length_drop]; omega)]
  · rw [Nat.min_eq_right (show xs.length ≤ i by omega), List.drop_of_length_le (Nat.le_refl _), List.drop_of_length_le (show xs.length ≤ i by omega), List.take_nil, List.take_nil]
end Toy
set_option Elab.async false
set_option linter.all false
set_option maxRecDepth 100000
set_option maxHeartbeats 4000000
namespace Vx
open PySem PySem.Spec PyProof.Rows L2
/-- a walk of n turns, whatever a turn does -/
theorem turns {J : It} {n : Nat} {S : Hp} {Qd : Hp → Prop} {Bd : (Hp → Prop) → V → Hp → Prop} (Pv : Nat → Hp → Prop) (h0 : Pv 0 S) (fin : ∀ H, Pv n H → J.stop n H ∧ Qd H) (go : ∀ i H, i < n → Pv i H → J.go i H ∧ ∀ x G, J.yld i H x G → Bd (Pv (i + 1)) x G) :
    ∃ W : Nat → Nat → Hp → Prop, (∃ m, W 0 m S) ∧ ∀ i m H, W i m H → (J.stop i H ∧ Qd H) ∨ (J.go i H ∧ ∃ Nx : Hp → Prop, (∀ H', Nx H' → ∃ m', m' < m ∧ W (i + 1) m' H') ∧ ∀ x H', J.yld i H x H' → Bd Nx x H') := by
  refine ⟨fun i m H => i + m = n ∧ Pv i H, ⟨n, Nat.zero_add n, h0⟩, fun i m H hw => ?_⟩
  obtain ⟨e, p⟩ := hw
  cases m with
  | zero =>
    have e : i = n := e
    subst e
    exact Or.inl (fin H p)
  | succ m =>
    obtain ⟨g1, g2⟩ := go i H (by omega) p
    exact Or.inr ⟨g1, Pv (i + 1), fun G pg => ⟨m, Nat.lt_succ_self m, by omega, pg⟩, g2⟩
end Vx
namespace Toy
open PySem PySem.Spec PyProof.Rows L2
section
variable {P : Program} {w : World} {K : PySem.W.Frag} {mg : Str → Option Value} {base : Heap} {R PC W : Addr}
structure Cal (P : Program) (w : World) (K : PySem.W.Frag) (mg : Str → Option Value) (base : Heap) (CX : CXT) (k : Nat) (f : Addr) (fd : FuncData) (x : Str) (ps : List Str) (sp : Sp) : Prop where
  G : FnOk P w K mg base CX k f fd ps sp
  k : PySem.W.keepIn K (.ref f) = true
  b : L2.Binds K fd ps []
  g : mg x = some (.ref f)
/-! ### _byte, _row_bytes -/
def spByte : Sp := fun vs H Q _ => ∃ o : Option Nat, vs = [fv o] ∧ Q (vi (fb o)) H
theorem ok_byte {f : Addr} {fd : FuncData} (F : Fun K "_byte" "_byte" s_byte f fd) : FnOk P w K mg base CX0 1 f fd ["writer"] spByte := by
  refine F.ok sc_byte (fun vs H Q E h => ?_) (fun cdv A outer s H vs Q E hr h => ?_)
  · obtain ⟨o, rfl, _⟩ := h
    rfl
  · obtain ⟨o, rfl, q⟩ := h
    refine ⟨_, pss_one (ps_ret (pe_ifExp (pt_cmpR op_isN (pv 0) pe_non (nomark _)) pe_int (pe_op op_add (pv 0) pe_int))), ?_⟩
    cases o with
    | none => exact ⟨_, rfl, rfl, true, rfl, iteT q⟩
    | some k => exact ⟨_, rfl, rfl, false, congrArg V.bl (decide_eq_false fun z => by cases z), iteF ⟨_, rfl, _, _, rfl, rfl, q⟩⟩
structure RowP (P : Program) (w : World) (K : PySem.W.Frag) (mg : Str → Option Value) (base : Heap) (R pB pE gB gE : Addr) (fdB fdE : FuncData) : Prop where
  cl : Cls K R
  prB : PropOf K R "beginner" pB gB
  FB : FnOk P w K mg base CX0 1 gB fdB ["self"] (getSp R "_beginner")
  bB : L2.Binds K fdB ["self"] []
  prE : PropOf K R "ender" pE gE
  FE : FnOk P w K mg base CX0 1 gE fdE ["self"] (getSp R "_ender")
  bE : L2.Binds K fdE ["self"] []
def spRB (K : PySem.W.Frag) (R : Addr) : Sp := fun vs H Q _ => ∃ (l : Addr) (L : Obs Fl), vs = [.ref l] ∧ H l = some (.lst (refs L)) ∧ L.length ≤ 7 ∧ RowsAt R H L ∧ ∀ H' m, Same H H' → H m = none → H' m = some (.lst ((rb (L.map Prod.snd)).map vi)) → Q (.ref m) H'
theorem ok_rb {f fB pB pE gB gE : Addr} {fd fdF fdB fdE : FuncData} (F : Fun K "_row_bytes" "_row_bytes" s_row_bytes f fd) (G : Cal P w K mg base CX0 1 fB fdF "_byte" ["writer"] spByte) (T : RowP P w K mg base R pB pE gB gE fdB fdE) : FnOk P w K mg base CX0 3 f fd ["rows"] (spRB K R) := by
  refine F.ok sc_row_bytes (fun vs H Q E h => ?_) (fun cdv A outer s H vs Q E hr h => ?_)
  · obtain ⟨l, L, rfl, _⟩ := h
    rfl
  · obtain ⟨l, L, rfl, hl, hz, hR, q⟩ := h
    have hr1 : Room 1 _ := hr.mono (by decide)
    have nd := sc_row_bytes.nd
    refine ⟨_, pss_one (ps_ret (pe_lc2 (own := [("row", 1), ("writer", 2)]) (vs1 := [2]) (g := gName 1) (g1 := gName 2) (tt := tYes) (tt1 := tYes) rfl nd (pi_list (pv 0))
      (blkOk_by (own := [("row", 1), ("writer", 2)]) (N := ["rows", "row", "writer"]) (sc := defScope s_row_bytes) (by decide +kernel)) (by decide) (fun _ _ _ _ _ => pg_name (i := 1) nd rfl (Or.inl rfl)) (fun _ _ _ _ _ => pts_nil)
      (fun _ _ _ _ _ => show PI _ _ _ (iTup K _) from pi_tup (pe_tup (pa_cons (pe_prop (pv 1) T.cl T.prB T.FB hr T.bB .nil pass0 rfl) (pa_cons (pe_prop (pv 1) T.cl T.prE T.FE hr T.bE .nil pass0 rfl) pa_nil))))
      (fun _ _ _ _ _ => pg_name (i := 2) nd rfl (Or.inl rfl)) (fun _ _ _ _ _ => pts_nil)
      (fun _ _ _ _ _ => pe_call G.G hr1 (by rfl) G.g G.k G.b .nil pass0 (pa_cons (pv 2) pa_nil)))), ?_⟩
    refine ⟨_, rfl, l, rfl, ⟨_, SqL.of hl⟩, fun D hD => ?_⟩
    have len3 : ∀ i : Nat, i ≤ L.length → (rb ((L.take i).map Prod.snd)).length ≤ 14 := fun i hi => by rw [rb_len, List.length_map, List.length_take]; omega
    refine Vx.turns (n := L.length) (fun i H' => Same H H' ∧ H' D = some (.lst ((rb ((L.take i).map Prod.snd)).map vi))) ⟨same_upd hD, upd_same⟩ (fun H' z => ?_) ?_
    · obtain ⟨s1, e1⟩ := z
      refine ⟨⟨refs L, SqL.of (s1 _ _ hl), by rw [refs_len]; exact Nat.le_refl _⟩, ?_⟩
      rw [List.take_length] at e1
      exact q H' D s1 hD e1
    · rintro i H' hi ⟨s1, e1⟩
      have hLi : L[i]? = some L[i] := List.getElem?_eq_getElem hi
      generalize L[i] = y at hLi
      obtain ⟨ya, yb, ye⟩ := y
      refine ⟨⟨refs L, .ref ya, SqL.of (s1 _ _ hl), refs_at hLi⟩, ?_⟩
      rintro x G ⟨rfl, hx⟩
      have ex := hx _ (SqL.of (s1 _ _ hl))
      rw [refs_at hLi] at ex
      cases ex
      have hy := hR (ya, yb, ye) (List.mem_of_getElem? hLi)
      obtain ⟨⟨dy, ey⟩, fy⟩ := hy
      have ey1 := s1 _ _ ey
      refine ⟨rfl, _, rfl, ya, dy, _, rfl, ey1, ya, dy, _, _, rfl, ey1, rfl, _, rfl, ya, dy, _, rfl, ey1, ya, dy, _, _, rfl, ey1, rfl, by show 2 ≤ sizeLine; decide, fun t nt => ?_⟩
      have s2 := same_upd (o := .tup [fv yb, fv ye]) nt
      have et : (upd G t (.tup [fv yb, fv ye])) t = some (.tup [fv yb, fv ye]) := upd_same
      refine ⟨t, rfl, ⟨_, SqT.of et⟩, ?_⟩
      have tk : L.take (i + 1) = L.take i ++ [(ya, yb, ye)] := by rw [List.take_add_one, hLi]; rfl
      have full : rb ((L.take (i + 1)).map Prod.snd) = rb ((L.take i).map Prod.snd) ++ [fb yb, fb ye] := by
        rw [tk, List.map_append, rb_app]
        rfl
      have tD : t ≠ D := (ne_of_none e1 nt).symm
      have part : ∀ (j : Nat) (o : Option Nat), [yb, ye][j]? = some o → ∀ G', Same H G' ∧ G' D = some (.lst ((rb ((L.take i).map Prod.snd) ++ [fb yb, fb ye].take j).map vi)) ∧ G' t = some (.tup [fv yb, fv ye]) → ∃ acc, G' D = some (.lst acc) ∧ acc.length < sizeLine ∧
          (Same H (upd G' D (.lst (acc ++ [vi (fb o)]))) ∧ (upd G' D (.lst (acc ++ [vi (fb o)]))) D = some (.lst ((rb ((L.take i).map Prod.snd) ++ [fb yb, fb ye].take (j + 1)).map vi)) ∧ (upd G' D (.lst (acc ++ [vi (fb o)]))) t = some (.tup [fv yb, fv ye])) := by
        rintro j o hj G' ⟨a1, a2, a3⟩
        refine ⟨_, a2, ?_, fun b u eb => ?_, ?_, ?_⟩
        · rw [List.length_map, List.length_append]
          have h1 := len3 i (Nat.le_of_lt hi)
          have h2 : ([fb yb, fb ye].take j).length ≤ 2 := Nat.le_trans (List.length_take_le' _ _) (Nat.le_refl _)
          exact Nat.lt_of_le_of_lt (show _ ≤ 16 by omega) (by decide)
        · rw [upd_ne (ne_of_none eb hD)]
          exact a1 _ _ eb
        · rw [upd_same]
          match j, hj with
          | 0, hj => cases hj; simp
          | 1, hj => cases hj; simp
          | j + 2, hj => cases hj
        · rw [upd_ne tD]
          exact a3
      refine Vx.turns (n := 2) (fun j G' => Same H G' ∧ G' D = some (.lst ((rb ((L.take i).map Prod.snd) ++ [fb yb, fb ye].take j).map vi)) ∧ G' t = some (.tup [fv yb, fv ye])) ⟨s1.trans s2, ?_, et⟩ (fun G' z => ?_) ?_
      · rw [upd_ne tD.symm, e1]
        simp
      · obtain ⟨a1, a2, a3⟩ := z
        refine ⟨⟨_, SqT.of a3, Nat.le_refl _⟩, a1, ?_⟩
        rw [full]
        exact a2
      · rintro j G' hj ⟨a1, a2, a3⟩
        match j, hj with
        | 0, _ =>
          refine ⟨⟨_, _, SqT.of a3, rfl⟩, ?_⟩
          rintro x G2 ⟨rfl, hx⟩
          have ex := hx _ (SqT.of a3)
          cases ex
          exact ⟨rfl, _, rfl, yb, rfl, part 0 yb rfl _ ⟨a1, a2, a3⟩⟩
        | 1, _ =>
          refine ⟨⟨_, _, SqT.of a3, rfl⟩, ?_⟩
          rintro x G2 ⟨rfl, hx⟩
          have ex := hx _ (SqT.of a3)
          cases ex
          exact ⟨rfl, _, rfl, ye, rfl, part 1 ye rfl _ ⟨a1, a2, a3⟩⟩
end
end Toy
set_option Elab.async false
set_option linter.all false
set_option maxRecDepth 100000
set_option maxHeartbeats 4000000
namespace Vx
open PySem PySem.SeqAt
open AutoSeq1 (wpAny_loadPart')
open MeetsSeq MeetsSeq2 MeetsSeq3 SeqRoads2
/-- c at k places from i on -/
def allC (c : Nat → Bool) : Nat → Nat → Bool
  | _, 0 => true
  | i, k + 1 => c i && allC c (i + 1) k
section
variable {prog : Program} {w : World} {A : Around} {R : Result → Shared → Prop}
def ListB (prog : Program) (w : World) (A : Around) (E : Value → Shared → Prop) (l b : Addr) (N : Nat) (J : Shared → Prop) (c : Nat → Bool) : Prop :=
  ∀ i s, J s → ∃ (items items2 : Array Value) (n n2 : Nat), s.heap.get? l = some { cls := .type "list", data := .seq items n } ∧ s.heap.get? b = some { cls := .type "list", data := .seq items2 n2 } ∧ items.size = N ∧ items2.size = N ∧
    ∀ (h1 : i < items.size) (h2 : i < items2.size), wpAny (model prog w) A.in1 (eqBool items[i] items2[i]) (fun r s' => r = c i ∧ J s') E s
theorem eq_loopB (l b : Addr) (N : Nat) (J : Shared → Prop) (c : Nat → Bool) (hl : ListB prog w A (fun e s' => R (.error e) s') l b N J c) (k : Nat) :
    ∀ i : Nat, N - i = k → i ≤ N → ∀ s, J s → (∀ s, J s → R (.ok (.ret (.bool (allC c i k)))) s) →
      wpAny (model prog w) A.in1 (Builtin.«list.__eq__.loop» ⟨[.ref l, .ref b, rawInt i, rawInt 2], []⟩) (GQ.FinOf prog w A R) (fun e s' => R (.error e) s') s := by
  induction k with
  | zero =>
    intro i hk hi s h fin
    obtain ⟨items, items2, n, n2, hl1, hb1, hs1, hs2, _⟩ := hl i _ h
    have hi' : i = N := by omega
    have hR : R (.ok (.ret (.bool true))) s := fin s h
    obtain ⟨hp, g, d, tk, os⟩ := s
    wp_walk using wpAny_loadPart' hl1, wpAny_loadPart' hb1
    have hi1 : items[((i : Nat) : Int).toNat]? = none := by simp; omega
    have hi2 : items2[((i : Nat) : Int).toNat]? = none := by simp; omega
    rw [hi1, hi2]
    wp_walk using wpAny_loadPart' hl1, wpAny_loadPart' hb1
    show R (.ok (.ret (.bool (items.size == items2.size)))) _
    rw [hs1, hs2]
    simpa using hR
  | succ k ih =>
    intro i hk hi s h fin
    obtain ⟨items, items2, n, n2, hl1, hb1, hs1, hs2, turn⟩ := hl i _ h
    have hlt : i < items.size := by omega
    have hlt2 : i < items2.size := by omega
    have ht := turn hlt hlt2
    obtain ⟨hp, g, d, tk, os⟩ := s
    wp_walk using wpAny_loadPart' hl1, wpAny_loadPart' hb1
    have hi1 : items[((i : Nat) : Int).toNat]? = some items[i] := by simp [hlt]
    have hi2 : items2[((i : Nat) : Int).toNat]? = some items2[i] := by simp [hlt2]
    have hc : ((i : Int) + 1) = ((i + 1 : Nat) : Int) := by omega
    rw [hi1, hi2]
    refine wpAny_bind (wpAny_mono ht (fun r s2 h2 => ?_) fun _ _ x => x)
    obtain ⟨hr, h2⟩ := h2
    cases hci : c i with
    | true =>
      rw [hci] at hr
      subst hr
      have hrec := ih (i + 1) (by omega) (by omega) s2 h2 (fun s hs => by
        have z := fin s hs
        unfold allC at z
        rw [hci, Bool.true_and] at z
        exact z)
      obtain ⟨hp2, g2, d2, tk2, os2⟩ := s2
      wp_walk
      rw [hc]
      exact ⟨plainId_quiet plain_eq_loop _, codeAny_builtin entry_eq_loop (by
        rw [Around.under_plainId plain_eq_loop _]
        exact hrec)⟩
    | false =>
      rw [hci] at hr
      subst hr
      have hR : R (.ok (.ret (.bool false))) s2 := by
        have z := fin s2 h2
        unfold allC at z
        rw [hci, Bool.false_and] at z
        exact z
      obtain ⟨jt, jt2, m, m2, hl3, hb3, hs3, hs4, _⟩ := hl i _ h2
      obtain ⟨hp2, g2, d2, tk2, os2⟩ := s2
      wp_walk using wpAny_loadPart' hl3, wpAny_loadPart' hb3
      have hj1 : jt[((i : Nat) : Int).toNat]? = some (jt[i]'(by omega)) := by simp
      have hj2 : jt2[((i : Nat) : Int).toNat]? = some (jt2[i]'(by omega)) := by simp
      rw [hj1, hj2]
      wp_walk
      exact hR
theorem list_eqB (l b : Addr) (N : Nat) (J : Shared → Prop) (c : Nat → Bool) (hl : ListB prog w A (fun e s' => R (.error e) s') l b N J c)
    (fin : ∀ s, J s → R (.ok (.ret (.bool (allC c 0 N)))) s) {s : Shared} (h : J s) :
    wpAny (model prog w) A.in1 (Builtin.«list.__eq__» ⟨[.ref l, .ref b], []⟩) (GQ.FinOf prog w A R) (fun e s' => R (.error e) s') s := by
  obtain ⟨items, items2, n, n2, hl1, hb1, hs1, hs2, _⟩ := hl 0 _ h
  have hrec := eq_loopB (A := A) (R := R) l b N J c hl N 0 rfl (Nat.zero_le _) s h fin
  obtain ⟨hp, g, d, tk, os⟩ := s
  have f3 := AutoSeq1.sub_list_list
  have hne : ¬ (items.size != items2.size) = true := by simp [hs1, hs2]
  wp_walk using wpAny_loadPart' hl1, wpAny_loadPart' hb1
  exact ⟨plainId_quiet plain_eq_loop _, codeAny_builtin entry_eq_loop (by
    rw [Around.under_plainId plain_eq_loop _]
    exact hrec)⟩
theorem list_eqN (l b : Addr) {items items2 : Array Value} {n n2 : Nat} {s : Shared} (hl1 : s.heap.get? l = some { cls := .type "list", data := .seq items n }) (hb1 : s.heap.get? b = some { cls := .type "list", data := .seq items2 n2 }) (hd : items.size ≠ items2.size)
    (fin : R (.ok (.ret (.bool false))) s) :
    wpAny (model prog w) A.in1 (Builtin.«list.__eq__» ⟨[.ref l, .ref b], []⟩) (GQ.FinOf prog w A R) (fun e s' => R (.error e) s') s := by
  obtain ⟨hp, g, d, tk, os⟩ := s
  have f3 := AutoSeq1.sub_list_list
  have hne : (items.size != items2.size) = true := by simp [hd]
  wp_walk using wpAny_loadPart' hl1, wpAny_loadPart' hb1
  exact fin
end
end Vx
namespace Vx
open PySem PySem.Spec PyProof.Rows L2
/-- == gives c for what D says, and makes nothing -/
def EqB (X : Cx) (n : Nat) (D : V → V → Hp → Bool → Prop) : Prop :=
  ∀ (A : Around) (pins : List (Addr × Obj)) (s : Shared) (σ : L2.St) (H : Hp) (x y : V) (u v : Value) (c : Bool), L2.Sub X n A → L2.Inv X pins σ H s → RelV x u → RelV y v → D x y H c →
    wpAny (model X.prog X.w) A (eqBool u v) (fun r s' => r = c ∧ L2.Inv X pins σ H s') X.xe s
def rEqL (D : V → V → Hp → Bool → Prop) : R2 := fun x y H Q => ∃ a b xs ys c, x = .ref a ∧ y = .ref b ∧ H a = some (.lst xs) ∧ H b = some (.lst ys) ∧
  (∀ i u v, xs[i]? = some u → ys[i]? = some v → D u v H (c i)) ∧ Q (.bl (decide (xs.length = ys.length) && allC c 0 xs.length)) H
section
variable {X : Cx} {n : Nat} {D : V → V → Hp → Bool → Prop}
theorem op_eqL (h : EqB X n D) (hr : Room (n + 1) X.A) : OpR X (compareOp .Eq) (rEqL D) := by
  intro pins s σ H x y v u Q I rx ry hq
  obtain ⟨a, b, xs, ys, c, rfl, rfl, ha, hb, hD, q⟩ := hq
  cases rx
  cases ry
  show wpAny (model X.prog X.w) X.A (richCompare .Eq (.ref a) (.ref b)) (EP X pins σ Q) X.xe s
  obtain ⟨z, its, k, r, e⟩ := I.hok a _ ha
  obtain ⟨z2, its2, k2, r2, e2⟩ := I.hok b _ hb
  have sb : L2.Sub X n X.A.in1 := (⟨hr, rfl⟩ : L2.Sub X (n + 1) X.A).in1
  refine wpAny_richCompare_same_room (op := .Eq) ⟨_, e, rfl⟩ ⟨_, e2, rfl⟩ F.slot_list_eq (GQ.call_here F.slot_list_eq ⟨_, e, rfl⟩ F.entry_list_eq (F.args_list_eq_2 _ _) ?_) hr.units0
  by_cases hl : xs.length = ys.length
  · rw [decide_eq_true hl, Bool.true_and] at q
    refine list_eqB (R := wants (fun v s' => v ≠ .notImplemented ∧ EP X pins σ Q v s') X.xe) a b xs.length (fun s' => L2.Inv X pins σ H s') c (fun i s' I1 => ?_) (fun s' I1 => ⟨(fun x => nomatch x), .bl _, H, I1, rfl, q⟩) I
    obtain ⟨z, its, k, r, e⟩ := I1.hok a _ ha
    obtain ⟨z2, its2, k2, r2, e2⟩ := I1.hok b _ hb
    refine ⟨its.toArray, its2.toArray, k, k2, e, e2, by rw [List.size_toArray, ← r.length], by rw [List.size_toArray, ← r2.length, ← hl], fun h1 h2 => ?_⟩
    have g1 : its[i]? = some its.toArray[i] := by
      have h1' : i < its.length := by simpa using h1
      rw [List.getElem?_eq_getElem h1'] <;> simp
    have g2 : its2[i]? = some its2.toArray[i] := by
      have h2' : i < its2.length := by simpa using h2
      rw [List.getElem?_eq_getElem h2'] <;> simp
    have k1 : i < xs.length := by rw [r.length]; simpa using h1
    have k2 : i < ys.length := by rw [r2.length]; simpa using h2
    obtain ⟨u, hu, ru⟩ := r.get (List.getElem?_eq_getElem k1)
    obtain ⟨v, hv, rv⟩ := r2.get (List.getElem?_eq_getElem k2)
    rw [g1] at hu
    rw [g2] at hv
    rw [Option.some.inj hu, Option.some.inj hv]
    exact h X.A.in1 pins s' σ H _ _ u v (c i) sb I1 ru rv (hD i _ _ (List.getElem?_eq_getElem k1) (List.getElem?_eq_getElem k2))
  · rw [decide_eq_false hl, Bool.false_and] at q
    exact list_eqN (R := wants (fun v s' => v ≠ .notImplemented ∧ EP X pins σ Q v s') X.xe) a b e e2 (by rw [List.size_toArray, List.size_toArray, ← r.length, ← r2.length]; exact hl) ⟨(fun x => nomatch x), .bl _, H, I, rfl, q⟩
/-- two instances by the own ==, which makes nothing -/
theorem eqB_ins {k : Nat} {C f : Addr} {sp : Sp} {E : XK} {CX : CXT} (nf : PySem.W.notFirst X.K C (.ref C) = true) (at_ : PySem.W.findIn X.K (.ref C) "__eq__" = some (some (.ref f))) (fn : PySem.W.isFn X.K (.ref f) = true) (F : FnR X.prog X.w X.K X.mg X.base CX k f sp) (hx : Passes CX X E)
    (hd : ∀ x y H c, D x y H c → ∃ a b dx dy fs gs, x = .ref a ∧ y = .ref b ∧ H a = some (.ins C dx fs) ∧ H b = some (.ins C dy gs) ∧ (a = b → c = true) ∧ ∀ Q : VK, Q (.bl c) H → sp [x, y] H Q E) : EqB X k D := by
  intro A pins s σ H x y u v c sb I rx ry d
  obtain ⟨a, b, dx, dy, fs, gs, rfl, rfl, ha, hb, hs, hq⟩ := hd _ _ _ _ d
  cases rx
  cases ry
  by_cases hab : a = b
  · subst hab
    have := hs rfl
    subst this
    exact SeqAt.EqAt.same (A := A) (s := s) (.ref a) X.prog X.w X.xe _ ⟨rfl, I⟩
  · refine GQ.eqBool_refG hab ?_
    obtain ⟨mA, J, _⟩ := ins_get I.hok ha
    obtain ⟨mB, J', _⟩ := ins_get I.hok hb
    obtain ⟨od, J, _⟩ := J.look
    obtain ⟨od', J', _⟩ := J'.look
    obtain ⟨m, hF⟩ := I.fr
    refine PySem.W.cmp_K (op := .Eq) (tb := .ref C) sb.room.units0 hF I.ok.mod.kin J J'.type nf at_ fn ?_
    refine wpAny_mono (wpAny_call (run_in (us := [.ref a, .ref b]) (vs := [V.ref a, V.ref b]) sb F hx I (.cons rfl (.cons rfl .nil)) (hq (fun v H' => v = .bl c ∧ H' = H) ⟨rfl, rfl⟩))) (fun w s' z => ?_) fun _ _ z => z
    obtain ⟨v', H', I', rv, ev, eh⟩ := z
    subst ev eh
    cases rv
    exact ⟨c, rfl, rfl, I'⟩
end
/-- x += y by the own __iadd__ -/
def tIOwn (C : Addr) (sp : Sp) (E : XK) : TIp := fun x y H Q => (∃ a dx fs, x = .ref a ∧ H a = some (.ins C dx fs)) ∧ sp [x, y] H Q E
section
variable {X : Cx} {CX : CXT} {k : Nat} {C f : Addr} {sp : Sp} {E : XK}
theorem pip_own {op : Operator} (sf : PySem.W.selfFirst X.K C = true) (at_ : PySem.W.findIn X.K (.ref C) (dunderI op.info.2) = some (some (.ref f))) (fn : PySem.W.isFn X.K (.ref f) = true) (F : FnR X.prog X.w X.K X.mg X.base CX k f sp) (hr : Room k X.A) (hx : Passes CX X E) : PIp X op (tIOwn C sp E) := by
  intro pins s σ H x y v u Q I rx ry hq
  obtain ⟨⟨a, dx, fs, rfl, ha⟩, hsp⟩ := hq
  have ev : v = Value.ref a := rx
  have cl := call_cmp F hr hx I (us := [v, u]) (vs := [V.ref a, y]) (.cons rx (.cons ry .nil)) hsp
  subst ev
  obtain ⟨mA, J, _⟩ := ins_get I.hok ha
  obtain ⟨od, J, _⟩ := J.look
  obtain ⟨m, hF⟩ := I.fr
  exact PySem.W.ksp_inplace hF I.ok.mod.kin J sf at_ fn cl
end
end Vx
set_option Elab.async false
set_option linter.all false
set_option maxRecDepth 100000
set_option maxHeartbeats 4000000
namespace Vx
open PySem
open AutoSeq1 (wpAny_loadPart')
theorem meets_enumerate_newT (t : Addr) (items : Array Value) :
    Meets (Builtin.«enumerate.__new__» ⟨[.type "enumerate", .ref t], []⟩) (fun _ R s => s.heap.IsTuple t items ∧
      R (.ok (.ret (.ref (s.heap.push { cls := .type "tuple_iterator", data := .fields #[.ref t, .int 0 0] }).objs.size)))
        { s with heap := (s.heap.push { cls := .type "tuple_iterator", data := .fields #[.ref t, .int 0 0] }).push { cls := .type "enumerate", data := .fields #[.none, .bool false, .ref s.heap.objs.size, rawInt 0, .none, .none] } }) :=
  .of_wp fun prog w A R s h => by
    obtain ⟨hp, g, d, tk, os⟩ := s; obtain ⟨hL, h⟩ := h
    have hsub := sub_enumerate
    wp_walk
    refine wpAny_stack_any fun st => wpAny_pure ?_
    split
    · rename_i c _ _ _ _ _
      cases (c == Value.type "enumerate")
      · wp_walk using wpAny_pyIter_tuple hL
        exact ⟨_, rfl, h⟩
      · wp_walk using wpAny_pyIter_tuple hL
        exact ⟨_, rfl, h⟩
    · wp_walk using wpAny_pyIter_tuple hL
      exact ⟨_, rfl, h⟩
section
variable {prog : Program} {w : World} {A : Around} {E : Value → Shared → Prop} {s : Shared}
theorem call_enumerate_tuple {t : Addr} {items : Array Value} {Q : Value → Shared → Prop} (hL : s.heap.IsTuple t items)
    (h : ∀ h', IsEnum h' (s.heap.objs.size + 1) s.heap.objs.size 0 .none → h'.IsTupleIter s.heap.objs.size t 0 → h'.objs.size = s.heap.objs.size + 2 →
      (∀ b o, s.heap.get? b = some o → h'.get? b = some o) → Q (.ref (s.heap.objs.size + 1)) { s with heap := h' }) :
    wpAny (model prog w) A (call (.type "enumerate") [.ref t]) Q E s := by
  refine callType_new F.called_enumerate (by decide) (F.typeCall_enumerate_1 _) (F.newCall_enumerate_1 _) (fun obj => F.args_object_init_2 obj _) F.entry_enumerate_new
    (meets_enumerate_newT t items) ⟨hL, ?_⟩
  have hz : (s.heap.push { cls := .type "tuple_iterator", data := .fields #[.ref t, .int 0 0] }).objs.size = s.heap.objs.size + 1 := Heap.size_push ..
  show _ ∧ _
  rw [hz]
  have he : IsEnum ((s.heap.push { cls := .type "tuple_iterator", data := .fields #[.ref t, .int 0 0] }).push
      { cls := .type "enumerate", data := .fields #[.none, .bool false, .ref s.heap.objs.size, rawInt 0, .none, .none] }) (s.heap.objs.size + 1) s.heap.objs.size 0 .none := by
    have := Heap.get?_push_size (s.heap.push { cls := .type "tuple_iterator", data := .fields #[.ref t, .int 0 0] })
      (o := { cls := .type "enumerate", data := .fields #[.none, .bool false, .ref s.heap.objs.size, rawInt 0, .none, .none] }) rfl
    rw [hz] at this; exact this
  refine ⟨⟨_, he, rfl⟩, h _ he ⟨_, Heap.get?_push_of_some _ (Heap.get?_push_size _ rfl), rfl, rfl⟩ (by rw [Heap.size_push, hz]) fun b o x => Heap.get?_push_of_some _ (Heap.get?_push_of_some _ x)⟩
end
end Vx
namespace Vx
open PySem PySem.Spec PyProof.Rows L2
/-- enumerate of the empty tuple at a -/
def Ite0 (K : PySem.W.Frag) (a : Addr) : It := ⟨fun _ _ => False, fun _ _ _ _ => False, fun i H => i = 0 ∧ SqT K H a []⟩
theorem turn_enum0 {P : Program} {w : World} {K : PySem.W.Frag} {elts : List Expr} {kk : Nat} {tpos : Pos} (a e it : Addr) (hai : a ≠ it) :
    Turn P w K (.Tuple elts kk tpos) (Ite0 K a) [e, it] e (fun i h => (∃ old, IsEnum h e it ((i : Nat) : Int) old) ∧ h.IsTupleIter it a i ∧ e ≠ it) where
  mem := by simp
  obj := fun i h st b hb => by
    obtain ⟨⟨old, he⟩, ⟨o, ho, hc, hd⟩, _⟩ := st
    have e' : b = e ∨ b = it := by simpa using hb
    rcases e' with z | z
    · rw [z]; exact ⟨_, he, fun v q => nomatch q⟩
    · rw [z]; exact ⟨o, ho, fun v q => by rw [hd] at q; cases q⟩
  keep := fun i h h' st k => let ⟨⟨old, he⟩, hi, hne⟩ := st; ⟨⟨old, k e (by simp) _ he⟩, hi.at fun o q => k it (by simp) o q, hne⟩
  item := by
    intro X hP hw hK hc i pins s σ H E I hf st hg
    exact hg.elim
  done := by
    intro X hP hw hK hc i pins s σ H E I hf st hg
    subst hP hw hK
    obtain ⟨⟨old, he⟩, hit, hne⟩ := st
    obtain ⟨rfl, hq⟩ := hg
    obtain ⟨its, rv, p, hz⟩ := I.tuple hq
    obtain ⟨f0, f1, f2, f3, f4, f5⟩ := hf it (by simp)
    cases rv
    exact wpAny_pyNext_enum_endD (Draws.tuple (A := X.A.in1) (I.ok.hd hc) it a hai #[]) he ⟨hit, p⟩ fun h' eb => ⟨rfl, I.turned (t' := s.toks) (fun b o hb q => eb b o hb q) f0 f1 f3 f4 f5⟩
  self := fun A i s Q E st h => let ⟨⟨_, he⟩, _⟩ := st; wpAny_pyIter_enum he h
def iEnum0 (K : PySem.W.Frag) (ta : TA) : TI := fun σ H R => ta σ H fun vs H1 => ∃ a, vs = [.ref a] ∧ SqT K H1 a [] ∧ R (Ite0 K a) H1
theorem pi_enum0 {X : Cx} {e : Expr} {ta : TA} {p pos tpos : Pos} {elts : List Expr} {kk : Nat} (hg : Gl X "enumerate") (hm : X.mg "enumerate" = none) (ha : PA X [e] ta) (hs : starEach [e] X.env = [(false, eval e X.env)] := by rfl) :
    PI X (.Tuple elts kk tpos) (.Call (.Name "enumerate" p) [e] [] pos) (iEnum0 X.K ta) := by
  refine ⟨fun pins s σ H R I h => ?_⟩
  refine Call_ (ld_blt I hg hm boot_enumerate (PyProof.Rows.callWith_type1 (thn (ha.run pos pins s σ H _ I h) fun us s1 ⟨vs, H1, I1, r1, q1⟩ => ?_) hs rfl))
  obtain ⟨a, ex, hq, q⟩ := q1
  subst ex
  cases r1 with
  | cons r rr =>
    cases rr
    cases r
    obtain ⟨its, rv, p', hz⟩ := I1.tuple hq
    have hal : a < s1.heap.objs.size := by
      obtain ⟨o, q, _⟩ := p'
      exact Heap.lt_size q
    refine call_enumerate_tuple p' fun h' he hit hsz hk => wpAny_pyIter_enum he ?_
    have I2 : Inv X pins σ H1 { s1 with heap := h' } := I1.kept (t' := s1.toks) hk
    refine ⟨s1.heap.objs.size + 1, [s1.heap.objs.size + 1, s1.heap.objs.size], _, _, H1, rfl, I2, turn_enum0 a (s1.heap.objs.size + 1) s1.heap.objs.size (Nat.ne_of_lt hal), ⟨⟨.none, he⟩, hit, Nat.succ_ne_self _⟩, fun b hb => ?_, q⟩
    have e' : b = s1.heap.objs.size + 1 ∨ b = s1.heap.objs.size := by simpa using hb
    have hle : s1.heap.objs.size ≤ b := by
      rcases e' with z | z
      · rw [z]; exact Nat.le_add_right _ _
      · rw [z]; exact Nat.le_refl _
    exact I1.fpOk hle (I1.hok.fresh hle)
end Vx
namespace Toy
open PySem PySem.Spec PyProof.Rows L2
section
variable {P : Program} {w : World} {K : PySem.W.Frag} {mg : Str → Option Value} {base : Heap} {R B PC W : Addr}
/-! ### Page(), len, rows ==, += -/
def spPage0 (K : PySem.W.Frag) (PC : Addr) : Sp := fun vs H Q _ => ∃ (H0 : Hp) (q dx a : Addr), vs = [.ref q, .ref a] ∧ Same H0 H ∧ H0 q = none ∧ H q = some (.ins PC dx []) ∧ SqT K H a [] ∧ ∀ H' l, Same H0 H' → H0 l = none → l ≠ q → H' q = some (.ins PC dx [("_rows", .ref l)]) → H' l = some (.lst []) → Q .non H'
theorem ok_page_init0 {f PC : Addr} {fd : FuncData} {dvs : List V} (F : FunD K "__init__" "Page.__init__" (defArgs s_Page_init) (defBody s_Page_init) (defScope s_Page_init) dvs [] f fd) (T : PgT K mg PC) (RC : RowC K mg R) (gR : mg "Row" = some (.ref R)) : FnOk P w K mg base CX0 1 f fd ["self", "rows"] (spPage0 K PC) := by
  obtain ⟨t7, g7⟩ := T.m7
  refine F.ok sc_Page_init (fun vs H Q E h => ?_) (fun cdv A outer s H vs Q E hr h => ?_)
  · obtain ⟨H0, q, dx, a, rfl, _⟩ := h
    rfl
  · obtain ⟨H0, q, dx, a, rfl, s0, q0, hq, ha, k⟩ := h
    refine ⟨_, PSs.nox (pss_cons (ps_for PassesOwn.never rfl (Vx.pi_enum0 (by rfl) T.enum (pa_cons (pv 1) pa_nil)) (pg_tup rfl (pgs_cons (pg_name (i := 2) sc_Page_init.nd rfl (Or.inl rfl)) (pgs_cons (pg_name (i := 3) sc_Page_init.nd rfl (Or.inl rfl)) pgs_nil)))
        (pss_one (ps_if (PW.pt (pw_or (pt_cmpR op_eq (pv 2) (pe_glob (v := .int 7) (by rfl) g7 ⟨_, rfl⟩) (nomark _)) (pw_or1 (pt_not (pt_val (pe_callB call_isi (by rfl) T.isi (by decide +kernel) (pa_cons (pv 3) (pa_cons (pe_glob (v := .ref R) (by rfl) gR rfl) pa_nil)))))))) (pss_one ps_never) pss_nil)))
      (pss_one (ps_fld (pv 0) (pe_callTy call_list_of (by rfl) T.list (by decide +kernel) (pa_cons (pv 1) pa_nil)) rfl))), ?_⟩
    refine ⟨_, rfl, a, rfl, ha, fun i m σ H' => i = 0 ∧ σ = [some (.ref q), some (.ref a), none, none] ∧ H' = H, ⟨0, rfl, rfl, rfl⟩, ?_⟩
    rintro i m σ H' ⟨rfl, rfl, rfl⟩
    refine Or.inl ⟨⟨rfl, ha⟩, ?_⟩
    refine ⟨_, rfl, a, _, rfl, .inr ha, fun l nl => ?_⟩
    have qs : q ≠ l := ne_of_none hq nl
    refine ⟨_, rfl, q, PC, dx, _, rfl, by rw [upd_ne qs]; exact hq, T.cl, T.nR, (by show (0 : Nat) < 1000; decide), ?_⟩
    refine k _ l (fun b o e => ?_) (none_of s0 nl) qs.symm upd_same ?_
    · rw [upd_ne (ne_of_none e q0)]
      exact (s0.trans (same_upd nl)) _ _ e
    · rw [upd_ne qs.symm]
      exact upd_same
theorem page_b0 {t : Addr} (F : PageD K f fd [.ref t]) : ∃ u, RelV (.ref t) u ∧ L2.Binds K fd ["self", "rows"] [u] := by
  obtain ⟨ds, hv, hb⟩ := F.binds1 (ps := ["self", "rows"]) 1 0 (by simp) rfl (fun T kV doc pm an cdv ct us its hu hi => match us, hu, its, hi with | [_], _, [_], _ => ⟨_, rfl, rfl⟩)
  cases hv with
  | cons r1 r2 =>
    cases r2
    exact ⟨_, r1, hb⟩
end
end Toy
set_option Elab.async false
set_option linter.all false
set_option maxRecDepth 100000
set_option maxHeartbeats 4000000
namespace Toy
open PySem PySem.Spec PyProof.Rows L2
theorem and_255 (n : Nat) : Builtin.bitAnd (n : Int) 255 = ((n % 256 : Nat) : Int) := by
  have e : Builtin.bitAnd (n : Int) ((255 : Nat) : Int) = ((n &&& 255 : Nat) : Int) := by rw [bitAnd_pp (Int.natCast_nonneg _) (Int.natCast_nonneg _), Int.toNat_natCast, Int.toNat_natCast]
  have e2 : n &&& 255 = n % 256 := Nat.and_two_pow_sub_one_eq_mod n 8
  rw [← e2]
  exact e
theorem sum_vi (l : List Nat) : (l.map fun (k : Nat) => (k : Int)).sum = ((l.sum : Nat) : Int) := by
  induction l with
  | nil => rfl
  | cons a r ih => rw [List.map_cons, List.sum_cons, List.sum_cons, ih, Int.natCast_add]
theorem map_int_vi (l : List Nat) : (l.map fun (k : Nat) => (k : Int)).map V.int = l.map vi := by
  rw [List.map_map]
  rfl
section
variable {P : Program} {w : World} {K : PySem.W.Frag} {mg : Str → Option Value} {base : Heap} {R PC W : Addr}
/-! ### raw, piece -/
def spRaw (PC R : Addr) : Sp := fun vs H Q _ => ∃ (pg : Addr) (L : Obs Fl), vs = [.ref pg] ∧ PageAt PC H pg L ∧ RowsAt R H L ∧ L.length ≤ 7 ∧ ∀ H', Same H H' → Q (.byt (bA (nums (L.map Prod.snd)))) H'
theorem ok_raw {f fR : Addr} {fd fdR : FuncData} (F : Fun K "raw" "Page.raw" s_Page_raw f fd) (T : PgT K mg PC) (G : Cal P w K mg base CX0 3 fR fdR "_row_bytes" ["rows"] (spRB K R)) (ms : mg "sum" = none) (mb : mg "bytes" = none) : FnOk P w K mg base CX0 4 f fd ["self"] (spRaw PC R) := by
  refine F.ok sc_Page_raw (fun vs H Q E h => ?_) (fun cdv A outer s H vs Q E hr h => ?_)
  · obtain ⟨pg, L, rfl, _⟩ := h
    rfl
  · obtain ⟨pg, L, rfl, ⟨dx, l, h1, h2⟩, hR, hz, q⟩ := h
    have nd := sc_Page_raw.nd
    refine ⟨_, pss_cons (ps_set (i := 1) nd rfl (Or.inl rfl) (pe_op op_cat (pe_lst (pa_cons (pe_callB call_len_seq (by rfl) T.len PySem.boot_len (pa_cons (pe_fld (pv 0) rfl) pa_nil)) pa_nil)) (pe_call G.G hr (by rfl) G.g G.k G.b .nil pass0 (pa_cons (pe_fld (pv 0) rfl) pa_nil))))
      (pss_one (ps_ret (pe_callTy (call_bytes_list rfl) (by rfl) mb (by decide +kernel) (pa_cons (pe_op op_cat (pv 1) (pe_lst (pa_cons (pe_op op_and (pe_callB (cr_sum rfl) (by rfl) ms (by decide +kernel) (pa_cons (pv 1) pa_nil)) pe_int) pa_nil))) pa_nil)))), ?_⟩
    refine ⟨_, rfl, pg, PC, dx, _, _, rfl, h1, T.cl, T.nR, rfl, l, _, rfl, .inl (SqL.of h2), by show 1 ≤ sizeLine; decide, fun a na => ?_⟩
    rw [refs_len]
    have sa := same_upd (o := .lst [V.int (L.length : Nat)]) na
    refine ⟨_, rfl, pg, PC, dx, _, _, rfl, sa _ _ h1, T.cl, T.nR, rfl, l, L, rfl, sa _ _ h2, hz, hR.same sa, fun H2 m s2 nm em => ?_⟩
    have ea2 := s2 _ _ (show (upd H a (.lst [V.int (L.length : Nat)])) a = some (.lst [V.int (L.length : Nat)]) from upd_same)
    have zl : (rb (L.map Prod.snd)).length ≤ 14 := by rw [rb_len, List.length_map]; omega
    refine ⟨a, m, _, _, rfl, rfl, ea2, em, ?_, fun b nb => ?_⟩
    · rw [List.length_map]
      exact Nat.le_trans (show 1 + _ ≤ 15 by omega) (by decide)
    generalize hH3 : upd H2 b (HO.lst ([V.int (L.length : Nat)] ++ (rb (L.map Prod.snd)).map vi)) = H3
    have s3 : Same H2 H3 := by rw [← hH3]; exact same_upd nb
    have eb : H3 b = some (.lst ((L.length :: rb (L.map Prod.snd)).map vi)) := by rw [← hH3]; exact upd_same
    have hs : (((L.length :: rb (L.map Prod.snd)).map fun (k : Nat) => (k : Int)).sum) = ((L.length + (rb (L.map Prod.snd)).sum : Nat) : Int) := by rw [sum_vi, List.sum_cons]
    refine ⟨_, rfl, _, rfl, b, (L.length :: rb (L.map Prod.snd)).map fun (k : Nat) => (k : Int), rfl, SqL.of (by rw [map_int_vi]; exact eb), _, _, rfl, rfl, by show 1 ≤ sizeLine; decide, fun c nc => ?_⟩
    rw [hs]
    have e255 : (fun (i j : Int) => V.int (Builtin.bitAnd i j)) ((L.length + (rb (L.map Prod.snd)).sum : Nat) : Int) 255 = V.int (((L.length + (rb (L.map Prod.snd)).sum) % 256 : Nat) : Int) := congrArg V.int (and_255 _)
    rw [e255]
    have s4 := same_upd (o := .lst [V.int (((L.length + (rb (L.map Prod.snd)).sum) % 256 : Nat) : Int)]) nc
    refine ⟨b, c, _, _, rfl, rfl, s4 _ _ eb, upd_same, ?_, fun d nd => ?_⟩
    · rw [List.length_map, List.length_cons]
      exact Nat.le_trans (show _ + 1 + 1 ≤ 16 by omega) (by decide)
    have s5 := same_upd (o := .lst ((L.length :: rb (L.map Prod.snd)).map vi ++ [V.int (((L.length + (rb (L.map Prod.snd)).sum) % 256 : Nat) : Int)])) nd
    have en : (nums (L.map Prod.snd)).map vi = (L.length :: rb (L.map Prod.snd)).map vi ++ [V.int (((L.length + (rb (L.map Prod.snd)).sum) % 256 : Nat) : Int)] := by
      unfold nums
      rw [List.length_map, List.map_append]
      rfl
    refine ⟨d, (nums (L.map Prod.snd)).map fun (k : Nat) => (k : Int), rfl, SqL.of (by rw [map_int_vi, en]; exact upd_same), ?_, q _ ((sa.trans s2).trans ((s3.trans s4).trans s5))⟩
    intro n hn
    obtain ⟨k, hk, rfl⟩ := List.mem_map.mp hn
    have := nums_lt (qs := L.map Prod.snd) (by rw [List.length_map]; exact hz) (fun y hy => by
      obtain ⟨x, hx, rfl⟩ := List.mem_map.mp hy
      exact (hR x hx).2) k hk
    omega
end
end Toy
set_option Elab.async false
set_option linter.all false
set_option maxRecDepth 100000
set_option maxHeartbeats 4000000
namespace Gd
open PySem PySem.Spec PyProof.Rows L2
mutual
theorem dp_same {K : PySem.W.Frag} {H H' : Hp} (s : Same H H') : ∀ {v : V} {d : PyData}, Dp K H v d → Dp K H' v d
  | _, _, .non => .non
  | _, _, .bl b => .bl b
  | _, _, .int i => .int i
  | _, _, .str x => .str x
  | _, _, .lst h r => .lst (s.seq h) (dp_sameAll s r)
  | _, _, .tup h r => .tup (SqT.ext h s) (dp_sameAll s r)
theorem dp_sameAll {K : PySem.W.Frag} {H H' : Hp} (s : Same H H') : ∀ {vs : List V} {ds : List PyData}, DpAll K H vs ds → DpAll K H' vs ds
  | _, _, .nil => .nil
  | _, _, .cons h r => .cons (dp_same s h) (dp_sameAll s r)
end
end Gd
namespace Toy
open PySem PySem.Spec PyProof.Rows L2
def dk (k : Nat) : PyData := .int k
theorem dpAll_vi {K : PySem.W.Frag} {H : Hp} : ∀ ws : List Nat, DpAll K H (ws.map vi) (ws.map dk)
  | [] => .nil
  | k :: r => .cons (.int _) (dpAll_vi r)
theorem dp_vi {K : PySem.W.Frag} {H : Hp} {a : Addr} {ws : List Nat} (h : H a = some (.lst (ws.map vi))) : Dp K H (.ref a) (.list (ws.map dk)) := .lst (SqL.of h) (dpAll_vi ws)
theorem can_dk : ∀ ws : List Nat, PyData.canLayAll0 (ws.map dk) = true
  | [] => rfl
  | k :: r => by
    rw [List.map_cons]
    show (PyData.canLay0 (.int k) && PyData.canLayAll0 (r.map dk)) = true
    rw [can_dk r]
    rfl
theorem dep_dk : ∀ ws : List Nat, PyData.depthAll (ws.map dk) ≤ 1
  | [] => by decide
  | k :: r => by
    have ih := dep_dk r
    rw [List.map_cons]
    have e : PyData.depthAll (dk k :: r.map dk) = max (PyData.depth (dk k)) (PyData.depthAll (r.map dk)) := rfl
    have e2 : PyData.depth (dk k) ≤ 1 := by first | exact Nat.zero_le _ | exact Nat.le_refl _ | (show (0 : Nat) ≤ 1; decide) | (show (1 : Nat) ≤ 1; decide)
    rw [e]
    omega
theorem shp_dk (ws : List Nat) : SeqAt.shaped (.list (ws.map dk)) = true := by
  have h1 := can_dk ws
  have h2 := dep_dk ws
  unfold SeqAt.shaped
  rw [Bool.and_eq_true]
  refine ⟨h1, decide_eq_true ?_⟩
  have e : PyData.depth (.list (ws.map dk)) = PyData.depthAll (ws.map dk) + 1 := rfl
  omega
theorem eqv_dk : ∀ ws us : List Nat, PyData.eqvAll (ws.map dk) (us.map dk) = decide (ws = us)
  | [], [] => rfl
  | [], _ :: _ => rfl
  | _ :: _, [] => rfl
  | a :: r, b :: t => by
    show ((((a : Nat) : Int) == ((b : Nat) : Int)) && PyData.eqvAll (r.map dk) (t.map dk)) = _
    rw [eqv_dk r t]
    by_cases h : a = b
    · subst h
      simp
    · have h1 : (((a : Nat) : Int) == ((b : Nat) : Int)) = false := by simp; omega
      rw [h1]
      simp [h]
theorem strOk_of (s : String) : PyData.strOk (Str.ofString s) = true := by
  rw [Str.ofString_eq_toList]
  unfold PyData.strOk
  simp only [List.all_toArray, List.all_map, List.all_eq_true, Function.comp, decide_eq_true_eq]
  intro c _
  have := c.valid
  show c.val.toNat < 1114112
  rcases this with h | h
  · exact Nat.lt_trans h (by decide)
  · exact h.2
theorem can_dkl (ws : List Nat) : PyData.canLay0 (.list (ws.map dk)) = true := can_dk ws
/-- what a piece tells, as data -/
def outD (qs : List Fl) (o1 o2 : Option Int) (d1 d2 : PyData) : PyData :=
  if btw o1 0 (qs.length : Nat) = false then .tuple [.str d1.shown, .bool true, .bool false]
  else if btw o2 (o1.getD 0) (qs.length : Nat) = false then .tuple [.str d2.shown, .bool true, .bool false]
  else .list ((rb ((qs.take (o2.getD 0).toNat).drop (o1.getD 0).toNat)).map dk)
theorem out_can {qs : List Fl} {o1 o2 : Option Int} {d1 d2 : PyData} (h1 : PyData.strOk d1.shown = true) (h2 : PyData.strOk d2.shown = true) : PyData.canLay0 (outD qs o1 o2 d1 d2) = true := by
  unfold outD
  split
  · show (PyData.strOk d1.shown && (true && (true && true))) = true
    rw [h1]; rfl
  · split
    · show (PyData.strOk d2.shown && (true && (true && true))) = true
      rw [h2]; rfl
    · exact can_dkl _
theorem out_shp {qs : List Fl} {o1 o2 : Option Int} {d1 d2 : PyData} (h1 : PyData.strOk d1.shown = true) (h2 : PyData.strOk d2.shown = true) : SeqAt.shaped (outD qs o1 o2 d1 d2) = true := by
  have c := out_can (qs := qs) (o1 := o1) (o2 := o2) h1 h2
  unfold SeqAt.shaped
  rw [Bool.and_eq_true]
  refine ⟨c, decide_eq_true ?_⟩
  unfold outD
  split
  · simp [PyData.depth, PyData.depthAll]
  · split
    · simp [PyData.depth, PyData.depthAll]
    · have e := dep_dk (rb ((qs.take (o2.getD 0).toNat).drop (o1.getD 0).toNat))
      have e2 : PyData.depth (.list ((rb ((qs.take (o2.getD 0).toNat).drop (o1.getD 0).toNat)).map dk)) = PyData.depthAll ((rb ((qs.take (o2.getD 0).toNat).drop (o1.getD 0).toNat)).map dk) + 1 := rfl
      omega
theorem out_a {qs : List Fl} {o1 o2 : Option Int} {d1 d2 : PyData} (h : btw o1 0 (qs.length : Nat) = false) : outD qs o1 o2 d1 d2 = .tuple [.str d1.shown, .bool true, .bool false] := if_pos h
theorem out_b {qs : List Fl} {o2 : Option Int} {d1 d2 : PyData} {i : Nat} (hi : i ≤ qs.length) (h : btw o2 (i : Int) (qs.length : Nat) = false) : outD qs (some (i : Int)) o2 d1 d2 = .tuple [.str d2.shown, .bool true, .bool false] := by
  unfold outD
  rw [if_neg (by rw [show btw (some (i : Int)) 0 (qs.length : Nat) = true from decide_eq_true ⟨by omega, by omega⟩]; simp)]
  exact if_pos h
theorem out_c {qs : List Fl} {d1 d2 : PyData} {i j : Nat} (hij : i ≤ j) (hj : j ≤ qs.length) : outD qs (some (i : Int)) (some (j : Int)) d1 d2 = .list ((rb ((qs.take j).drop i)).map dk) := by
  unfold outD
  rw [if_neg (by rw [show btw (some (i : Int)) 0 (qs.length : Nat) = true from decide_eq_true ⟨by omega, by omega⟩]; simp)]
  have h : ¬ btw (some (j : Int)) (i : Int) (qs.length : Nat) = false := by
    rw [show btw (some (j : Int)) (i : Int) (qs.length : Nat) = true from decide_eq_true ⟨by omega, by omega⟩]; simp
  exact if_neg h
theorem nv_vi {K : PySem.W.Frag} {H : Hp} {i : Int} {o : Option Int} (h : NV K H (.int i) o) : o = some i := by
  cases h with
  | int _ => rfl
  | oth _ _ _ n => exact (n i rfl).elim
theorem dp_bad {K : PySem.W.Frag} {H : Hp} {t : Addr} {x : Str} (h : H t = some (.tup [.str x, .bl true, .bl false])) : Dp K H (.ref t) (.tuple [.str x, .bool true, .bool false]) := .tup (SqT.of h) (.cons (.str _) (.cons (.bl _) (.cons (.bl _) .nil)))
section
variable {P : Program} {w : World} {K : PySem.W.Frag} {mg : Str → Option Value} {base : Heap} {R PC W : Addr}
def FieldsAt (H : Hp) (lf : Addr) (L : Obs Fl) : Prop := H lf = some (.lst (refs L)) ∧ ∀ x ∈ L, H x.1 = some (.tup [fv x.2.1, fv x.2.2]) ∧ fokP x.2
theorem FieldsAt.same {H H' : Hp} {lf : Addr} {L : Obs Fl} (h : FieldsAt H lf L) (s : Same H H') : FieldsAt H' lf L := ⟨s _ _ h.1, fun x hx => ⟨s _ _ (h.2 x hx).1, (h.2 x hx).2⟩⟩
theorem if_fb {K : PySem.W.Frag} {σ : L2.St} {H : Hp} {R : VK} {t : Addr} {xs : List V} {j : Int} {o : Option Nat} (hs : σ[2]? = some (some (V.ref t))) (ht : H t = some (.tup xs)) (hx : atI xs j = some (fv o)) (q : R (vi (fb o)) H) :
    tIf (tTest (tOp (fun x y H Q => y = V.non ∧ Q (V.bl (decide (x = V.non))) H) (tOp (rIxT K) (tVar 2) (tC (V.int j))) (tC V.non))) (tC (V.int 0)) (tOp (rI0 fun i j => V.int (i + j)) (tOp (rIxT K) (tVar 2) (tC (V.int j))) (tC (V.int 1))) σ H R := by
  cases o with
  | none => exact ⟨_, hs, t, xs, j, _, rfl, rfl, SqT.of ht, hx, rfl, true, rfl, iteT q⟩
  | some k => exact ⟨_, hs, t, xs, j, _, rfl, rfl, SqT.of ht, hx, rfl, false, congrArg V.bl (decide_eq_false fun z => by cases z), iteF ⟨_, hs, t, xs, j, _, rfl, rfl, SqT.of ht, hx, _, _, rfl, rfl, q⟩⟩
theorem fmod_256 (n : Nat) : (n : Int).fmod 256 = ((n % 256 : Nat) : Int) := by
  rw [Int.fmod_eq_emod_of_nonneg _ (by decide)]
  rfl
def spNums : Sp := fun vs H Q _ => ∃ (lf : Addr) (L : Obs Fl), vs = [.ref lf] ∧ FieldsAt H lf L ∧ L.length ≤ 8 ∧ ∀ H' m, Same H H' → H m = none → H' m = some (.lst ((nums (L.map Prod.snd)).map vi)) → Q (.ref m) H'
theorem ok_nums {f : Addr} {fd : FuncData} (F : Fun K "_law_numbers" "_law_numbers" s_law_numbers f fd) (ml : mg "len" = none) (mi : mg "int" = none) (ms : mg "sum" = none) : FnOk P w K mg base CX0 1 f fd ["fields"] spNums := by
  refine F.ok sc_law_numbers (fun vs H Q E h => ?_) (fun cdv A outer s H vs Q E hr h => ?_)
  · obtain ⟨lf, L, rfl, _⟩ := h
    rfl
  · obtain ⟨lf, L, rfl, hL, hz, q⟩ := h
    have nd := sc_law_numbers.nd
    refine ⟨_, pss_cons (ps_set (i := 1) nd rfl (Or.inl rfl) (pe_lst (pa_cons (pe_callB call_len_seq (by rfl) ml PySem.boot_len (pa_cons (pv 0) pa_nil)) pa_nil)))
      (pss_cons (ps_for PassesOwn.never rfl (pi_list (pv 0)) (pg_name (i := 2) nd rfl (Or.inl rfl))
        (pss_one (ps_set (i := 1) nd rfl (Or.inl rfl) (pe_op op_cat (pv 1) (pe_lst (pa_cons (pe_ifExp (pt_cmpR op_isN (pe_ix ix_tup (pv 2) pe_int (fun _ _ => rfl)) pe_non (nomark _)) pe_int (pe_op op_add (pe_ix ix_tup (pv 2) pe_int (fun _ _ => rfl)) pe_int))
          (pa_cons (pe_ifExp (pt_cmpR op_isN (pe_ix ix_tup (pv 2) pe_int (fun _ _ => rfl)) pe_non (nomark _)) pe_int (pe_op op_add (pe_ix ix_tup (pv 2) pe_int (fun _ _ => rfl)) pe_int)) pa_nil))))))
      )
      (pss_one (ps_ret (pe_op op_cat (pv 1) (pe_lst (pa_cons (pe_op op_modN (pe_callTy call_int1 (by rfl) mi (by decide +kernel) (pa_cons (pe_callB (cr_sum rfl) (by rfl) ms (by decide +kernel) (pa_cons (pv 1) pa_nil)) pa_nil)) pe_int) pa_nil)))))), ?_⟩
    refine ⟨_, rfl, lf, _, rfl, .inl (SqL.of hL.1), by show 1 ≤ sizeLine; decide, fun a na => ?_⟩
    rw [refs_len]
    have sa := same_upd (o := .lst [V.int (L.length : Nat)]) na
    refine ⟨_, rfl, lf, rfl, ⟨_, SqL.of (sa _ _ hL.1)⟩, ?_⟩
    refine for_list (K := K) (a := lf) (xs := refs L) (fun i σ H' => ∃ (m : Addr) (v2 : Option V), σ = [some (.ref lf), some (.ref m), v2] ∧ Same H H' ∧ H m = none ∧ H' m = some (.lst ((L.length :: rb ((L.take i).map Prod.snd)).map vi))) ⟨a, none, rfl, sa, na, upd_same⟩ (fun i σ H' _ z => ?_) ?_ ?_
    · obtain ⟨_, _, _, s1, _⟩ := z
      exact SqL.of (s1 _ _ hL.1)
    · rintro i x σ H' hx ⟨m, v2, rfl, s1, nm, em⟩
      obtain ⟨y, hy, rfl⟩ := refs_get hx
      obtain ⟨ya, yb, ye⟩ := y
      have ey := s1 _ _ (hL.2 _ (List.mem_of_getElem? hy)).1
      have hi : i < L.length := (List.getElem?_eq_some_iff.mp hy).1
      have len3 : (rb ((L.take i).map Prod.snd)).length ≤ 16 := by rw [rb_len, List.length_map, List.length_take]; omega
      refine ⟨_, rfl, if_fb (K := K) rfl ey rfl (if_fb (K := K) rfl ey rfl ⟨by show 2 ≤ sizeLine; decide, fun a2 na2 => ?_⟩)⟩
      have s2 := same_upd (o := .lst [vi (fb yb), vi (fb ye)]) na2
      refine ⟨m, a2, _, _, rfl, rfl, s2 _ _ em, upd_same, ?_, fun b nb => ?_⟩
      · rw [List.length_map, List.length_cons]
        exact Nat.le_trans (show _ + 1 + 2 ≤ 19 by omega) (by decide)
      · refine ⟨b, some (.ref ya), rfl, (s1.trans s2).trans (same_upd nb), (s1.trans s2).free nb, ?_⟩
        have tk : L.take (i + 1) = L.take i ++ [(ya, yb, ye)] := by rw [List.take_add_one, hy]; rfl
        rw [upd_same, tk, List.map_append, rb_app, List.map_cons, List.map_cons, List.map_append]
        rfl
    · rintro σ H' ⟨m, v2, rfl, s1, nm, em⟩
      rw [refs_len, List.take_length] at em
      have zl : (rb (L.map Prod.snd)).length ≤ 16 := by rw [rb_len, List.length_map]; omega
      have hs : (((L.length :: rb (L.map Prod.snd)).map fun (k : Nat) => (k : Int)).sum) = ((L.length + (rb (L.map Prod.snd)).sum : Nat) : Int) := by rw [sum_vi, List.sum_cons]
      refine ⟨_, rfl, _, rfl, m, (L.length :: rb (L.map Prod.snd)).map fun (k : Nat) => (k : Int), rfl, SqL.of (by rw [map_int_vi]; exact em), .inl ⟨_, rfl, _, _, rfl, rfl, (show (256 : Int) ≠ 0 by decide), by show 1 ≤ sizeLine; decide, fun c nc => ?_⟩⟩
      rw [hs]
      have e256 : (fun (i j : Int) => V.int (i.fmod j)) ((L.length + (rb (L.map Prod.snd)).sum : Nat) : Int) 256 = V.int (((L.length + (rb (L.map Prod.snd)).sum) % 256 : Nat) : Int) := congrArg V.int (fmod_256 _)
      rw [e256]
      have s4 := same_upd (o := .lst [V.int (((L.length + (rb (L.map Prod.snd)).sum) % 256 : Nat) : Int)]) nc
      refine ⟨m, c, _, _, rfl, rfl, s4 _ _ em, upd_same, ?_, fun b nb => q _ b ((s1.trans s4).trans (same_upd nb)) ((s1.trans s4).free nb) ?_⟩
      · rw [List.length_map, List.length_cons]
        exact Nat.le_trans (show _ + 1 + 1 ≤ 18 by omega) (by decide)
      · rw [upd_same]
        unfold nums
        rw [List.length_map, List.map_append]
        rfl
/-! ### _law_due -/
end
end Toy
set_option Elab.async false
set_option linter.all false
set_option maxRecDepth 100000
set_option maxHeartbeats 4000000
namespace Vx
open PySem PySem.Spec PyProof.Rows L2
section
variable {X : Cx} {CX : CXT} {k : Nat} {C f : Addr} {sp : Sp} {E : XK}
/-- o[i] = v by the own method -/
def rSetOwn (C : Addr) (sp : Sp) (E : XK) : TSet := fun o i v H Q => (∃ a dx fs, o = .ref a ∧ H a = some (.ins C dx fs)) ∧ sp [o, i, v] H (fun _ H' => Q H') E
theorem set_own (nq : PySem.W.noSeq X.K C = true) (at_ : PySem.W.findIn X.K (.ref C) "__setitem__" = some (some (.ref f))) (fn : PySem.W.isFn X.K (.ref f) = true) (F : FnR X.prog X.w X.K X.mg X.base CX k f sp) (hr : Room k X.A) (hx : Passes CX X E) : PSet X (rSetOwn C sp E) := by
  intro pins s σ H o i v ov iv u Q I ro ri rv h
  obtain ⟨⟨a, dx, fs, rfl, ha⟩, hsp⟩ := h
  have eo : ov = Value.ref a := ro
  have cl := wpAny_call (run_fnR (us := [ov, iv, u]) (vs := [V.ref a, i, v]) F hr hx I (.cons ro (.cons ri (.cons rv .nil))) hsp)
  subst eo
  obtain ⟨mA, J, _⟩ := ins_get I.hok ha
  obtain ⟨od, J, _⟩ := J.look
  obtain ⟨m, hF⟩ := I.fr
  refine PySem.W.ksp_setItem hF I.ok.mod.kin J nq at_ fn (wpAny_mono cl (fun r s' z => ?_) fun _ _ z => z)
  obtain ⟨v', H', I', rv, q⟩ := z
  exact ⟨H', I', q⟩
end
end Vx
namespace Toy
open PySem PySem.Spec PyProof.Rows L2
/-! ### marks -/
def pgs : Nat → List Bool → List Nat
  | _, [] => []
  | s, b :: r => (if b then [s] else []) ++ pgs (s + 1) r
theorem pgs_app : ∀ (a b : List Bool) (s : Nat), pgs s (a ++ b) = pgs s a ++ pgs (s + a.length) b
  | [], b, s => rfl
  | x :: r, b, s => by
    show (if x then [s] else []) ++ pgs (s + 1) (r ++ b) = ((if x then [s] else []) ++ pgs (s + 1) r) ++ pgs (s + (r.length + 1)) b
    rw [pgs_app r b (s + 1), List.append_assoc, show s + 1 + r.length = s + (r.length + 1) by omega]
theorem pgs_len : ∀ (a : List Bool) (s : Nat), (pgs s a).length ≤ a.length
  | [], _ => Nat.le_refl _
  | x :: r, s => by
    show ((if x then [s] else []) ++ pgs (s + 1) r).length ≤ r.length + 1
    have := pgs_len r (s + 1)
    rw [List.length_append]
    cases x with
    | true => show 1 + _ ≤ _; omega
    | false => show 0 + _ ≤ _; omega
theorem pgs_lt : ∀ (a : List Bool) (s : Nat), ∀ k ∈ pgs s a, k < s + a.length
  | [], _, k, h => absurd h List.not_mem_nil
  | x :: r, s, k, h => by
    have h : k ∈ (if x then [s] else []) ++ pgs (s + 1) r := h
    rcases List.mem_append.mp h with h | h
    · cases x with
      | true =>
        have := List.mem_singleton.mp h
        show k < s + (r.length + 1)
        omega
      | false => exact absurd h List.not_mem_nil
    · have := pgs_lt r (s + 1) k h
      show k < s + (r.length + 1)
      omega
def numF (fl : List Bool) : Nat := ((pgs 0 fl).map fun k => 2 ^ k).sum
def MarksAt (MC : Addr) (H : Hp) (q l : Addr) (fl : List Bool) : Prop := (∃ dx, H q = some (.ins MC dx [("_flags", .ref l)])) ∧ H l = some (.lst (fl.map V.bl))
theorem MarksAt.same {MC : Addr} {H H' : Hp} {q l : Addr} {fl : List Bool} (h : MarksAt MC H q l fl) (s : Same H H') : MarksAt MC H' q l fl := by
  obtain ⟨⟨dx, e⟩, f⟩ := h
  exact ⟨⟨dx, s _ _ e⟩, s _ _ f⟩
theorem MarksAt.put {MC : Addr} {H : Hp} {q l : Addr} {fl fl' : List Bool} (h : MarksAt MC H q l fl) : MarksAt MC (upd H l (.lst (fl'.map V.bl))) q l fl' := by
  obtain ⟨⟨dx, e⟩, f⟩ := h
  exact ⟨⟨dx, by rw [upd_ne (ne_of e f (by intro z; cases z))]; exact e⟩, upd_same⟩
section
variable {P : Program} {w : World} {K : PySem.W.Frag} {mg : Str → Option Value} {base : Heap} {MC MD : Addr}
structure MkT (K : PySem.W.Frag) (mg : Str → Option Value) (MC MD : Addr) : Prop where
  cl : Cls K MC
  nF : NoAttr K MC "_flags"
  gD : mg "Made" = some (.ref MD)
  isi : mg "isinstance" = none
  bool : mg "bool" = none
  len : mg "len" = none
  enum : mg "enumerate" = none
  sum : mg "sum" = none
  mp : ∃ t, mg "MOST_PAGES" = some (.int 64 t)
  kID : PySem.W.kitOne K (.type "int") (.ref MD) = some false
def spMkI (MC : Addr) : Sp := fun vs H Q _ => ∃ (H0 : Hp) (q dx : Addr) (n : Nat), vs = [.ref q, .int n] ∧ Same H0 H ∧ H0 q = none ∧ H q = some (.ins MC dx []) ∧ 1 ≤ n ∧ n ≤ 64 ∧ ∀ H' l, Same H0 H' → H0 l = none → H' q = some (.ins MC dx [("_flags", .ref l)]) → H' l = some (.lst ((List.replicate n false).map V.bl)) → Q .non H'
theorem flat_rep (n : Nat) : (List.replicate n [V.bl false]).flatten = (List.replicate n false).map V.bl := by
  induction n with
  | zero => rfl
  | succ n ih => rw [List.replicate_succ, List.flatten_cons, ih, List.replicate_succ]; rfl
theorem ok_mk_init {f fB : Addr} {fd fdB : FuncData} (F : Fun K "__init__" "Marks.__init__" s_Marks_init f fd) (T : MkT K mg MC MD) (B : Cal P w K mg base CX0 2 fB fdB "is_between" ["value", "low", "high"] (spBetwG K)) : FnOk P w K mg base CX0 3 f fd ["self", "many"] (spMkI MC) := by
  obtain ⟨tm, gm⟩ := T.mp
  refine F.ok sc_Marks_init (fun vs H Q E h => ?_) (fun cdv A outer s H vs Q E hr h => ?_)
  · obtain ⟨H0, q, dx, n, rfl, _⟩ := h
    rfl
  · obtain ⟨H0, q, dx, n, rfl, s0, q0, hq, n1, n2, k⟩ := h
    refine ⟨_, pss_one (ps_if (pt_val (pe_callB call_isi (by rfl) T.isi (by decide +kernel) (pa_cons (pv 1) (pa_cons (pe_glob (v := .ref MD) (by rfl) T.gD rfl) pa_nil)))) (pss_one ps_never)
      (pss_one (ps_if (pt_val (pe_call B.G hr (by rfl) B.g B.k B.b .nil pass0 (pa_cons (pv 1) (pa_cons pe_int (pa_cons (pe_glob (v := .int 64) (by rfl) gm ⟨_, rfl⟩) pa_nil)))))
        (pss_one (ps_fld (pv 0) (pe_op op_rep (pe_lst (pa_cons pe_bl pa_nil)) (pv 1)) rfl)) (pss_one ps_never)))), ?_⟩
    refine ⟨_, rfl, .int n, .ref MD, .type "int", .ref MD, false, rfl, .own MD, .base (.int _), T.kID, false, rfl, iteF ?_⟩
    refine ⟨_, rfl, _, _, _, _, rfl, .int _, true, ?_, iteT ?_⟩
    · exact congrArg V.bl (decide_eq_true ⟨by omega, by omega⟩)
    refine ⟨by show 1 ≤ sizeLine; decide, fun b nb => ⟨_, rfl, b, _, _, rfl, rfl, upd_same, by omega, by omega, ?_, fun l nl => ?_⟩⟩
    · exact Nat.le_trans (show 1 * ((n : Int)).toNat ≤ 64 by omega) (by decide)
    rw [Int.toNat_natCast, flat_rep]
    have s1 := same_upd (o := .lst [V.bl false]) nb
    have e1 := s1 _ _ hq
    generalize upd H b (HO.lst [V.bl false]) = H1 at s1 e1 nl
    have qs : q ≠ l := ne_of_none e1 nl
    refine ⟨_, rfl, q, MC, dx, _, rfl, by rw [upd_ne qs]; exact e1, T.cl, T.nF, (by show (0 : Nat) < 1000; decide), ?_⟩
    refine k _ l (fun z o e => ?_) (none_of (s0.trans s1) nl) upd_same ?_
    · rw [upd_ne (ne_of_none e q0)]
      exact (s0.trans (s1.trans (same_upd nl))) _ _ e
    · rw [upd_ne qs.symm]
      exact upd_same
def spMkSet (MC : Addr) : Sp := fun vs H Q _ => ∃ (q l : Addr) (fl : List Bool) (i : Nat) (b : Bool), vs = [.ref q, .int i, .bl b] ∧ MarksAt MC H q l fl ∧ i < fl.length ∧ Q .non (upd H l (.lst ((fl.set i b).map V.bl)))
theorem ok_mk_set {f fB : Addr} {fd fdB : FuncData} (F : Fun K "__setitem__" "Marks.__setitem__" s_Marks_setitem f fd) (T : MkT K mg MC MD) (B : Cal P w K mg base CX0 2 fB fdB "is_between" ["value", "low", "high"] (spBetwG K)) : FnOk P w K mg base CX0 3 f fd ["self", "at", "value"] (spMkSet MC) := by
  refine F.ok sc_Marks_setitem (fun vs H Q E h => ?_) (fun cdv A outer s H vs Q E hr h => ?_)
  · obtain ⟨q, l, fl, i, b, rfl, _⟩ := h
    rfl
  · obtain ⟨q, l, fl, i, b, rfl, ⟨⟨dx, h1⟩, h2⟩, hi, k⟩ := h
    refine ⟨_, pss_cons (ps_if (pt_not (pt_val (pe_call B.G hr (by rfl) B.g B.k B.b .nil pass0 (pa_cons (pv 1) (pa_cons pe_int (pa_cons (pe_op op_sub (pe_callB call_len_seq (by rfl) T.len PySem.boot_len (pa_cons (pe_fld (pv 0) rfl) pa_nil)) pe_int) pa_nil)))))) (pss_one ps_never) pss_nil)
      (pss_cons (ps_if (pt_not (pt_val (pe_callB call_isi (by rfl) T.isi (by decide +kernel) (pa_cons (pv 2) (pa_cons (pe_bltn (v := .ty "bool") (by rfl) T.bool (by decide +kernel) rfl) pa_nil))))) (pss_one ps_never) pss_nil)
      (pss_one (ps_asg (pv 2) (pg_sub (pe_fld (pv 0) rfl) (pv 1) set_list)))), ?_⟩
    refine ⟨_, rfl, _, rfl, q, MC, dx, _, _, rfl, h1, T.cl, T.nF, rfl, l, _, rfl, .inl (SqL.of h2), _, _, rfl, rfl, _, _, _, _, rfl, .int _, true, ?_, iteF ?_⟩
    · refine congrArg V.bl (decide_eq_true ⟨by omega, ?_⟩)
      rw [List.length_map]
      omega
    refine ⟨_, rfl, .bl b, .ty "bool", _, _, true, rfl, .ty _, .base (.bl b), kit_ty (by decide +kernel), true, rfl, iteF ?_⟩
    refine ⟨_, rfl, _, rfl, q, MC, dx, _, _, rfl, h1, T.cl, T.nF, rfl, _, rfl, l, _, _, i, rfl, rfl, h2, ixN_nat (by rw [List.length_map]; exact hi), ?_⟩
    rw [List.map_set] at k
    exact k
end
end Toy
set_option Elab.async false
set_option linter.all false
set_option maxRecDepth 100000
set_option maxHeartbeats 4000000
namespace Toy
open PySem PySem.Spec PyProof.Rows L2
section
variable {P : Program} {w : World} {K : PySem.W.Frag} {mg : Str → Option Value} {base : Heap} {MC MD : Addr}
def spMkPages (MC : Addr) : Sp := fun vs H Q _ => ∃ (q l : Addr) (fl : List Bool), vs = [.ref q] ∧ MarksAt MC H q l fl ∧ fl.length ≤ 64 ∧ ∀ H' m, Same H H' → H m = none → H' m = some (.lst ((pgs 0 fl).map vi)) → Q (.ref m) H'
theorem ok_mk_pages {f : Addr} {fd : FuncData} (F : Fun K "pages" "Marks.pages" s_Marks_pages f fd) (T : MkT K mg MC MD) : FnOk P w K mg base CX0 1 f fd ["self"] (spMkPages MC) := by
  refine F.ok sc_Marks_pages (fun vs H Q E h => ?_) (fun cdv A outer s H vs Q E hr h => ?_)
  · obtain ⟨q, l, fl, rfl, _⟩ := h
    rfl
  · obtain ⟨q, l, fl, rfl, ⟨⟨dx, h1⟩, h2⟩, hz, k⟩ := h
    have nd := sc_Marks_pages.nd
    refine ⟨_, pss_one (ps_ret (pe_lc (own := [("k", 1), ("flag", 2)]) (g := gTup K 2 (gCons (gName 1) (gCons (gName 2) gNil))) rfl nd (pi_enum (by rfl) T.enum (pa_cons (pe_fld (pv 0) rfl) pa_nil))
      (blkOk_by (own := [("k", 1), ("flag", 2)]) (N := ["self", "k", "flag"]) (sc := defScope s_Marks_pages) (by decide +kernel)) (fun _ _ _ _ _ => show PG _ _ (gTup K 2 (gCons (gName 1) (gCons (gName 2) gNil))) from pg_tup (n := 2) rfl (pgs_cons (pg_name (i := 1) nd rfl (Or.inl rfl)) (pgs_cons (pg_name (i := 2) nd rfl (Or.inl rfl)) pgs_nil)))
      (fun _ _ _ _ _ => pts_one (pt_val (pv 2))) (fun _ _ _ _ _ => pv 1))), ?_⟩
    refine ⟨_, rfl, q, MC, dx, _, _, rfl, h1, T.cl, T.nF, rfl, l, _, rfl, SqL.of h2, fun D nD => ?_⟩
    refine lc_it (walk_enum (K := K) (a := l) (xs := fl.map V.bl)) (fun i H' => Same H H' ∧ H' D = some (.lst ((pgs 0 (fl.take i)).map vi))) ⟨same_upd nD, upd_same⟩ (fun i H' _ z => SqL.of (z.1 _ _ h2)) ?_ ?_
    · rintro i x H' H2 hi ⟨s1, e1⟩ ⟨t, u, v, rfl, nt, rfl, eu, ev⟩
      rw [List.length_map] at hi
      obtain rfl := (Option.some.inj eu).symm
      have ev : (fl.map V.bl)[i]? = some v := ev
      rw [List.getElem?_map, List.getElem?_eq_getElem hi] at ev
      obtain rfl := Option.some.inj ev
      have s2 := same_upd (o := .tup [V.int (i : Nat), V.bl fl[i]]) nt
      have et : (upd H' t (.tup [V.int (i : Nat), V.bl fl[i]])) t = some (.tup [V.int (i : Nat), V.bl fl[i]]) := upd_same
      generalize upd H' t (HO.tup [V.int (i : Nat), V.bl fl[i]]) = H3 at s2 et
      have e3 := s2 _ _ e1
      have tk : pgs 0 (fl.take (i + 1)) = pgs 0 (fl.take i) ++ (if fl[i] = true then [i] else []) := by
        rw [List.take_add_one, List.getElem?_eq_getElem hi, Option.toList_some, pgs_app, List.length_take, Nat.min_eq_left (Nat.le_of_lt hi), Nat.zero_add]
        show _ ++ ((if fl[i] = true then [i] else []) ++ []) = _
        rw [List.append_nil]
      refine ⟨t, _, rfl, SqT.of et, rfl, _, _, rfl, _, _, rfl, rfl, rfl, _, rfl, fl[i], rfl, ?_⟩
      rw [tk]
      cases fl[i] with
      | true =>
        refine iteT ⟨_, rfl, _, e3, ?_, fun z o ez => ?_, ?_⟩
        · rw [List.length_map]
          have := pgs_len (fl.take i) 0
          rw [List.length_take] at this
          exact Nat.lt_of_le_of_lt (show _ ≤ 64 by omega) (by decide)
        · rw [upd_ne (ne_of_none ez nD)]
          exact s2 _ _ (s1 _ _ ez)
        · rw [upd_same, List.map_append]
          rfl
      | false =>
        refine iteF ⟨s1.trans s2, ?_⟩
        rw [e3]
        simp
    · rintro H' ⟨s1, e1⟩
      rw [List.length_map, List.take_length] at e1
      exact k H' D s1 nD e1
def spMkRaw (MC : Addr) : Sp := fun vs H Q _ => ∃ (q l : Addr) (fl : List Bool), vs = [.ref q] ∧ MarksAt MC H q l fl ∧ fl.length ≤ 64 ∧ (numF fl : Int) < 256 ^ ((fl.length + 7) / 8) ∧ ∀ H', Same H H' → Q (.byt (byteArr (PySem.W.KTBy.little ((fl.length + 7) / 8) (numF fl)))) H'
theorem ok_mk_raw {f fP : Addr} {fd fdP : FuncData} (F : Fun K "raw" "Marks.raw" s_Marks_raw f fd) (T : MkT K mg MC MD) (mP : Meth K MC "pages" fP) (GP : FnOk P w K mg base CX0 1 fP fdP ["self"] (spMkPages MC)) (bP : L2.Binds K fdP ["self"] []) : FnOk P w K mg base CX0 2 f fd ["self"] (spMkRaw MC) := by
  refine F.ok sc_Marks_raw (fun vs H Q E h => ?_) (fun cdv A outer s H vs Q E hr h => ?_)
  · obtain ⟨q, l, fl, rfl, _⟩ := h
    rfl
  · obtain ⟨q, l, fl, rfl, hM, hz, hn, k⟩ := h
    obtain ⟨⟨dx, h1⟩, h2⟩ := id hM
    have nd := sc_Marks_raw.nd
    refine ⟨_, pss_cons (ps_set (i := 1) nd rfl (Or.inl rfl) (pe_callB (cr_sum rfl) (by rfl) T.sum (by decide +kernel) (pa_cons (pe_lc (own := [("k", 2)]) (g := gName 2) (tt := tYes) rfl nd (pi_list (pe_meth0 (pv 0) T.cl mP GP hr bP .nil pass0))
        (blkOk_by (own := [("k", 2)]) (N := ["self", "number", "k"]) (sc := defScope s_Marks_raw) (by decide +kernel)) (fun _ _ _ _ _ => pg_name (i := 2) nd rfl (Or.inl rfl)) (fun _ _ _ _ _ => pts_nil) (fun _ _ _ _ _ => pe_op op_shl pe_int (pv 2))) pa_nil)))
      (pss_one (ps_ret (pe_toLittle (pv 1) (pe_op op_fdivN (pe_op op_add (pe_callB call_len_seq (by rfl) T.len PySem.boot_len (pa_cons (pe_fld (pv 0) rfl) pa_nil)) pe_int) pe_int) pe_str))), ?_⟩
    refine ⟨_, rfl, q, dx, _, rfl, h1, rfl, q, l, fl, rfl, hM, hz, fun H1 m s1 nm em => ⟨m, rfl, ⟨_, SqL.of em⟩, fun D nD => ?_⟩⟩
    have hp := pgs_len fl 0
    have hl := pgs_lt fl 0
    refine lc_list (K := K) (a := m) (xs := (pgs 0 fl).map vi) (fun i H' => Same H1 H' ∧ H' D = some (.lst (((pgs 0 fl).take i).map fun k => vi (2 ^ k)))) ⟨same_upd nD, upd_same⟩ (fun i H' _ z => SqL.of (z.1 _ _ em)) ?_ ?_
    · rintro i x H' hx ⟨s2, e2⟩
      rw [List.getElem?_map] at hx
      cases hk : (pgs 0 fl)[i]? with
      | none => rw [hk] at hx; cases hx
      | some j =>
        rw [hk] at hx
        obtain rfl := Option.some.inj hx
        have hj := hl j (List.mem_of_getElem? hk)
        refine ⟨rfl, _, rfl, _, _, rfl, rfl, ⟨by omega, by omega, by decide⟩, _, e2, ?_, fun z o ez => ?_, ?_⟩
        · rw [List.length_map, List.length_take]
          exact Nat.lt_of_le_of_lt (show _ ≤ 64 by omega) (by decide)
        · rw [upd_ne (ne_of_none ez nD)]
          exact s2 _ _ ez
        · have ej : (fun (i j : Int) => V.int (i * 2 ^ j.toNat)) 1 (j : Int) = vi (2 ^ j) := by
            show V.int (1 * 2 ^ ((j : Int)).toNat) = V.int ((2 ^ j : Nat) : Int)
            rw [Int.toNat_natCast, Int.one_mul, Int.natCast_pow]
            rfl
          rw [upd_same, List.take_add_one, hk, List.map_append, ej]
          rfl
    rintro H2 ⟨s2, e2⟩
    rw [List.length_map, List.take_length] at e2
    refine ⟨D, ((pgs 0 fl).map fun k => 2 ^ k).map fun (k : Nat) => (k : Int), rfl, SqL.of (by rw [map_int_vi, List.map_map]; exact e2), ?_⟩
    rw [sum_vi]
    have t2 := s1.trans s2
    refine ⟨_, rfl, rfl, _, rfl, q, MC, dx, _, _, rfl, t2 _ _ h1, T.cl, T.nF, rfl, l, _, rfl, .inl (SqL.of (t2 _ _ h2)), _, _, rfl, rfl, _, _, rfl, rfl, ?_⟩
    have e8 : (fun (i j : Int) => V.int (i.fdiv j)) (((fl.map V.bl).length : Nat) + 7 : Int) 8 = V.int (((fl.length + 7) / 8 : Nat) : Int) := by
      show V.int (Int.fdiv _ _) = _
      rw [List.length_map, Int.fdiv_eq_ediv_of_nonneg _ (by decide)]
      exact congrArg V.int (by omega)
    rw [e8]
    exact ⟨⟨by decide, by decide⟩, _, (fl.length + 7) / 8, rfl, rfl, by omega, Int.natCast_nonneg _, hn, k _ t2⟩
end
end Toy
set_option Elab.async false
set_option linter.all false
set_option maxRecDepth 100000
set_option maxHeartbeats 4000000
namespace Toy
open PySem PySem.Spec PyProof.Rows L2
def bitsAt (v i : Nat) : List Bool := (List.range 8).map fun k => decide (k < i) && decide (v / 2 ^ k % 2 = 1)
theorem bits_0 (v : Nat) : bitsAt v 0 = List.replicate 8 false := rfl
theorem bits_set (v : Nat) : ∀ i, i < 8 → (bitsAt v i).set i (decide (v / 2 ^ i % 2 = 1)) = bitsAt v (i + 1)
  | 0, _ => rfl
  | 1, _ => rfl
  | 2, _ => rfl
  | 3, _ => rfl
  | 4, _ => rfl
  | 5, _ => rfl
  | 6, _ => rfl
  | 7, _ => rfl
  | _ + 8, h => by omega
theorem bits_len (v i : Nat) : (bitsAt v i).length = 8 := by unfold bitsAt; rw [List.length_map, List.length_range]
theorem num_8 : ∀ v : Fin 256, numF (bitsAt v.val 8) = v.val := by decide +kernel
section
variable {P : Program} {w : World} {K : PySem.W.Frag} {mg : Str → Option Value} {base : Heap} {MC MD : Addr}
structure MkM (P : Program) (w : World) (K : PySem.W.Frag) (mg : Str → Option Value) (base : Heap) (MC fI fS fW : Addr) (fdI fdS fdW : FuncData) : Prop where
  mkM : Mk K MC fI
  g : mg "Marks" = some (.ref MC)
  F : FnOk P w K mg base CX0 3 fI fdI ["self", "many"] (spMkI MC)
  b : L2.Binds K fdI ["self", "many"] []
  cl : Cls K MC
  nq : PySem.W.noSeq K MC = true
  sA : PySem.W.findIn K (.ref MC) "__setitem__" = some (some (.ref fS))
  sF : PySem.W.isFn K (.ref fS) = true
  FS : FnOk P w K mg base CX0 3 fS fdS ["self", "at", "value"] (spMkSet MC)
  bS : L2.Binds K fdS ["self", "at", "value"] []
  mW : Meth K MC "raw" fW
  FW : FnOk P w K mg base CX0 2 fW fdW ["self"] (spMkRaw MC)
  bW : L2.Binds K fdW ["self"] []
def spLByte : Sp := fun vs H Q _ => ∃ v : Nat, vs = [vi v] ∧ v < 256 ∧ ∀ H', Same H H' → Q (.byt (bA [v])) H'
theorem ok_lbyte {f fI fS fW : Addr} {fd fdI fdS fdW : FuncData} (F : Fun K "_law_byte" "_law_byte" s_law_byte f fd) (M : MkM P w K mg base MC fI fS fW fdI fdS fdW) (mi : mg "int" = none) (mr : mg "range" = none) : FnOk P w K mg base CX0 5 f fd ["value"] spLByte := by
  refine F.ok sc_law_byte (fun vs H Q E h => ?_) (fun cdv A outer s H vs Q E hr h => ?_)
  · obtain ⟨v, rfl, _⟩ := h
    rfl
  · obtain ⟨v, rfl, hv, q⟩ := h
    have nd := sc_law_byte.nd
    have hr2 : Room 2 _ := hr.mono (by decide)
    have hr3 : Room 3 _ := hr.mono (by decide)
    refine ⟨_, pss_cons (ps_set (i := 1) nd rfl (Or.inl rfl) (pe_make M.mkM M.F hr (by rfl) M.g M.b .nil pass0 (pa_cons pe_int pa_nil)))
      (pss_cons (ps_for PassesOwn.never rfl (pi_range1 (by rfl) mr (pa_cons pe_int pa_nil)) (pg_name (i := 2) nd rfl (Or.inl rfl))
        (pss_cons (ps_asg (pe_cmpR op_eq (pe_op op_modN (pe_callTy call_int1 (by rfl) mi (by decide +kernel) (pa_cons (pv 0) pa_nil)) pe_int) pe_int (nomark _)) (pg_sub (pv 1) (pv 2) (Vx.set_own (E := E0) M.nq M.sA M.sF (Vx.fnR M.FS M.bS) hr3 pass0)))
        (pss_one (ps_set (i := 0) nd rfl (Or.inl rfl) (pe_op op_fdivN (pv 0) pe_int)))))
      (pss_one (ps_ret (pe_meth0 (pv 1) M.cl M.mW M.FW hr2 M.bW .nil pass0)))), ?_⟩
    intro mk dx nmk ndx nedx
    refine ⟨H, mk, dx, 8, rfl, (fun c o y => by rw [upd_ne (ne_of_none y nmk), upd_ne (ne_of_none y ndx)]; exact y), nmk, upd_same, by decide, by decide, fun H1 l s1 nl e1 el => ⟨rfl, ?_⟩⟩
    refine ⟨_, rfl, by decide, by decide, ?_⟩
    refine for_range (lo := 0) (n := 8) (fun i σ H' => ∃ x : Option V, σ = [some (vi (v / 2 ^ i)), some (.ref mk), x] ∧ Same H H' ∧ MarksAt MC H' mk l (bitsAt v i)) ⟨none, by rw [Nat.pow_zero, Nat.div_one]; rfl, s1, ⟨dx, e1⟩, el⟩ ?_ ?_
    · rintro i σ H' hi ⟨x, rfl, s2, hM⟩
      rw [Int.zero_add]
      obtain ⟨⟨d2, e2⟩, f2⟩ := id hM
      refine ⟨_, rfl, .inl ⟨_, rfl, _, _, rfl, rfl, (show (2 : Int) ≠ 0 by decide), rfl, ?_⟩⟩
      have eb : V.bl (decide ((fun (i j : Int) => V.int (i.fmod j)) ((v / 2 ^ i : Nat) : Int) 2 = V.int 1)) = V.bl (decide (v / 2 ^ i % 2 = 1)) := by
        refine congrArg V.bl (decide_eq_decide.mpr ?_)
        show V.int (Int.fmod _ _) = V.int 1 ↔ _
        rw [Int.fmod_eq_emod_of_nonneg _ (by decide)]
        refine ⟨fun z => ?_, fun z => congrArg V.int (by omega)⟩
        injection z with z
        omega
      rw [eb]
      have ed : (fun (i j : Int) => V.int (i.fdiv j)) ((v / 2 ^ i : Nat) : Int) 2 = vi (v / 2 ^ (i + 1)) := by
        show V.int (Int.fdiv _ _) = V.int ((v / 2 ^ (i + 1) : Nat) : Int)
        rw [Int.fdiv_eq_ediv_of_nonneg _ (by decide), Nat.pow_succ, ← Nat.div_div_eq_div_mul]
        exact congrArg V.int (by omega)
      refine ⟨_, rfl, _, rfl, ⟨mk, d2, _, rfl, e2⟩, mk, l, _, i, _, rfl, hM, hi, ?_⟩
      refine ⟨_, rfl, _, _, rfl, rfl, ⟨by decide, by decide⟩, ?_⟩
      rw [ed, bits_set v i hi]
      exact ⟨_, rfl, fun z o ez => by rw [upd_ne (ne_of_none ez nl)]; exact s2 _ _ ez, hM.put⟩
    · rintro σ H' ⟨x, rfl, s2, hM⟩
      obtain ⟨⟨d2, e2⟩, f2⟩ := id hM
      have n8 := num_8 ⟨v, hv⟩
      refine ⟨_, rfl, mk, d2, _, rfl, e2, rfl, mk, l, _, rfl, hM, by rw [bits_len]; decide, ?_, fun H3 s3 => ?_⟩
      · rw [bits_len, n8]
        show ((v : Nat) : Int) < 256
        omega
      · rw [n8]
        have z : byteArr (PySem.W.KTBy.little (((bitsAt v 8).length + 7) / 8) ((v : Nat) : Int)) = bA [v] := by
          rw [bits_len]
          show byteArr [(v : Int) % 256] = byteArr [(v : Int)]
          rw [Int.emod_eq_of_lt (by omega) (by omega)]
        rw [z]
        exact q _ (s2.trans s3)
def spLData : Sp := fun vs H Q _ => ∃ (l : Addr) (ns : List Nat), vs = [.ref l] ∧ H l = some (.lst (ns.map vi)) ∧ ns.length ≤ 32 ∧ (∀ k ∈ ns, k < 256) ∧ ∀ H', Same H H' → Q (.byt (bA ns)) H'
theorem ok_ldata {f fI fS fW fB : Addr} {fd fdI fdS fdW fdB : FuncData} (F : Fun K "_law_data" "_law_data" s_law_data f fd) (M : MkM P w K mg base MC fI fS fW fdI fdS fdW) (B : Cal P w K mg base CX0 5 fB fdB "_law_byte" ["value"] spLByte) : FnOk P w K mg base CX0 6 f fd ["numbers"] spLData := by
  refine F.ok sc_law_data (fun vs H Q E h => ?_) (fun cdv A outer s H vs Q E hr h => ?_)
  · obtain ⟨l, ns, rfl, _⟩ := h
    rfl
  · obtain ⟨l, ns, rfl, hl, hz, h256, q⟩ := h
    have nd := sc_law_data.nd
    have hr2 : Room 2 _ := hr.mono (by decide)
    have hr4 : Room 4 _ := hr.mono (by decide)
    refine ⟨_, pss_cons (ps_set (i := 1) nd rfl (Or.inl rfl) (pe_slice sl_byt (pe_meth0 (pe_make M.mkM M.F hr4 (by rfl) M.g M.b .nil pass0 (pa_cons pe_int pa_nil)) M.cl M.mW M.FW hr2 M.bW .nil pass0) po_none (po_some pe_int)))
      (pss_cons (ps_for PassesOwn.never rfl (pi_list (pv 0)) (pg_name (i := 2) nd rfl (Or.inl rfl)) (pss_one (ps_set (i := 1) nd rfl (Or.inl rfl) (pe_op op_add_byt (pv 1) (pe_call B.G hr (by rfl) B.g B.k B.b .nil pass0 (pa_cons (pv 2) pa_nil))))))
      (pss_one (ps_ret (pv 1)))), ?_⟩
    intro mk dx nmk ndx nedx
    refine ⟨H, mk, dx, 1, rfl, (fun c o y => by rw [upd_ne (ne_of_none y nmk), upd_ne (ne_of_none y ndx)]; exact y), nmk, upd_same, by decide, by decide, fun H1 m s1 nm e1 em => ⟨rfl, ?_⟩⟩
    refine ⟨mk, dx, _, rfl, e1, rfl, mk, m, List.replicate 1 false, rfl, ⟨⟨dx, e1⟩, em⟩, by decide, by decide, fun H2 s2 => ?_⟩
    refine ⟨_, rfl, _, rfl, by decide, ?_⟩
    have ez : PySem.W.KBy.picked (byteArr (PySem.W.KTBy.little (((List.replicate 1 false).length + 7) / 8) (numF (List.replicate 1 false)))) none (some 0) = bA [] := byteArr_upto (k := 0) (Nat.zero_le _)
    rw [ez]
    have s12 := s1.trans s2
    refine ⟨_, rfl, l, rfl, ⟨_, SqL.of (s12 _ _ hl)⟩, for_it (walk_list (K := K) (a := l) (xs := ns.map vi)) (fun i σ H' => ∃ x : Option V, σ = [some (.ref l), some (.byt (bA (ns.take i))), x] ∧ Same H H') ⟨none, rfl, s12⟩ (fun i σ H' _ z => ?_) ?_ ?_⟩
    · obtain ⟨_, _, s⟩ := z
      exact SqL.of (s _ _ hl)
    · rintro i x σ H' H3 hi ⟨v, rfl, s3⟩ ⟨rfl, hx⟩
      rw [List.length_map] at hi
      rw [List.getElem?_map, List.getElem?_eq_getElem hi] at hx
      obtain rfl := Option.some.inj hx
      refine ⟨_, rfl, _, rfl, ns[i], rfl, h256 _ (List.getElem_mem hi), fun H4 s4 => ⟨_, _, rfl, rfl, ?_, ?_⟩⟩
      · rw [bA_size, bA_size, List.length_take]
        exact Nat.le_trans (show _ ≤ 33 by show min i ns.length + 1 ≤ 33; omega) (by decide)
      · rw [bA_app]
        refine ⟨some (vi ns[i]), ?_, s3.trans s4⟩
        rw [List.take_add_one, List.getElem?_eq_getElem hi]
        rfl
    · rintro σ H' ⟨v, rfl, s3⟩
      rw [List.length_map, List.take_length]
      exact ⟨_, rfl, q _ s3⟩
end
end Toy
set_option Elab.async false
set_option linter.all false
set_option maxRecDepth 100000
set_option maxHeartbeats 4000000
namespace Toy
open PySem PySem.Spec PyProof.Rows L2
/-! ### a page made within -/
def PageNew (PC R : Addr) (H H' : Hp) (pg l : Addr) (M : Obs Fl) : Prop := Same H H' ∧ H pg = none ∧ H l = none ∧ l ≠ pg ∧ (∃ dx, H' pg = some (.ins PC dx [("_rows", .ref l)])) ∧ H' l = some (.lst (refs M)) ∧ RowsAt R H' M
theorem PageNew.at_ {PC R : Addr} {H H' : Hp} {pg l : Addr} {M : Obs Fl} (h : PageNew PC R H H' pg l M) : PageAt PC H' pg M := by
  obtain ⟨_, _, _, _, ⟨dx, e⟩, f, _⟩ := h
  exact ⟨dx, l, e, f⟩
theorem PageNew.same {PC R : Addr} {H H' H2 : Hp} {pg l : Addr} {M : Obs Fl} (h : PageNew PC R H H' pg l M) (s : Same H' H2) : PageNew PC R H H2 pg l M := by
  obtain ⟨a, b, c, n, ⟨dx, e⟩, f, g⟩ := h
  exact ⟨a.trans s, b, c, n, ⟨dx, s _ _ e⟩, s _ _ f, g.same s⟩
theorem PageNew.base {PC R : Addr} {H0 H H' : Hp} {pg l : Addr} {M : Obs Fl} (h : PageNew PC R H H' pg l M) (s : Same H0 H) : PageNew PC R H0 H' pg l M := by
  obtain ⟨a, b, c, n, e, f, g⟩ := h
  exact ⟨s.trans a, none_of s b, none_of s c, n, e, f, g⟩
theorem row_up {R : Addr} {H : Hp} {z l : Addr} {u v : V} {xs ys : List V} (hl : H l = some (.lst xs)) (h : RowAt R H z u v) : RowAt R (upd H l (.lst ys)) z u v := by
  obtain ⟨dz, gz⟩ := h
  exact ⟨dz, by rw [upd_ne (ne_of gz hl (by intro z; cases z))]; exact gz⟩
theorem ins_lstN {H : Hp} {a b C dx : Addr} {fs : List (Str × V)} {ys : List V} (h : H a = some (.ins C dx fs)) (g : H b = some (.lst ys)) : a ≠ b := ne_of h g (by intro z; cases z)
/-- a row put behind -/
theorem PageNew.put {PC R : Addr} {H H' : Hp} {pg l r : Addr} {M : Obs Fl} {q : Fl} (h : PageNew PC R H H' pg l M) (hr : RowAt R H' r (fv q.1) (fv q.2)) (hq : fokP q) : PageNew PC R H (upd H' l (.lst (refs M ++ [.ref r]))) pg l (M ++ [(r, q)]) := by
  obtain ⟨a, b, c, n, ⟨dx, e⟩, f, g⟩ := h
  refine ⟨fun z o ez => ?_, b, c, n, ⟨dx, ?_⟩, ?_, fun x hx => ?_⟩
  · rw [upd_ne (ne_of_none ez c)]
    exact a _ _ ez
  · rw [upd_ne n.symm]
    exact e
  · rw [upd_same, refs_append]
    rfl
  · rcases List.mem_append.mp hx with z | z
    · exact ⟨row_up f (g x z).1, (g x z).2⟩
    · rw [List.mem_singleton.mp z]
      exact ⟨row_up f hr, hq⟩
theorem row_goodP {R B : Addr} {K : PySem.W.Frag} {H : Hp} {b e : V} {ob oe : Option Int} {G : Hp → Prop} {E : XK} {x dx : Addr} (h1 : NV K H b ob) (h2 : NV K H e oe) (o1 : okf b ob = true) (o2 : okf e oe = true) (nx : H x = none) (nd : H dx = none) (q : ∀ H', Same H H' → RowAt R H' x b e → G H') :
    spRowI K R B [.ref x, b, e] (upd (upd H dx (.own x)) x (.ins R dx [])) (fun v H3 => v = .non ∧ G H3) E := by
  have s : Same H (upd (upd H dx (.own x)) x (.ins R dx [])) := fun c o y => by
    rw [upd_ne (ne_of_none y nx), upd_ne (ne_of_none y nd)]
    exact y
  refine ⟨H, x, dx, b, e, ob, oe, rfl, s, nx, upd_same, h1.same s, h2.same s, fun _ H' s' e' => ⟨rfl, q H' s' ⟨dx, e'⟩⟩, fun z => ?_⟩
  rw [o1, o2] at z
  cases z
theorem made_same {H : Hp} {x dx : Addr} {C : Addr} (nx : H x = none) (nd : H dx = none) : Same H (upd (upd H dx (.own x)) x (.ins C dx [])) := fun c o y => by
  rw [upd_ne (ne_of_none y nx), upd_ne (ne_of_none y nd)]
  exact y
theorem map_snd_len {α β : Type} {L : List (α × β)} {M : List (α × β)} (h : M.map Prod.snd = L.map Prod.snd) : M.length = L.length := by
  have := congrArg List.length h
  rwa [List.length_map, List.length_map] at this
theorem rb_get : ∀ {qs : List Fl} {i : Nat} {q : Fl}, qs[i]? = some q → (rb qs)[2 * i]? = some (fb q.1) ∧ (rb qs)[2 * i + 1]? = some (fb q.2)
  | [], _, _, h => by simp at h
  | a :: r, 0, q, h => by
    simp at h
    subst h
    exact ⟨rfl, rfl⟩
  | a :: r, i + 1, q, h => by
    have z := rb_get (qs := r) (i := i) (q := q) (by simpa using h)
    have e1 : 2 * (i + 1) = (2 * i) + 1 + 1 := by omega
    unfold rb
    rw [e1]
    exact ⟨by simpa using z.1, by simpa using z.2⟩
theorem nums_len (qs : List Fl) : (nums qs).length = 2 * qs.length + 2 := by
  unfold nums
  rw [List.length_append, List.length_cons, rb_len]
  rfl
theorem nums_get {qs : List Fl} {j : Nat} (h : j < 2 * qs.length) : (nums qs)[1 + j]? = (rb qs)[j]? := by
  unfold nums
  rw [List.getElem?_append_left (by rw [List.length_cons, rb_len]; omega), Nat.add_comm, List.getElem?_cons_succ]
theorem nums_end (qs : List Fl) : (nums qs)[2 * qs.length + 1]? = some ((qs.length + (rb qs).sum) % 256) := by
  unfold nums
  rw [List.getElem?_append_right (by rw [List.length_cons, rb_len]; omega), List.length_cons, rb_len, Nat.sub_self]
  rfl
theorem nums_take (qs : List Fl) : (nums qs).take (2 * qs.length + 1) = qs.length :: rb qs := by
  unfold nums
  rw [List.take_append_of_le_length (by rw [List.length_cons, rb_len]; omega), List.take_of_length_le (by rw [List.length_cons, rb_len]; omega)]
/-- reading one byte of data -/
theorem rd_item {Q : VK} {H : Hp} {ns : List Nat} {i k : Nat} (hz : ns.length ≤ 64) (h : ns[i]? = some k) (hk : k < 256) (q : Q (vi k) H) :
    ∃ (z : List UInt8) (j : Int), V.byt (bA ns) = .byt z.toArray ∧ vi i = .int j ∧ z.length ≤ sizeLine ∧ 0 ≤ j ∧ j < z.length ∧ Q (.int ((z.getD j.toNat 0).toNat : Nat)) H := by
  have hi : i < ns.length := (List.getElem?_eq_some_iff.mp h).1
  refine ⟨(ns.map fun (k : Nat) => (k : Int)).map fun n => n.toNat.toUInt8, i, rfl, rfl, ?_, Int.natCast_nonneg _, ?_, ?_⟩
  · rw [List.length_map, List.length_map]
    exact Nat.le_trans hz (by decide)
  · rw [List.length_map, List.length_map]
    exact Int.ofNat_lt.mpr hi
  · rw [Int.toNat_natCast, List.getD_eq_getElem?_getD, List.getElem?_map, List.getElem?_map, h]
    show Q (.int ((((k : Int)).toNat.toUInt8.toNat : Nat) : Int)) H
    rw [Int.toNat_natCast, show k.toUInt8.toNat = k from by show k % 256 = k; omega]
    exact q
theorem rd_at {ns : List Nat} {i k : Nat} (hz : ns.length ≤ 64) (h : ns[i]? = some k) (hk : k < 256) :
    ∃ (z : List UInt8) (j : Int), V.byt (bA ns) = .byt z.toArray ∧ vi i = .int j ∧ z.length ≤ sizeLine ∧ 0 ≤ j ∧ j < z.length ∧ V.int ((z.getD j.toNat 0).toNat : Nat) = vi k :=
  rd_item (H := fun _ => none) (Q := fun v _ => v = vi k) hz h hk rfl
theorem rg_step : ∀ n : Nat, n ≤ 7 → RgC 1 ((2 * n + 1 : Nat) : Int) 2 n
  | 0, _ => ⟨by decide, by decide, by decide, by decide⟩
  | 1, _ => ⟨by decide, by decide, by decide, by decide⟩
  | 2, _ => ⟨by decide, by decide, by decide, by decide⟩
  | 3, _ => ⟨by decide, by decide, by decide, by decide⟩
  | 4, _ => ⟨by decide, by decide, by decide, by decide⟩
  | 5, _ => ⟨by decide, by decide, by decide, by decide⟩
  | 6, _ => ⟨by decide, by decide, by decide, by decide⟩
  | 7, _ => ⟨by decide, by decide, by decide, by decide⟩
  | _ + 8, h => by omega
theorem bA_upto {ns : List Nat} {k : Nat} (h : k ≤ ns.length) : PySem.W.KBy.picked (bA ns) none (some (k : Int)) = bA (ns.take k) := by
  unfold bA
  rw [byteArr_upto (by rw [List.length_map]; exact h), List.map_take]
theorem neF {x y : V} (h : x = y) : V.bl (!decide (x = y)) = V.bl false := by rw [decide_eq_true h]; rfl
section
variable {P : Program} {w : World} {K : PySem.W.Frag} {mg : Str → Option Value} {base : Heap} {R B PC W : Addr}
def spWr : Sp := fun vs H Q _ => ∃ o : Option Nat, vs = [vi (fb o)] ∧ Q (fv o) H
theorem ok_wr {f : Addr} {fd : FuncData} (F : Fun K "_writer" "_writer" s_writer f fd) : FnOk P w K mg base CX0 1 f fd ["byte"] spWr := by
  refine F.ok sc_writer (fun vs H Q E h => ?_) (fun cdv A outer s H vs Q E hr h => ?_)
  · obtain ⟨o, rfl, _⟩ := h
    rfl
  · obtain ⟨o, rfl, q⟩ := h
    refine ⟨_, pss_one (ps_ret (pe_ifExp (pt_cmpR op_eq (pv 0) pe_int (nomark _)) pe_non (pe_op op_sub (pv 0) pe_int))), ?_⟩
    cases o with
    | none => exact ⟨_, rfl, rfl, true, rfl, iteT q⟩
    | some k =>
      refine ⟨_, rfl, rfl, false, congrArg V.bl (decide_eq_false fun z => ?_), iteF ⟨_, rfl, _, _, rfl, rfl, ?_⟩⟩
      · injection z with z
        have z : ((k + 1 : Nat) : Int) = 0 := z
        omega
      · show Q (.int (((k + 1 : Nat) : Int) - 1)) H
        rw [show ((k + 1 : Nat) : Int) - 1 = (k : Int) by omega]
        exact q
structure RdT (mg : Str → Option Value) : Prop where
  bytes : mg "bytes" = none
  range : mg "range" = none
  sum : mg "sum" = none
  lw : ∃ t, mg "LAST_WRITER" = some (.int 30 t)
end
end Toy
set_option Elab.async false
set_option linter.all false
set_option maxRecDepth 100000
set_option maxHeartbeats 4000000
namespace Toy
open PySem PySem.Spec PyProof.Rows L2
/-! ### what read owes to a list of bytes -/
def HeadOk (ns : List Nat) : Prop := ∃ n, ns[0]? = some n ∧ n ≤ 7 ∧ ns.length = 2 * n + 2
def Low (ns : List Nat) (i : Nat) : Prop := ∀ j k, 1 ≤ j → j < i → ns[j]? = some k → k ≤ 31
def SumOk (ns : List Nat) : Prop := ns[ns.length - 1]? = some ((ns.take (ns.length - 1)).sum % 256)
def Good (ns : List Nat) : Prop := HeadOk ns ∧ Low ns (ns.length - 1) ∧ SumOk ns
def DueAt (ns : List Nat) (i : Nat) : Prop := (¬ HeadOk ns ∧ i = 0) ∨ (HeadOk ns ∧ 1 ≤ i ∧ i < ns.length - 1 ∧ (∃ k, ns[i]? = some k ∧ 31 < k) ∧ Low ns i) ∨ (HeadOk ns ∧ Low ns (ns.length - 1) ∧ ¬ SumOk ns ∧ i = ns.length - 1)
theorem due_uniq {ns : List Nat} {i j : Nat} (h : DueAt ns i) (g : DueAt ns j) : i = j := by
  rcases h with ⟨h1, h2⟩ | ⟨h1, h2, h3, ⟨k, h4, h5⟩, h6⟩ | ⟨h1, h2, h3, h4⟩
  · rcases g with ⟨g1, g2⟩ | ⟨g1, _⟩ | ⟨g1, _⟩
    · omega
    · exact absurd g1 h1
    · exact absurd g1 h1
  · rcases g with ⟨g1, g2⟩ | ⟨g1, g2, g3, ⟨m, g4, g5⟩, g6⟩ | ⟨g1, g2, g3, g4⟩
    · exact absurd h1 g1
    · rcases Nat.lt_trichotomy i j with z | z | z
      · have := g6 i k h2 z h4
        omega
      · exact z
      · have := h6 j m g2 z g4
        omega
    · have := g2 i k h2 h3 h4
      omega
  · rcases g with ⟨g1, g2⟩ | ⟨g1, g2, g3, ⟨m, g4, g5⟩, g6⟩ | ⟨g1, g2, g3, g4⟩
    · exact absurd h1 g1
    · have := h2 j m g2 g3 g4
      omega
    · omega
theorem good_due {ns : List Nat} {i : Nat} (h : Good ns) (g : DueAt ns i) : False := by
  obtain ⟨h1, h2, h3⟩ := h
  rcases g with ⟨g1, g2⟩ | ⟨g1, g2, g3, ⟨m, g4, g5⟩, g6⟩ | ⟨g1, g2, g3, g4⟩
  · exact g1 h1
  · have := h2 i m g2 g3 g4
    omega
  · exact g3 h3
def ub : Nat → Option Nat
  | 0 => none
  | k + 1 => some k
theorem fb_ub (k : Nat) : fb (ub k) = k := by cases k <;> rfl
theorem fok_ub {k : Nat} (h : k ≤ 31) : fok (ub k) := by
  cases k with
  | zero => intro z e; cases e
  | succ k =>
    intro z e
    have := Option.some.inj e
    omega
def unrb : List Nat → List Fl
  | a :: b :: r => (ub a, ub b) :: unrb r
  | _ => []
theorem rb_unrb : ∀ (n : Nat) (l : List Nat), l.length = 2 * n → rb (unrb l) = l ∧ (unrb l).length = n
  | 0, [], _ => ⟨rfl, rfl⟩
  | 0, _ :: _, h => by simp at h
  | n + 1, [], h => by simp at h
  | n + 1, [_], h => by simp at h; omega
  | n + 1, a :: b :: r, h => by
    have h' : r.length = 2 * n := by simp at h; omega
    have z := rb_unrb n r h'
    refine ⟨?_, congrArg (· + 1) z.2⟩
    show fb (ub a) :: fb (ub b) :: rb (unrb r) = _
    rw [fb_ub, fb_ub, z.1]
theorem unrb_ok : ∀ (n : Nat) (l : List Nat), l.length = 2 * n → (∀ k ∈ l, k ≤ 31) → ∀ q ∈ unrb l, fokP q
  | 0, [], _, _, q, hq => absurd hq List.not_mem_nil
  | 0, _ :: _, h, _, _, _ => by simp at h
  | n + 1, [], h, _, _, _ => by simp at h
  | n + 1, [_], h, _, _, _ => by simp at h; omega
  | n + 1, a :: b :: r, h, hk, q, hq => by
    have h' : r.length = 2 * n := by simp at h; omega
    rcases List.mem_cons.mp hq with e | e
    · rw [e]
      exact ⟨fok_ub (hk a (by simp)), fok_ub (hk b (by simp))⟩
    · exact unrb_ok n r h' (fun k z => hk k (by simp [z])) q e
theorem good_nums {ns : List Nat} (h : Good ns) : ∃ qs : List Fl, ns = nums qs ∧ qs.length ≤ 7 ∧ ∀ q ∈ qs, fokP q := by
  obtain ⟨⟨n, h1, h2, h3⟩, h4, h5⟩ := h
  cases ns with
  | nil => cases h1
  | cons a t =>
    have e0 : a = n := by simpa using h1
    subst e0
    have ht : t.length = 2 * a + 1 := by simp at h3; omega
    have e1 : (a :: t).length - 1 = 2 * a + 1 := by rw [List.length_cons]; omega
    have hm : (t.take (2 * a)).length = 2 * a := by rw [List.length_take]; omega
    have z := rb_unrb a (t.take (2 * a)) hm
    refine ⟨unrb (t.take (2 * a)), ?_, by rw [z.2]; exact h2, unrb_ok a _ hm fun k hk => ?_⟩
    · unfold nums
      rw [z.1, z.2]
      unfold SumOk at h5
      rw [e1, List.getElem?_cons_succ, List.take_succ_cons, List.sum_cons] at h5
      have e2 : t = t.take (2 * a) ++ [(a + (t.take (2 * a)).sum) % 256] := by
        have z2 : t.take (2 * a + 1) = t.take (2 * a) ++ (t[2 * a]?).toList := List.take_add_one
        rw [h5, List.take_of_length_le (by omega)] at z2
        exact z2
      rw [List.cons_append, ← e2]
    · obtain ⟨j, hj, e⟩ := List.mem_iff_getElem.mp hk
      rw [List.getElem_take] at e
      have hj2 : j < 2 * a := by rw [hm] at hj; exact hj
      refine h4 (j + 1) k (by omega) (by omega) ?_
      rw [List.getElem?_cons_succ, List.getElem?_eq_getElem (by omega), e]
end Toy
set_option Elab.async false
set_option linter.all false
set_option maxRecDepth 100000
set_option maxHeartbeats 4000000
namespace Toy
open PySem PySem.Spec PyProof.Rows L2
theorem vi_inj {i j : Nat} (h : vi i = vi j) : i = j := by
  have z : V.int (i : Int) = V.int (j : Int) := h
  injection z with z
  omega
section
variable {P : Program} {w : World} {K : PySem.W.Frag} {mg : Str → Option Value} {base : Heap} {R B PC W : Addr}
structure PgM (P : Program) (w : World) (K : PySem.W.Frag) (mg : Str → Option Value) (base : Heap) (R PC f : Addr) (fd : FuncData) : Prop where
  mkP : Mk K PC f
  g : mg "Page" = some (.ref PC)
  F : FnOk P w K mg base CX0 1 f fd ["self", "rows"] (spPageI K PC R)
  b1 : L2.Binds K fd ["self", "rows"] []
  cl : Cls K PC
def spRead (PC R W : Addr) : Sp := fun vs H Q E => ∃ ns : List Nat, vs = [.byt (bA ns)] ∧ ns.length ≤ 32 ∧ (∀ k ∈ ns, k < 256) ∧ (Good ns → ∀ H' pg l M, PageNew PC R H H' pg l M → nums (M.map Prod.snd) = ns → Q (.ref pg) H') ∧
  (∀ i, DueAt ns i → ∀ H' d, Same H H' → H d = none → H' d = some (.xd [("at", vi i)]) → E (.ref W) (some d) H')
theorem ok_read {f fR fP fW fE : Addr} {fd fdR fdP fdW fdE : FuncData} (F : Fun K "read" "Page.read" s_Page_read f fd) (T : PgT K mg PC) (D : RdT mg) (Z : RowM P w K mg base R B fR fdR) (N : PgM P w K mg base R PC fP fdP) (Wc : Cal P w K mg base CX0 1 fW fdW "_writer" ["byte"] spWr) (er : Err P w K mg base "BadBytes" "at" W fE fdE (spErr K "at")) : FnOk P w K mg base (L2.CX P w) 7 f fd ["data"] (spRead PC R W) := by
  obtain ⟨t7, g7⟩ := T.m7
  obtain ⟨tw, gw⟩ := D.lw
  refine F.okX sc_Page_read (fun vs H Q E h => ?_) (fun cdv A outer s H vs Q E hr h => ?_)
  · obtain ⟨ns, rfl, _⟩ := h
    rfl
  · obtain ⟨ns, rfl, hz32, h256, qg, qe⟩ := h
    have nd := sc_Page_read.nd
    have hr1 : Room 1 _ := hr.mono (by decide)
    have hr2 : Room 2 _ := hr.mono (by decide)
    refine ⟨_, pss_cons (ps_if (pt_not (pt_val (pe_callB call_isi_byt (by rfl) T.isi (by decide +kernel) (pa_cons (pv 0) (pa_cons (pe_bltn (v := .ty "bytes") (by rfl) D.bytes (by decide +kernel) rfl) pa_nil))))) (pss_one (ps_raise rfl (takes_of rfl rfl rfl rfl) (pmk_oex er.T er.iC er.tI er.F hr2 er.b .nil pass0 (by rfl) er.gC (pa_cons pe_non pa_nil)))) pss_nil)
      (pss_cons (ps_if (PW.pt (pw_or (pt_cmpR op_eq (pe_callB call_len (by rfl) T.len PySem.boot_len (pa_cons (pv 0) pa_nil)) pe_int (nomark _)) (pw_or (pt_cmpR op_gt (pe_item_byt (pv 0) pe_int (fun _ _ => rfl)) (pe_glob (v := .int 7) (by rfl) g7 ⟨_, rfl⟩) (nomark _))
        (pw_or1 (pt_cmpR op_ne (pe_callB call_len (by rfl) T.len PySem.boot_len (pa_cons (pv 0) pa_nil)) (pe_op op_add (pe_op op_mul pe_int (pe_item_byt (pv 0) pe_int (fun _ _ => rfl))) pe_int) (nomark _)))))) (pss_one (ps_raise rfl (takes_of rfl rfl rfl rfl) (pmk_oex er.T er.iC er.tI er.F hr2 er.b .nil pass0 (by rfl) er.gC (pa_cons pe_int pa_nil)))) pss_nil)
      (pss_cons (ps_set (i := 1) nd rfl (Or.inl rfl) (pe_op op_sub (pe_callB call_len (by rfl) T.len PySem.boot_len (pa_cons (pv 0) pa_nil)) pe_int))
      (pss_cons (ps_for (passes_of rfl) rfl (pi_range2 (by rfl) D.range (pa_cons pe_int (pa_cons (pv 1) pa_nil))) (pg_name (i := 2) nd rfl (Or.inl rfl))
        (pss_one (ps_if (pt_cmpR op_gt (pe_item_byt (pv 0) (pv 2) (fun _ _ => rfl)) (pe_op op_add (pe_glob (v := .int 30) (by rfl) gw ⟨_, rfl⟩) pe_int) (nomark _)) (pss_one (ps_raise rfl (takes_of rfl rfl rfl rfl) (pmk_oex er.T er.iC er.tI er.F hr2 er.b .nil pass0 (by rfl) er.gC (pa_cons (pv 2) pa_nil)))) pss_nil)))
      (pss_cons (ps_if (pt_cmpR op_ne (pe_item_byt (pv 0) (pv 1) (fun _ _ => rfl)) (pe_op op_and (pe_callB (cr_sum rfl) (by rfl) D.sum (by decide +kernel) (pa_cons (pe_listOfB rfl (by rfl) T.list (pe_slice sl_byt (pv 0) po_none (po_some (pv 1)))) pa_nil)) pe_int) (nomark _)) (pss_one (ps_raise rfl (takes_of rfl rfl rfl rfl) (pmk_oex er.T er.iC er.tI er.F hr2 er.b .nil pass0 (by rfl) er.gC (pa_cons (pv 1) pa_nil)))) pss_nil)
      (pss_one (ps_ret (pe_make N.mkP N.F hr2 (by rfl) N.g N.b1 .nil pass0 (pa_cons (pe_lc (own := [("at", 2)]) (g := gName 2) (tt := tYes) rfl nd (pi_range3 (by rfl) D.range (pa_cons pe_int (pa_cons (pv 1) (pa_cons pe_int pa_nil))))
        (blkOk_by (own := [("at", 2)]) (N := ["data", "last", "at"]) (sc := defScope s_Page_read) (by decide +kernel)) (fun _ _ _ _ _ => pg_name (i := 2) nd rfl (Or.inl rfl)) (fun _ _ _ _ _ => pts_nil)
        (fun _ _ _ _ _ => pe_make Z.mkR Z.F hr (by rfl) Z.gR Z.b2 .nil passL (pa_cons (pe_call Wc.G hr1 (by rfl) Wc.g Wc.k Wc.b .nil pass0 (pa_cons (pe_item_byt (pv 0) (pv 2) (fun _ _ => rfl)) pa_nil)) (pa_cons (pe_call Wc.G hr1 (by rfl) Wc.g Wc.k Wc.b .nil pass0 (pa_cons (pe_item_byt (pv 0) (pe_op op_add (pv 2) pe_int) (fun _ _ => rfl)) pa_nil)) pa_nil)))) pa_nil)))))))), ?_⟩
    have zn : ns.length ≤ 64 := by omega
    have hsz : (bA ns).size = ns.length := bA_size _
    have hsl : (bA ns).size ≤ sizeLine := by rw [hsz]; exact Nat.le_trans hz32 (by decide)
    refine ⟨_, rfl, _, rfl, true, rfl, iteF ?_⟩
    refine ⟨_, rfl, _, ns.length, rfl, ⟨hsl, hsz.symm⟩, rfl, _, rfl, ?_⟩
    have bad0 : ¬ HeadOk ns → ∀ H' d, Same H H' → H d = none → H' d = some (.xd [("at", vi 0)]) → E (.ref W) (some d) H' := fun nh => qe 0 (Or.inl ⟨nh, rfl⟩)
    refine ite2 (fun h0 => ?_) (fun h0 => ?_)
    · have h0 := of_decide_eq_true h0
      injection h0 with h0
      refine iteT ⟨Nat.le_of_ble_eq_true rfl, fun a na => err_end er.T er.no na fun H' d sm nd hd => bad0 (fun ⟨n, x1, x2, x3⟩ => by omega) H' d sm nd hd⟩
    have hne : ns.length ≠ 0 := fun z => h0 (decide_eq_true (congrArg V.int (by omega)))
    obtain ⟨n, i0⟩ : ∃ n, ns[0]? = some n := ⟨_, List.getElem?_eq_getElem (Nat.pos_of_ne_zero hne)⟩
    obtain ⟨z0, j0, a1, a2, a3, a4, a5, a6⟩ := rd_at zn i0 (h256 n (List.mem_of_getElem? i0))
    refine ⟨_, rfl, z0, j0, a1, a2, a3, a4, a5, ?_⟩
    rw [a6]
    refine ⟨_, _, rfl, rfl, _, rfl, ?_⟩
    refine ite2 (fun h7 => ?_) (fun h7 => ?_)
    · have h7 := of_decide_eq_true h7
      exact iteT ⟨Nat.le_of_ble_eq_true rfl, fun a na => err_end er.T er.no na fun H' d sm nd hd => bad0 (fun ⟨m, x1, x2, x3⟩ => by
        rw [i0] at x1
        have := Option.some.inj x1
        omega) H' d sm nd hd⟩
    have hn7 : n ≤ 7 := by
      have : ¬ (7 : Int) < (n : Nat) := fun z => h7 (decide_eq_true z)
      omega
    refine ⟨_, rfl, _, ns.length, rfl, ⟨hsl, hsz.symm⟩, _, rfl, z0, j0, a1, a2, a3, a4, a5, ?_⟩
    rw [a6]
    refine ⟨_, _, rfl, rfl, Or.inl ⟨by decide, by decide⟩, _, _, rfl, rfl, rfl, _, rfl, ?_⟩
    refine ite2 (fun hl => ?_) (fun hl => ?_)
    · refine ⟨Nat.le_of_ble_eq_true rfl, fun a na => err_end er.T er.no na fun H' d sm nd hd => bad0 (fun ⟨m, x1, x2, x3⟩ => ?_) H' d sm nd hd⟩
      rw [i0] at x1
      have x4 := Option.some.inj x1
      have hl : (!decide (V.int (ns.length : Nat) = V.int (2 * (n : Int) + 2))) = true := hl
      rw [Bool.not_eq_true', decide_eq_false_iff_not] at hl
      exact hl (congrArg V.int (by omega))
    have hlen : ns.length = 2 * n + 2 := by
      have hl : ¬ (!decide (V.int (ns.length : Nat) = V.int (2 * (n : Int) + 2))) = true := hl
      rw [Bool.not_eq_true', decide_eq_false_iff_not, Decidable.not_not] at hl
      injection hl with hl
      omega
    have hH : HeadOk ns := ⟨n, i0, hn7, hlen⟩
    refine ⟨_, rfl, _, 2 * n + 2, rfl, ⟨hsl, by rw [hsz, hlen]⟩, _, _, rfl, rfl, ?_⟩
    have el : (fun (i j : Int) => V.int (i - j)) ((2 * n + 2 : Nat) : Int) 1 = vi (2 * n + 1) := congrArg V.int (by omega)
    rw [el]
    refine ⟨_, rfl, 1, ((2 * n + 1 : Nat) : Int), rfl, ⟨by decide, by decide, by omega, by omega⟩, ?_⟩
    have en : (((2 * n + 1 : Nat) : Int) - 1).toNat = 2 * n := by omega
    rw [en]
    refine for_range (lo := 1) (n := 2 * n) (fun i σ H' => ∃ v : Option V, σ = [some (.byt (bA ns)), some (vi (2 * n + 1)), v] ∧ H' = H ∧ Low ns (1 + i)) ⟨none, rfl, rfl, fun j k h1 h2 _ => by omega⟩ ?_ ?_
    · rintro i σ H' hi ⟨v, rfl, rfl, hLow⟩
      have ei : V.int (1 + (i : Int)) = vi (1 + i) := congrArg V.int (by omega)
      rw [ei]
      have hx : 1 + i < ns.length := by omega
      have hk := List.getElem?_eq_getElem hx
      generalize ns[1 + i] = k at hk
      have hk256 := h256 k (List.mem_of_getElem? hk)
      obtain ⟨z, j, b1, b2, b3, b4, b5, b6⟩ := rd_at zn hk hk256
      refine ⟨_, rfl, _, rfl, z, j, b1, b2, b3, b4, b5, ?_⟩
      rw [b6]
      refine ⟨_, _, rfl, rfl, _, _, rfl, rfl, _, rfl, ?_⟩
      refine ite2 (fun hb => ?_) (fun hb => ?_)
      · have hb := of_decide_eq_true hb
        exact ⟨_, rfl, Nat.le_of_ble_eq_true rfl, fun a na => err_end er.T er.no na fun H' d sm nd hd => qe (1 + i) (Or.inr (Or.inl ⟨hH, by omega, by omega, ⟨k, hk, by omega⟩, hLow⟩)) H' d sm nd hd⟩
      · have hb : ¬ ((30 : Int) + 1 < (k : Nat)) := fun z => hb (decide_eq_true z)
        refine ⟨_, rfl, rfl, fun j' k' h1 h2 h3 => ?_⟩
        rcases Nat.lt_or_ge j' (1 + i) with x | x
        · exact hLow j' k' h1 x h3
        · have : j' = 1 + i := by omega
          subst this
          rw [hk] at h3
          have := Option.some.inj h3
          omega
    rintro σ H0 ⟨v, rfl, rfl, hLow⟩
    have e1 : ns.length - 1 = 2 * n + 1 := by omega
    have hLow' : Low ns (ns.length - 1) := by rw [e1, Nat.add_comm]; exact hLow
    have hkl := List.getElem?_eq_getElem (show 2 * n + 1 < ns.length by omega)
    generalize ns[2 * n + 1] = kl at hkl
    obtain ⟨zl, jl, c1, c2, c3, c4, c5, c6⟩ := rd_at zn hkl (h256 kl (List.mem_of_getElem? hkl))
    refine ⟨_, rfl, _, rfl, zl, jl, c1, c2, c3, c4, c5, ?_⟩
    rw [c6]
    refine ⟨_, rfl, _, rfl, _, rfl, _, rfl, hsl, ?_⟩
    rw [show PySem.W.KBy.picked (bA ns) none (some ((2 * n + 1 : Nat) : Int)) = bA (ns.take (2 * n + 1)) from bA_upto (by omega)]
    have zb : (bA (ns.take (2 * n + 1))).size ≤ sizeLine := by
      rw [bA_size, List.length_take]
      exact Nat.le_trans (show _ ≤ 32 by omega) (by decide)
    refine ⟨_, rfl, zb, fun m nm => ?_⟩
    have hb256 : ∀ k ∈ ns.take (2 * n + 1), k < 256 := fun k hk => h256 k (List.mem_of_mem_take hk)
    refine ⟨m, (ns.take (2 * n + 1)).map fun (k : Nat) => (k : Int), rfl, SqL.of (by rw [map_int_vi, bA_list hb256]; exact upd_same), _, _, rfl, rfl, rfl, _, rfl, ?_⟩
    rw [sum_vi]
    have es : (fun (i j : Int) => V.int (Builtin.bitAnd i j)) (((ns.take (2 * n + 1)).sum : Nat) : Int) 255 = vi ((ns.take (2 * n + 1)).sum % 256) := congrArg V.int (and_255 _)
    rw [es]
    have s1 := same_upd (o := .lst ((bi (bA (ns.take (2 * n + 1)))).map V.int)) nm
    have hS : SumOk ns ↔ kl = (ns.take (2 * n + 1)).sum % 256 := by
      unfold SumOk
      rw [e1, hkl]
      exact ⟨fun z => Option.some.inj z, fun z => congrArg some z⟩
    refine ite2 (fun hs => ?_) (fun hs => ?_)
    · rw [Bool.not_eq_true', decide_eq_false_iff_not] at hs
      exact ⟨_, rfl, Nat.le_of_ble_eq_true rfl, fun a na => err_end er.T er.no na fun H' d sm nd hd => qe (2 * n + 1) (Or.inr (Or.inr ⟨hH, hLow', fun z => hs (congrArg vi (hS.mp z)), e1.symm⟩)) H' d (s1.trans sm) (none_of s1 nd) hd⟩
    rw [Bool.not_eq_true', decide_eq_false_iff_not, Decidable.not_not] at hs
    have hG : Good ns := ⟨hH, hLow', hS.mpr (vi_inj hs)⟩
    obtain ⟨qs, rfl, hz, hq⟩ := good_nums hG
    have hnq : n = qs.length := by
      have := nums_len qs
      omega
    subst hnq
    clear hLow e1
    refine ⟨_, rfl, _, _, _, qs.length, rfl, rg_step _ hz, fun lr nlr => ?_⟩
    refine lc_it (walk_rangeC (lo := 1) (c := 2) (n := qs.length)) (fun i H' => Same H0 H' ∧ ∃ M : Obs Fl, H' lr = some (.lst (refs M)) ∧ M.map Prod.snd = qs.take i ∧ RowsAt R H' M) ⟨s1.trans (same_upd nlr), [], upd_same, rfl, fun x h => absurd h List.not_mem_nil⟩ (fun _ _ _ _ => trivial) ?_ ?_
    · rintro i x H' H2 hi ⟨s5, M, e5, hM, rM⟩ ⟨rfl, rfl⟩
      have hqi : qs[i]? = some qs[i] := List.getElem?_eq_getElem hi
      have fq := hq _ (List.getElem_mem hi)
      obtain ⟨g1, g2⟩ := rb_get hqi
      have w1 := (fb_lt fq.1)
      have w2 := (fb_lt fq.2)
      obtain ⟨z, j, b1, b2, b3, b4, b5, b6⟩ := rd_at zn ((nums_get (by omega)).trans g1) (by omega)
      obtain ⟨z', j', d1, d2, d3, d4, d5, d6⟩ := rd_at zn ((nums_get (by omega)).trans g2) (by omega)
      have b2 : V.int (1 + (i : Int) * 2) = .int j := by rw [← b2]; exact congrArg V.int (by omega)
      have d2 : V.int (1 + (i : Int) * 2 + 1) = .int j' := by rw [← d2]; exact congrArg V.int (by omega)
      refine ⟨rfl, _, rfl, _, rfl, z, j, b1, b2, b3, b4, b5, ?_⟩
      rw [b6]
      refine ⟨_, rfl, _, rfl, _, rfl, _, _, rfl, rfl, z', j', d1, d2, d3, d4, d5, ?_⟩
      rw [d6]
      refine ⟨_, rfl, ?_⟩
      intro r dr nr ndr ner
      refine row_goodP (NV.fv qs[i].1) (NV.fv qs[i].2) (okf_fv fq.1) (okf_fv fq.2) nr ndr fun H6 s6 h6 => ?_
      have e6 := s6 _ _ e5
      refine ⟨_, e6, ?_, fun b o eb => ?_, M ++ [(r, qs[i])], ?_, ?_, ?_⟩
      · rw [refs_len]
        have := congrArg List.length hM
        rw [List.length_map, List.length_take] at this
        exact Nat.lt_of_le_of_lt (show M.length ≤ 7 by omega) (by decide)
      · rw [upd_ne (ne_of_none eb (none_of s1 nlr))]
        exact s6 _ _ (s5 _ _ eb)
      · rw [upd_same, refs_append]
        rfl
      · rw [List.map_append, hM, List.take_add_one, hqi]
        rfl
      · intro x hx
        rcases List.mem_append.mp hx with h | h
        · exact ⟨row_up e6 ((rM x h).1.same s6), (rM x h).2⟩
        · rw [List.mem_singleton.mp h]
          exact ⟨row_up e6 h6, fq⟩
    rintro H5 ⟨s5, M, e5, hM, rM⟩
    rw [List.take_length] at hM
    have hM7 : M.length ≤ 7 := by
      have := congrArg List.length hM
      rw [List.length_map] at this
      omega
    intro pg dpg npg ndpg nepg
    refine ⟨H5, pg, dpg, lr, M, rfl, made_same npg ndpg, npg, upd_same, SqL.of e5, hM7, rM, fun H6 lp s6 nlp pg6 elp => ⟨rfl, qg hG _ pg lp M ⟨s5.trans s6, none_of s5 npg, none_of s5 nlp, (ins_lstN pg6 elp).symm, ⟨dpg, pg6⟩, elp, rM.same s6⟩ (by rw [hM])⟩⟩
end
end Toy
set_option Elab.async false
set_option linter.all false
set_option maxRecDepth 100000
set_option maxHeartbeats 4000000
namespace Toy
open PySem PySem.Spec PyProof.Rows L2
section
variable {P : Program} {w : World} {K : PySem.W.Frag} {mg : Str → Option Value} {base : Heap} {R B PC W : Addr}
theorem pss_never {X : Cx} {rest : List Stmt} : PSs X rest tNever := ⟨fun _ _ _ _ _ _ h => h.elim⟩
/-- of what is no bytes -/
def spReadN (K : PySem.W.Frag) (W : Addr) : Sp := fun vs H Q E => ∃ (v : V) (t : Value), vs = [v] ∧ TyX K H v t ∧ PySem.W.kitOne K t (.type "bytes") = some false ∧ ∀ H' d, Same H H' → H d = none → H' d = some (.xd [("at", .non)]) → E (.ref W) (some d) H'
theorem ok_readN {f fE : Addr} {fd fdE : FuncData} (F : Fun K "read" "Page.read" s_Page_read f fd) (T : PgT K mg PC) (D : RdT mg) (er : Err P w K mg base "BadBytes" "at" W fE fdE (spErr K "at")) : FnOk P w K mg base (L2.CX P w) 7 f fd ["data"] (spReadN K W) := by
  refine F.okX sc_Page_read (fun vs H Q E h => ?_) (fun cdv A outer s H vs Q E hr h => ?_)
  · obtain ⟨v, t, rfl, _⟩ := h
    rfl
  · obtain ⟨v, t, rfl, ht, hk, qe⟩ := h
    have hr2 : Room 2 _ := hr.mono (by decide)
    refine ⟨_, pss_cons (ps_if (pt_not (pt_val (pe_callB call_isi (by rfl) T.isi (by decide +kernel) (pa_cons (pv 0) (pa_cons (pe_bltn (v := .ty "bytes") (by rfl) D.bytes (by decide +kernel) rfl) pa_nil)))))
      (pss_one (ps_raise rfl (takes_of rfl rfl rfl rfl) (pmk_oex er.T er.iC er.tI er.F hr2 er.b .nil pass0 (by rfl) er.gC (pa_cons pe_non pa_nil)))) pss_nil) pss_never, ?_⟩
    refine ⟨_, rfl, v, .ty "bytes", t, _, false, rfl, .ty _, ht, hk, false, rfl, iteT ?_⟩
    exact ⟨Nat.le_of_ble_eq_true rfl, fun a na => err_end er.T er.no na fun H' d sm nd hd => qe H' d sm nd hd⟩
structure KitW (K : PySem.W.Frag) (mg : Str → Option Value) (W D Y : Addr) : Prop where
  isi : mg "isinstance" = none
  gW : mg "BadBytes" = some (.ref W)
  gD : mg "PagesError" = some (.ref D)
  gY : mg "BadPage" = some (.ref Y)
  ve : mg "ValueError" = none
  kD : PySem.W.kitOne K (.ref W) (.ref D) = some true
  kV : PySem.W.kitOne K (.ref W) (.type "ValueError") = some true
  kY : PySem.W.kitOne K (.ref W) (.ref Y) = some false
structure Sui (K : PySem.W.Frag) (B : Addr) (f : Str) : Prop where
  X : Vx.ExcX K B
  F : XfC K B
  no : PySem.W.findIn K (.ref B) f = some none
  ex : PySem.W.exmOne K (.ref B) (.ref B) = some true
def told4 (v : V) : List V := [v, .bl true, .bl true, .bl false]
def spTold (PC R : Addr) : Sp := fun vs H Q _ => ∃ ns : List Nat, vs = [.byt (bA ns)] ∧ ns.length ≤ 32 ∧ (∀ k ∈ ns, k < 256) ∧ (Good ns → ∀ H' pg l M, PageNew PC R H H' pg l M → nums (M.map Prod.snd) = ns → Q (.ref pg) H') ∧
  (∀ i, DueAt ns i → ∀ H' t, Same H H' → H' t = some (.lst (told4 (vi i))) → Q (.ref t) H')
theorem ok_told {f fO D Y p : Addr} {mc : Value} {fd : FuncData} (F : Fun K "_law_told" "_law_told" s_law_told f fd) (cr : ClX.CRead K PC mc) (sm : Vx.SMet K PC mc "read" p fO) (gC : mg "Page" = some (.ref PC)) (GO : FnR P w K mg base (L2.CX P w) 7 fO (spRead PC R W)) (S : Sui K W "at") (T : KitW K mg W D Y) :
    FnOk P w K mg base CX0 9 f fd ["data"] (spTold PC R) := by
  refine F.ok sc_law_told (fun vs H Q E h => ?_) (fun cdv A outer s H vs Q E hr h => ?_)
  · obtain ⟨ns, rfl, _⟩ := h
    rfl
  · obtain ⟨ns, rfl, hz, h256, qg, qe⟩ := h
    have hr7 : Room 7 _ := hr.mono (by decide)
    have nd := sc_law_told.nd
    refine ⟨_, pss_cons (ps_set (i := 1) nd rfl (Or.inl rfl) pe_non)
      (pss_cons (ps_try_as (i := 2) rfl rfl nd rfl rfl ⟨rfl, by decide, .inl T.gW⟩ takes0
        (fun W pn xe tk _ => pss_one (ps_set (i := 1) nd rfl (Or.inl rfl) (Vx.pe_smethE (pe_glob (v := .ref PC) (by rfl) gC rfl) cr sm GO hr7 (fun σ => passAt tk σ) (pa_cons (pv 0) pa_nil))))
        (fun a oe cls d pn hz hf => pss_one (ps_set (i := 1) nd rfl (Or.inl rfl) (pe_lst (pa_cons (pe_xf S.F S.no hz hf (pv 2))
          (pa_cons (pe_callB (Vx.call_isX S.X hz hf) (by rfl) T.isi (by decide +kernel) (pa_cons (pv 2) (pa_cons (pe_glob (v := .ref D) (by rfl) T.gD rfl) pa_nil)))
          (pa_cons (pe_callB (Vx.call_isX S.X hz hf) (by rfl) T.isi (by decide +kernel) (pa_cons (pv 2) (pa_cons (pe_bltn (v := .ty "ValueError") (by rfl) T.ve (by decide +kernel) rfl) pa_nil)))
          (pa_cons (pe_callB (Vx.call_isX S.X hz hf) (by rfl) T.isi (by decide +kernel) (pa_cons (pv 2) (pa_cons (pe_glob (v := .ref Y) (by rfl) T.gY rfl) pa_nil))) pa_nil))))))))
      (pss_one (ps_ret (pv 1)))), ?_⟩
    refine ⟨rfl, _, rfl, ns, rfl, hz, h256, fun hg H' pg l M N e => ⟨_, rfl, qg hg H' pg l M N e⟩, fun i hi H' dd s' nd' hd' => ?_⟩
    refine ⟨true, S.ex, fun _ a ha => ?_, fun z => nomatch z⟩
    refine ⟨_, rfl, rfl, rfl, dd, _, _, rfl, hd', rfl, ?_⟩
    refine ⟨_, rfl, rfl, dd, _, .ref D, .ref D, true, rfl, hd', rfl, fun u z => z, T.kD, ?_⟩
    refine ⟨_, rfl, rfl, dd, _, .ty "ValueError", .type "ValueError", true, rfl, hd', rfl, fun u z => z, T.kV, ?_⟩
    refine ⟨_, rfl, rfl, dd, _, .ref Y, .ref Y, false, rfl, hd', rfl, fun u z => z, T.kY, ?_⟩
    exact ⟨by show 4 ≤ sizeLine; decide, fun m nm => ⟨_, rfl, qe i hi _ m (s'.trans (same_upd nm)) upd_same⟩⟩
def spToldN (K : PySem.W.Frag) : Sp := fun vs H Q _ => ∃ (v : V) (t : Value), vs = [v] ∧ TyX K H v t ∧ PySem.W.kitOne K t (.type "bytes") = some false ∧ ∀ H' t, Same H H' → H' t = some (.lst (told4 .non)) → Q (.ref t) H'
theorem ok_toldN {f fO D Y p : Addr} {mc : Value} {fd : FuncData} (F : Fun K "_law_told" "_law_told" s_law_told f fd) (cr : ClX.CRead K PC mc) (sm : Vx.SMet K PC mc "read" p fO) (gC : mg "Page" = some (.ref PC)) (GO : FnR P w K mg base (L2.CX P w) 7 fO (spReadN K W)) (S : Sui K W "at") (T : KitW K mg W D Y) :
    FnOk P w K mg base CX0 9 f fd ["data"] (spToldN K) := by
  refine F.ok sc_law_told (fun vs H Q E h => ?_) (fun cdv A outer s H vs Q E hr h => ?_)
  · obtain ⟨v, t, rfl, _⟩ := h
    rfl
  · obtain ⟨v, t, rfl, ht, hk, qe⟩ := h
    have hr7 : Room 7 _ := hr.mono (by decide)
    have nd := sc_law_told.nd
    refine ⟨_, pss_cons (ps_set (i := 1) nd rfl (Or.inl rfl) pe_non)
      (pss_cons (ps_try_as (i := 2) rfl rfl nd rfl rfl ⟨rfl, by decide, .inl T.gW⟩ takes0
        (fun W pn xe tk _ => pss_one (ps_set (i := 1) nd rfl (Or.inl rfl) (Vx.pe_smethE (pe_glob (v := .ref PC) (by rfl) gC rfl) cr sm GO hr7 (fun σ => passAt tk σ) (pa_cons (pv 0) pa_nil))))
        (fun a oe cls d pn hz hf => pss_one (ps_set (i := 1) nd rfl (Or.inl rfl) (pe_lst (pa_cons (pe_xf S.F S.no hz hf (pv 2))
          (pa_cons (pe_callB (Vx.call_isX S.X hz hf) (by rfl) T.isi (by decide +kernel) (pa_cons (pv 2) (pa_cons (pe_glob (v := .ref D) (by rfl) T.gD rfl) pa_nil)))
          (pa_cons (pe_callB (Vx.call_isX S.X hz hf) (by rfl) T.isi (by decide +kernel) (pa_cons (pv 2) (pa_cons (pe_bltn (v := .ty "ValueError") (by rfl) T.ve (by decide +kernel) rfl) pa_nil)))
          (pa_cons (pe_callB (Vx.call_isX S.X hz hf) (by rfl) T.isi (by decide +kernel) (pa_cons (pv 2) (pa_cons (pe_glob (v := .ref Y) (by rfl) T.gY rfl) pa_nil))) pa_nil))))))))
      (pss_one (ps_ret (pv 1)))), ?_⟩
    refine ⟨rfl, _, rfl, v, t, rfl, ht, hk, fun H' dd s' nd' hd' => ?_⟩
    refine ⟨true, S.ex, fun _ a ha => ?_, fun z => nomatch z⟩
    refine ⟨_, rfl, rfl, rfl, dd, _, _, rfl, hd', rfl, ?_⟩
    refine ⟨_, rfl, rfl, dd, _, .ref D, .ref D, true, rfl, hd', rfl, fun u z => z, T.kD, ?_⟩
    refine ⟨_, rfl, rfl, dd, _, .ty "ValueError", .type "ValueError", true, rfl, hd', rfl, fun u z => z, T.kV, ?_⟩
    refine ⟨_, rfl, rfl, dd, _, .ref Y, .ref Y, false, rfl, hd', rfl, fun u z => z, T.kY, ?_⟩
    exact ⟨by show 4 ≤ sizeLine; decide, fun m nm => ⟨_, rfl, qe _ m (s'.trans (same_upd nm)) upd_same⟩⟩
end
end Toy
set_option Elab.async false
set_option linter.all false
set_option maxRecDepth 100000
set_option maxHeartbeats 4000000
namespace Toy
open PySem PySem.Spec PyProof.Rows L2
theorem cut_init {xs : List V} : cutV xs none (some (-1)) = xs.take (xs.length - 1) := by
  unfold cutV
  have e : HT.sIx xs.length xs.length (some (-1)) = xs.length - 1 := by
    show (if (-1 : Int) < 0 then (-1 + (xs.length : Int)).toNat else min (-1 : Int).toNat xs.length) = _
    rw [if_pos (by decide)]
    omega
  rw [HT.sIx_none, e, List.drop_zero, Nat.sub_zero]
theorem at_last {xs : List V} (h : xs ≠ []) : atI xs (-1) = xs[xs.length - 1]? := by
  have hp : 0 < xs.length := List.length_pos_iff.mpr h
  have e : ixN xs.length (-1) = some (xs.length - 1) := by
    unfold ixN
    rw [if_neg (by decide), if_pos (by omega)]
    exact congrArg some (by omega)
  unfold atI
  rw [e]
  rfl
section
variable {P : Program} {w : World} {K : PySem.W.Frag} {mg : Str → Option Value} {base : Heap} {R B PC W : Addr}
def spDue : Sp := fun vs H Q _ => ∃ (l : Addr) (ns : List Nat), vs = [.ref l] ∧ H l = some (.lst (ns.map vi)) ∧ ns.length ≤ 32 ∧ (∀ k ∈ ns, k < 256) ∧ (∀ i, DueAt ns i → ∀ H', Same H H' → Q (vi i) H') ∧ (Good ns → ∀ H', Same H H' → Q (.str "good") H')
theorem ok_due {f : Addr} {fd : FuncData} (F : Fun K "_law_due" "_law_due" s_law_due f fd) (ml : mg "len" = none) (mr : mg "range" = none) (mi : mg "int" = none) (ms : mg "sum" = none) : FnOk P w K mg base CX0 1 f fd ["numbers"] spDue := by
  refine F.ok sc_law_due (fun vs H Q E h => ?_) (fun cdv A outer s H vs Q E hr h => ?_)
  · obtain ⟨l, ns, rfl, _⟩ := h
    rfl
  · obtain ⟨l, ns, rfl, hl, hz, h256, qi, qg⟩ := h
    have nd := sc_law_due.nd
    refine ⟨_, pss_cons (ps_if (PW.pt (pw_or (pt_cmpR (op_eqD hr.units) (pv 0) (pe_lst pa_nil) (nomark _)) (pw_or (pt_cmpR op_gt (pe_ix ix_list (pv 0) pe_int (fun _ _ => rfl)) pe_int (nomark _))
        (pw_or1 (pt_cmpR op_ne (pe_callB call_len_seq (by rfl) ml PySem.boot_len (pa_cons (pv 0) pa_nil)) (pe_op op_add (pe_op op_mul pe_int (pe_ix ix_list (pv 0) pe_int (fun _ _ => rfl))) pe_int) (nomark _)))))) (pss_one (ps_ret pe_int)) pss_nil)
      (pss_cons (ps_for PassesOwn.never rfl (pi_range2 (by rfl) mr (pa_cons pe_int (pa_cons (pe_op op_sub (pe_callB call_len_seq (by rfl) ml PySem.boot_len (pa_cons (pv 0) pa_nil)) pe_int) pa_nil))) (pg_name (i := 1) nd rfl (Or.inl rfl))
        (pss_one (ps_if (pt_cmpR op_gt (pe_ix ix_list (pv 0) (pv 1) (fun _ _ => rfl)) pe_int (nomark _)) (pss_one (ps_ret (pv 1))) pss_nil)))
      (pss_cons (ps_if (pt_cmpR op_ne (pe_op op_modN (pe_callTy call_int1 (by rfl) mi (by decide +kernel) (pa_cons (pe_callB (cr_sum rfl) (by rfl) ms (by decide +kernel) (pa_cons (pe_slice sl_list (pv 0) po_none (po_some (pe_un un_neg pe_int))) pa_nil)) pa_nil)) pe_int) (pe_ix ix_list (pv 0) (pe_un un_neg pe_int) (fun _ _ => rfl)) (nomark _)) (pss_one (ps_ret (pe_op op_sub (pe_callB call_len_seq (by rfl) ml PySem.boot_len (pa_cons (pv 0) pa_nil)) pe_int))) pss_nil)
      (pss_one (ps_ret pe_str)))), ?_⟩
    refine ⟨_, rfl, by show 0 ≤ sizeLine; decide, fun z nz => ?_⟩
    have s1 := same_upd (o := .lst []) nz
    have ez : (upd H z (.lst [])) z = some (.lst (([] : List Nat).map vi)) := upd_same
    generalize upd H z (HO.lst []) = H1 at s1 ez
    have l1 := s1 _ _ hl
    refine ⟨_, _, dp_vi l1, dp_vi ez, shp_dk _, shp_dk _, _, rfl, ?_⟩
    rw [show PyData.eqv (.list (ns.map dk)) (.list (([] : List Nat).map dk)) = decide (ns = []) from eqv_dk ns []]
    refine ite2 (fun h0 => ?_) (fun h0 => ?_)
    · have h0 := of_decide_eq_true h0
      subst h0
      exact iteT (qi 0 (Or.inl ⟨fun ⟨n, x, _⟩ => (by cases x), rfl⟩) _ s1)
    have hne : ns ≠ [] := fun e => h0 (decide_eq_true e)
    have hpos : 0 < ns.length := List.length_pos_iff.mpr hne
    obtain ⟨n, i0⟩ : ∃ n, ns[0]? = some n := ⟨_, List.getElem?_eq_getElem hpos⟩
    have at0 : atI (ns.map vi) ((0 : Nat) : Int) = some (vi n) := atI_nat (by rw [List.getElem?_map, i0]; rfl)
    refine ⟨_, rfl, l, _, _, _, rfl, rfl, SqL.of l1, at0, _, _, rfl, rfl, _, rfl, ?_⟩
    have bad0 : ¬ HeadOk ns → Q (vi 0) H1 := fun nh => qi 0 (Or.inl ⟨nh, rfl⟩) _ s1
    refine ite2 (fun h7 => ?_) (fun h7 => ?_)
    · have h7 := of_decide_eq_true h7
      refine iteT (bad0 fun ⟨m, x1, x2, x3⟩ => ?_)
      rw [i0] at x1
      have := Option.some.inj x1
      omega
    have hn7 : n ≤ 7 := by
      have : ¬ (7 : Int) < (n : Nat) := fun z => h7 (decide_eq_true z)
      omega
    refine ⟨_, rfl, l, _, rfl, .inl (SqL.of l1), _, rfl, l, _, _, _, rfl, rfl, SqL.of l1, at0, ?_⟩
    refine ⟨_, _, rfl, rfl, Or.inl ⟨by decide, by decide⟩, _, _, rfl, rfl, rfl, _, rfl, ?_⟩
    rw [List.length_map]
    refine ite2 (fun hlb => ?_) (fun hlb => ?_)
    · refine bad0 fun ⟨m, x1, x2, x3⟩ => ?_
      rw [i0] at x1
      have x4 := Option.some.inj x1
      have hl : (!decide (V.int (ns.length : Nat) = V.int (2 * (n : Int) + 2))) = true := hlb
      rw [Bool.not_eq_true', decide_eq_false_iff_not] at hl
      exact hl (congrArg V.int (by omega))
    have hlen : ns.length = 2 * n + 2 := by
      have hl : ¬ (!decide (V.int (ns.length : Nat) = V.int (2 * (n : Int) + 2))) = true := hlb
      rw [Bool.not_eq_true', decide_eq_false_iff_not, Decidable.not_not] at hl
      injection hl with hl
      omega
    have hH : HeadOk ns := ⟨n, i0, hn7, hlen⟩
    refine ⟨_, rfl, l, _, rfl, .inl (SqL.of l1), _, _, rfl, rfl, 1, ((2 * n + 1 : Nat) : Int), ?_, ⟨by decide, by decide, by omega, by omega⟩, ?_⟩
    · rw [List.length_map, hlen]
      exact congrArg (fun x => [V.int 1, V.int x]) (by omega)
    rw [show (((2 * n + 1 : Nat) : Int) - 1).toNat = 2 * n by omega]
    refine for_range (lo := 1) (n := 2 * n) (fun i σ H' => ∃ v : Option V, σ = [some (.ref l), v] ∧ H' = H1 ∧ Low ns (1 + i)) ⟨none, rfl, rfl, fun j k h1 h2 _ => by omega⟩ ?_ ?_
    · rintro i σ H' hi ⟨v, rfl, rfl, hLow⟩
      have ei : V.int (1 + (i : Int)) = vi (1 + i) := congrArg V.int (by omega)
      rw [ei]
      have hx : 1 + i < ns.length := by omega
      have hk := List.getElem?_eq_getElem hx
      generalize ns[1 + i] = k at hk
      refine ⟨_, rfl, _, rfl, l, _, _, _, rfl, rfl, SqL.of l1, atI_nat (by rw [List.getElem?_map, hk]; rfl), _, _, rfl, rfl, _, rfl, ?_⟩
      refine ite2 (fun hb => ?_) (fun hb => ?_)
      · have hb := of_decide_eq_true hb
        exact ⟨_, rfl, qi (1 + i) (Or.inr (Or.inl ⟨hH, by omega, by omega, ⟨k, hk, by omega⟩, hLow⟩)) _ s1⟩
      · have hb : ¬ ((31 : Int) < (k : Nat)) := fun z => hb (decide_eq_true z)
        refine ⟨_, rfl, rfl, fun j' k' h1 h2 h3 => ?_⟩
        rcases Nat.lt_or_ge j' (1 + i) with x | x
        · exact hLow j' k' h1 x h3
        · have : j' = 1 + i := by omega
          subst this
          rw [hk] at h3
          have := Option.some.inj h3
          omega
    rintro σ H' ⟨v, rfl, rfl, hLow⟩
    have e1 : ns.length - 1 = 2 * n + 1 := by omega
    have hLow' : Low ns (ns.length - 1) := by rw [e1, Nat.add_comm]; exact hLow
    have hkl := List.getElem?_eq_getElem (show ns.length - 1 < ns.length by omega)
    generalize ns[ns.length - 1] = kl at hkl
    have lst : atI (ns.map vi) (-1) = some (vi kl) := by
      rw [at_last (fun z => hne (List.map_eq_nil_iff.mp z)), List.length_map, List.getElem?_map, hkl]
      rfl
    refine ⟨_, rfl, 1, rfl, -1, rfl, l, ns.map vi, rfl, SqL.of l1, fun m nm => ?_⟩
    rw [cut_init, List.length_map, ← List.map_take]
    have s2 := same_upd (o := .lst ((ns.take (ns.length - 1)).map vi)) nm
    refine ⟨m, (ns.take (ns.length - 1)).map fun (k : Nat) => (k : Int), rfl, SqL.of (by rw [map_int_vi]; exact upd_same), .inl ⟨_, rfl, _, _, rfl, rfl, (show (256 : Int) ≠ 0 by decide), ?_⟩⟩
    rw [sum_vi]
    have em : (fun (i j : Int) => V.int (i.fmod j)) (((ns.take (ns.length - 1)).sum : Nat) : Int) 256 = vi ((ns.take (ns.length - 1)).sum % 256) := congrArg V.int (fmod_256 _)
    rw [em]
    refine ⟨_, rfl, 1, rfl, l, _, _, _, rfl, rfl, SqL.of (s2 _ _ l1), lst, rfl, _, rfl, ?_⟩
    have hS : SumOk ns ↔ kl = (ns.take (ns.length - 1)).sum % 256 := by
      unfold SumOk
      rw [hkl]
      exact ⟨fun z => Option.some.inj z, fun z => congrArg some z⟩
    refine ite2 (fun hs => ?_) (fun hs => ?_)
    · rw [Bool.not_eq_true', decide_eq_false_iff_not] at hs
      refine ⟨_, rfl, l, _, rfl, .inl (SqL.of (s2 _ _ l1)), _, _, rfl, rfl, ?_⟩
      have ee : (fun (i j : Int) => V.int (i - j)) ((ns.map vi).length : Nat) 1 = vi (ns.length - 1) := by
        show V.int (((ns.map vi).length : Nat) - 1 : Int) = V.int ((ns.length - 1 : Nat) : Int)
        rw [List.length_map]
        exact congrArg V.int (by omega)
      rw [ee]
      exact qi _ (Or.inr (Or.inr ⟨hH, hLow', fun z => hs (congrArg vi (hS.mp z).symm), rfl⟩)) _ (s1.trans s2)
    rw [Bool.not_eq_true', decide_eq_false_iff_not, Decidable.not_not] at hs
    exact qg ⟨hH, hLow', hS.mpr (vi_inj hs).symm⟩ _ (s1.trans s2)
end
end Toy
set_option Elab.async false
set_option linter.all false
set_option maxRecDepth 100000
set_option maxHeartbeats 4000000
namespace Toy
open PySem PySem.Spec PyProof.Rows L2
theorem cut_to {xs : List V} {i : Nat} : cutV xs none (some (i : Int)) = xs.take i := by
  unfold cutV
  rw [HT.sIx_none, HT.sIx_nat, List.drop_zero, Nat.sub_zero]
  by_cases h : i ≤ xs.length
  · rw [Nat.min_eq_left h]
  · rw [Nat.min_eq_right (by omega), List.take_of_length_le (Nat.le_refl _), List.take_of_length_le (by omega)]
theorem cut_from {xs : List V} {i : Nat} : cutV xs (some (i : Int)) none = xs.drop i := by
  unfold cutV
  rw [HT.sIx_none, HT.sIx_nat]
  by_cases h : i ≤ xs.length
  · rw [Nat.min_eq_left h]
    exact List.take_of_length_le (by rw [List.length_drop]; exact Nat.le_refl _)
  · rw [Nat.min_eq_right (by omega), List.drop_of_length_le (Nat.le_refl _), List.drop_of_length_le (by omega), List.take_nil]
theorem bent_val {σ : L2.St} {H : Hp} {R : VK} {p c : Addr} (hs : σ[0]? = some (some (V.ref p))) (hP : Pot H p c) (q : ∀ H' v, Pot H' p c → Kept p c H H' → v < 256 → R (vi v) H') :
    tIf (tTest (tOp rEq (tCall spDraw [] E0 (tCons (tVar 0) (tCons (tC (V.int 2)) tNil))) (tC (V.int 0)))) (tCall spDraw [] E0 (tCons (tVar 0) (tCons (tC (V.int 256)) tNil))) (tCall spDraw [] E0 (tCons (tVar 0) (tCons (tC (V.int 36)) tNil))) σ H R := by
  refine ⟨_, hs, p, c, 2, rfl, hP, by decide, by decide, fun H1 d P1 K1 d0 d1 => ⟨rfl, _, rfl, ?_⟩⟩
  refine ite2 (fun _ => ?_) (fun _ => ?_)
  · refine ⟨_, hs, p, c, 256, rfl, P1, by decide, by decide, fun H2 r P2 K2 r0 r1 => ?_⟩
    obtain ⟨v, rfl⟩ := Int.eq_ofNat_of_zero_le r0
    exact q H2 v P2 (K1.trans K2) (by omega)
  · refine ⟨_, hs, p, c, 36, rfl, P1, by decide, by decide, fun H2 r P2 K2 r0 r1 => ?_⟩
    obtain ⟨v, rfl⟩ := Int.eq_ofNat_of_zero_le r0
    exact q H2 v P2 (K1.trans K2) (by omega)
section
variable {P : Program} {w : World} {K : PySem.W.Frag} {mg : Str → Option Value} {base : Heap} {R B PC W : Addr}
def spBent : Sp := fun vs H Q _ => ∃ (p c l : Addr) (ns : List Nat), vs = [.ref p, .ref l] ∧ Pot H p c ∧ H l = some (.lst (ns.map vi)) ∧ l ≠ p ∧ l ≠ c ∧ ns.length ≤ 16 ∧ (∀ k ∈ ns, k < 256) ∧ ∀ (H' : Hp) (l' : Addr) (ns' : List Nat), Pot H' p c → H' l' = some (.lst (ns'.map vi)) → l' ≠ p → l' ≠ c → ns'.length ≤ 20 → (∀ k ∈ ns', k < 256) → Q (.ref l') H'
theorem ok_bent {f fD : Addr} {fd fdD : FuncData} (F : Fun K "_law_bent" "_law_bent" s_law_bent f fd) (D : Drw P w K mg base fD fdD) (ml : mg "len" = none) (mr : mg "range" = none) : FnOk P w K mg base CX0 2 f fd ["pot", "numbers"] spBent := by
  refine F.ok sc_law_bent (fun vs H Q E h => ?_) (fun cdv A outer s H vs Q E hr h => ?_)
  · obtain ⟨p, c, l, ns, rfl, _⟩ := h
    rfl
  · obtain ⟨p, c, l, ns, rfl, hP, hl, lp, lc, hz, h256, q⟩ := h
    have nd := sc_law_bent.nd
    refine ⟨_, pss_cons (ps_for PassesOwn.never rfl (pi_range1 (by rfl) mr (pa_cons (pe_call D.G hr (by rfl) D.g D.k D.b .nil pass0 (pa_cons (pv 0) (pa_cons pe_int pa_nil))) pa_nil)) (pg_name (i := 2) nd rfl (Or.inl rfl))
        (pss_cons (ps_set (i := 3) nd rfl (Or.inl rfl) (pe_call D.G hr (by rfl) D.g D.k D.b .nil pass0 (pa_cons (pv 0) (pa_cons pe_int pa_nil))))
        (pss_cons (ps_set (i := 4) nd rfl (Or.inl rfl) (pe_call D.G hr (by rfl) D.g D.k D.b .nil pass0 (pa_cons (pv 0) (pa_cons (pe_op op_add (pe_callB call_len_seq (by rfl) ml PySem.boot_len (pa_cons (pv 1) pa_nil)) pe_int) pa_nil))))
        (pss_cons (ps_set (i := 5) nd rfl (Or.inl rfl) (pe_ifExp (pt_cmpR op_eq (pe_call D.G hr (by rfl) D.g D.k D.b .nil pass0 (pa_cons (pv 0) (pa_cons pe_int pa_nil))) pe_int (nomark _)) (pe_call D.G hr (by rfl) D.g D.k D.b .nil pass0 (pa_cons (pv 0) (pa_cons pe_int pa_nil))) (pe_call D.G hr (by rfl) D.g D.k D.b .nil pass0 (pa_cons (pv 0) (pa_cons pe_int pa_nil)))))
        (pss_one (ps_if (pt_cmpR op_eq (pv 3) pe_int (nomark _))
          (pss_one (ps_set (i := 1) nd rfl (Or.inl rfl) (pe_op op_cat (pe_op op_cat (pe_slice sl_list (pv 1) po_none (po_some (pv 4))) (pe_lst (pa_cons (pv 5) pa_nil))) (pe_slice sl_list (pv 1) (po_some (pv 4)) po_none))))
          (pss_one (ps_if (pt_cmpR op_eq (pv 3) pe_int (nomark _))
            (pss_one (ps_set (i := 1) nd rfl (Or.inl rfl) (pe_op op_cat (pe_slice sl_list (pv 1) po_none (po_some (pv 4))) (pe_slice sl_list (pv 1) (po_some (pe_op op_add (pv 4) pe_int)) po_none))))
            (pss_one (ps_if (pt_cmpR op_lt (pv 4) (pe_callB call_len_seq (by rfl) ml PySem.boot_len (pa_cons (pv 1) pa_nil)) (nomark _)) (pss_one (ps_asg (pv 5) (pg_sub (pv 1) (pv 4) set_list))) pss_nil))))))))))
      (pss_one (ps_ret (pv 1))), ?_⟩
    refine ⟨_, rfl, p, c, 4, rfl, hP, by decide, by decide, fun H1 d P1 K1 d0 d1 => ⟨d, rfl, by omega, by omega, ?_⟩⟩
    refine for_range (lo := 0) (n := d.toNat) (fun i σ H' => ∃ (v2 v3 v4 v5 : Option V) (l : Addr) (ns : List Nat), σ = [some (.ref p), some (.ref l), v2, v3, v4, v5] ∧ Pot H' p c ∧ H' l = some (.lst (ns.map vi)) ∧ l ≠ p ∧ l ≠ c ∧ ns.length ≤ 16 + i ∧ ∀ k ∈ ns, k < 256) ⟨none, none, none, none, l, ns, rfl, P1, K1 _ _ lp lc hl, lp, lc, hz, h256⟩ ?_ ?_
    · rintro i σ H' hi ⟨v2, v3, v4, v5, l, ns, rfl, P2, e2, lp, lc, hz, h256⟩
      have hi4 : i < 4 := by omega
      refine ⟨_, rfl, p, c, 4, rfl, P2, by decide, by decide, fun H3 wd P3 K3 w0 w1 => ?_⟩
      have e3 := K3 _ _ lp lc e2
      have hlen : (ns.map vi).length = ns.length := List.length_map _
      refine ⟨_, rfl, _, rfl, l, _, rfl, .inl (SqL.of e3), _, _, rfl, rfl, p, c, _, rfl, P3, by omega, by omega, fun H4 at_ P4 K4 a0 a1 => ?_⟩
      obtain ⟨at_, rfl⟩ := Int.eq_ofNat_of_zero_le a0
      have hat : at_ ≤ ns.length := by omega
      have e4 := K4 _ _ lp lc e3
      refine bent_val rfl P4 fun H5 v P5 K5 hv => ?_
      have e5 := K5 _ _ lp lc e4
      have szl : ∀ {n : Nat}, n ≤ 20 → n ≤ sizeLine := fun h => Nat.le_trans h (by decide)
      refine ⟨_, rfl, rfl, _, rfl, ?_⟩
      have ea : V.int ((at_ : Nat) : Int) = vi at_ := rfl
      refine ite2 (fun _ => ?_) (fun _ => ?_)
      · refine ⟨_, rfl, _, rfl, _, rfl, l, _, rfl, SqL.of e5, fun a na => ?_⟩
        rw [cut_to, ← List.map_take]
        have s6 := same_upd (o := .lst ((ns.take at_).map vi)) na
        have f6 : (upd H5 a (.lst ((ns.take at_).map vi))) a = some (.lst ((ns.take at_).map vi)) := upd_same
        generalize upd H5 a (HO.lst ((ns.take at_).map vi)) = H6 at s6 f6
        refine ⟨_, rfl, by show 1 ≤ sizeLine; decide, fun b nb => ?_⟩
        have s7 := same_upd (o := .lst [vi v]) nb
        have f7 : (upd H6 b (.lst [vi v])) b = some (.lst [vi v]) := upd_same
        generalize upd H6 b (HO.lst [vi v]) = H7 at s7 f7
        refine ⟨a, b, _, _, rfl, rfl, s7 _ _ f6, f7, ?_, fun c1 nc1 => ?_⟩
        · rw [List.length_map, List.length_take]
          exact szl (by show min at_ ns.length + 1 ≤ 20; omega)
        have s8 := same_upd (o := .lst ((ns.take at_).map vi ++ [vi v])) nc1
        have f8 : (upd H7 c1 (.lst ((ns.take at_).map vi ++ [vi v]))) c1 = some (.lst ((ns.take at_).map vi ++ [vi v])) := upd_same
        generalize upd H7 c1 (HO.lst ((ns.take at_).map vi ++ [vi v])) = H8 at s8 f8
        have t8 := s6.trans (s7.trans s8)
        refine ⟨_, rfl, _, rfl, _, rfl, l, _, rfl, SqL.of (t8 _ _ e5), fun a2 na2 => ?_⟩
        rw [cut_from, ← List.map_drop]
        have s9 := same_upd (o := .lst ((ns.drop at_).map vi)) na2
        have f9 : (upd H8 a2 (.lst ((ns.drop at_).map vi))) a2 = some (.lst ((ns.drop at_).map vi)) := upd_same
        generalize upd H8 a2 (HO.lst ((ns.drop at_).map vi)) = H9 at s9 f9
        refine ⟨c1, a2, _, _, rfl, rfl, s9 _ _ f8, f9, ?_, fun c2 nc2 => ?_⟩
        · rw [List.length_append, List.length_map, List.length_map, List.length_take, List.length_drop]
          exact szl (by show min at_ ns.length + 1 + (ns.length - at_) ≤ 20; omega)
        have P9 := P5.same (t8.trans s9)
        have oc := off P9 nc2
        refine ⟨_, _, _, _, c2, ns.take at_ ++ [v] ++ ns.drop at_, rfl, P9.put oc.1 oc.2, ?_, oc.1, oc.2, ?_, fun k hk => ?_⟩
        · rw [upd_same, List.map_append, List.map_append]
          rfl
        · rw [List.length_append, List.length_append, List.length_take, List.length_drop]
          show min at_ ns.length + 1 + (ns.length - at_) ≤ 16 + (i + 1)
          omega
        · rcases List.mem_append.mp hk with h | h
          · rcases List.mem_append.mp h with h | h
            · exact h256 k (List.mem_of_mem_take h)
            · rw [List.mem_singleton.mp h]
              exact hv
          · exact h256 k (List.mem_of_mem_drop h)
      refine ⟨_, rfl, rfl, _, rfl, ?_⟩
      refine ite2 (fun _ => ?_) (fun _ => ?_)
      · refine ⟨_, rfl, _, rfl, _, rfl, l, _, rfl, SqL.of e5, fun a na => ?_⟩
        rw [cut_to, ← List.map_take]
        have s6 := same_upd (o := .lst ((ns.take at_).map vi)) na
        have f6 : (upd H5 a (.lst ((ns.take at_).map vi))) a = some (.lst ((ns.take at_).map vi)) := upd_same
        generalize upd H5 a (HO.lst ((ns.take at_).map vi)) = H6 at s6 f6
        refine ⟨_, rfl, _, rfl, _, _, rfl, rfl, _, rfl, l, _, rfl, SqL.of (s6 _ _ e5), fun a2 na2 => ?_⟩
        have e1 : cutV (ns.map vi) (some ((at_ : Nat) + 1 : Int)) none = (ns.drop (at_ + 1)).map vi := by
          rw [show ((at_ : Nat) + 1 : Int) = ((at_ + 1 : Nat) : Int) by omega, cut_from, ← List.map_drop]
        rw [e1]
        have s9 := same_upd (o := .lst ((ns.drop (at_ + 1)).map vi)) na2
        have f9 : (upd H6 a2 (.lst ((ns.drop (at_ + 1)).map vi))) a2 = some (.lst ((ns.drop (at_ + 1)).map vi)) := upd_same
        generalize upd H6 a2 (HO.lst ((ns.drop (at_ + 1)).map vi)) = H9 at s9 f9
        refine ⟨a, a2, _, _, rfl, rfl, s9 _ _ f6, f9, ?_, fun c2 nc2 => ?_⟩
        · rw [List.length_map, List.length_map, List.length_take, List.length_drop]
          exact szl (by omega)
        have P9 := P5.same (s6.trans s9)
        have oc := off P9 nc2
        refine ⟨_, _, _, _, c2, ns.take at_ ++ ns.drop (at_ + 1), rfl, P9.put oc.1 oc.2, ?_, oc.1, oc.2, ?_, fun k hk => ?_⟩
        · rw [upd_same, List.map_append]
        · rw [List.length_append, List.length_take, List.length_drop]
          omega
        · rcases List.mem_append.mp hk with h | h
          · exact h256 k (List.mem_of_mem_take h)
          · exact h256 k (List.mem_of_mem_drop h)
      refine ⟨_, rfl, _, rfl, l, _, rfl, .inl (SqL.of e5), _, _, rfl, rfl, _, rfl, ?_⟩
      refine ite2 (fun hb => ?_) (fun _ => ⟨_, _, _, _, l, ns, rfl, P5, e5, lp, lc, by omega, h256⟩)
      have hb := of_decide_eq_true hb
      have hlt : at_ < ns.length := by omega
      refine ⟨_, rfl, _, rfl, _, rfl, l, _, _, at_, rfl, rfl, e5, ixN_nat (by rw [hlen]; exact hlt), _, _, _, _, l, ns.set at_ v, rfl, P5.put lp lc, ?_, lp, lc, by rw [List.length_set]; omega, fun k hk => ?_⟩
      · rw [upd_same, List.map_set]
      · rcases List.mem_or_eq_of_mem_set hk with h | h
        · exact h256 k h
        · rw [h]
          exact hv
    · rintro σ H' ⟨v2, v3, v4, v5, l, ns, rfl, P2, e2, lp, lc, hz, h256⟩
      exact ⟨_, rfl, q H' l ns P2 e2 lp lc (by omega) h256⟩
end
end Toy
set_option Elab.async false
set_option linter.all false
set_option maxRecDepth 100000
set_option maxHeartbeats 4000000
namespace Vx
open PySem PySem.Spec PyProof.Rows L2
section
variable {X : Cx} {CX : CXT} {k : Nat} {C f : Addr} {sp : Sp} {E : XK}
/-- len(o) of an own class -/
def rLenOwn (C : Addr) (sp : Sp) (E : XK) : List V → Hp → VK → Prop := fun xs H Q => (∃ a dx fs, xs = [.ref a] ∧ H a = some (.ins C dx fs)) ∧ sp xs H (fun v H' => ∃ n : Nat, v = .int n ∧ n < 1000000 ∧ Q (.int n) H') E
theorem call_lenOwn (at_ : PySem.W.findIn X.K (.ref C) "__len__" = some (some (.ref f))) (fn : PySem.W.isFn X.K (.ref f) = true) (F : FnR X.prog X.w X.K X.mg X.base CX k f sp) (hr : Room (k + 1) X.A) (hx : Passes CX X E) : CallR X (.builtin "len") (rLenOwn C sp E) := by
  intro pins s σ H xs us Q I r h
  obtain ⟨⟨a, dx, fs, rfl, ha⟩, hsp⟩ := h
  obtain ⟨u, rfl, rx⟩ := vals1 r
  cases rx
  have sb : Sub X k X.A.in1 := (⟨hr, rfl⟩ : Sub X (k + 1) X.A).in1
  obtain ⟨mA, J, _⟩ := ins_get I.hok ha
  obtain ⟨od, J, _⟩ := J.look
  obtain ⟨m, hF⟩ := I.fr
  refine PySem.W.len_K hF I.ok.mod.kin J at_ fn (wpAny_mono (wpAny_call (run_in (us := [.ref a]) (vs := [V.ref a]) sb F hx I (.cons rfl .nil) hsp)) (fun v s' hv => ?_) fun _ _ z => z)
  obtain ⟨v', H', I', rv, n, rfl, hn, q⟩ := hv
  obtain ⟨t, rfl⟩ := rv
  exact ⟨⟨by omega, by omega⟩, .int n, H', I'.tok _, ⟨_, rfl⟩, q⟩
end
end Vx
namespace Toy
open PySem PySem.Spec PyProof.Rows L2
def FT (p c : Addr) (H : Hp) (x : Addr × Fl) : Prop := H x.1 = some (.tup [fv x.2.1, fv x.2.2]) ∧ fokP x.2 ∧ x.1 ≠ p ∧ x.1 ≠ c
theorem FT.kept {p c : Addr} {H H' : Hp} {x : Addr × Fl} (h : FT p c H x) (k : Kept p c H H') : FT p c H' x := ⟨k _ _ h.2.2.1 h.2.2.2 h.1, h.2⟩
theorem FT.same {p c : Addr} {H H' : Hp} {x : Addr × Fl} (h : FT p c H x) (s : Same H H') : FT p c H' x := h.kept (Kept.of_same s)
theorem FT.put {p c a : Addr} {H : Hp} {o : HO} {x : Addr × Fl} (h : FT p c H x) (n : x.1 ≠ a) : FT p c (upd H a o) x := ⟨by rw [upd_ne n]; exact h.1, h.2⟩
theorem tup_lst {H : Hp} {a b : Addr} {xs ys : List V} (h : H a = some (.tup xs)) (g : H b = some (.lst ys)) : a ≠ b := ne_of h g (by intro z; cases z)
section
variable {P : Program} {w : World} {K : PySem.W.Frag} {mg : Str → Option Value} {base : Heap} {R B PC W : Addr}
def spLaw (K : PySem.W.Frag) : Sp := fun vs H Q _ => ∃ (a : Addr) (ns : List Int), vs = [.ref a] ∧ SqL K H a (ns.map V.int) ∧ ns.length ≤ 63 ∧ ∀ H', Q (.bl true) H'
structure Calls (P : Program) (w : World) (K : PySem.W.Frag) (mg : Str → Option Value) (base : Heap) (R PC fP fD fW fN fB fDa fDu fT fPL fPR : Addr) (fdP fdD fdW fdN fdB fdDa fdDu fdT fdPR : FuncData) : Prop where
  pot : Cal P w K mg base CX0 1 fP fdP "_law_pot" ["script"] (spPot K)
  draw : Cal P w K mg base CX0 1 fD fdD "_law_draw" ["pot", "many"] spDraw
  wtr : Cal P w K mg base CX0 2 fW fdW "_law_writer" ["pot"] spWtr
  nums : Cal P w K mg base CX0 1 fN fdN "_law_numbers" ["fields"] spNums
  bent : Cal P w K mg base CX0 2 fB fdB "_law_bent" ["pot", "numbers"] spBent
  data : Cal P w K mg base CX0 6 fDa fdDa "_law_data" ["numbers"] spLData
  due : Cal P w K mg base CX0 1 fDu fdDu "_law_due" ["numbers"] spDue
  told : Cal P w K mg base CX0 9 fT fdT "_law_told" ["data"] (spTold PC R)
  toldN : Cal P w K mg base CX0 9 fT fdT "_law_told" ["data"] (spToldN K)
  len : mg "len" = none
  range : mg "range" = none
  list : mg "list" = none
  tup : mg "tuple" = none
  int : mg "int" = none
  sum : mg "sum" = none
  isi : mg "isinstance" = none
  gP : mg "Page" = some (.ref PC)
  PCt : RowC K mg PC
  mR : Meth K PC "raw" fPR
  FR : FnOk P w K mg base CX0 4 fPR fdPR ["self"] (spRaw PC R)
  bR : L2.Binds K fdPR ["self"] []
  lnA : PySem.W.findIn K (.ref PC) "__len__" = some (some (.ref fPL))
  lnF : PySem.W.isFn K (.ref fPL) = true
  FL : FnR P w K mg base CX0 1 fPL (spPgLen PC)
abbrev nL : List Str := ["script", "pot", "fields", "numbers", "data", "due", "told", "other", "k"]
theorem ok_law {f fP fD fW fN fB fDa fDu fT fPL fPR : Addr} {fd fdP fdD fdW fdN fdB fdDa fdDu fdT fdPR : FuncData} (F : Fun K "law" "law" s_law f fd) (Z : Calls P w K mg base R PC fP fD fW fN fB fDa fDu fT fPL fPR fdP fdD fdW fdN fdB fdDa fdDu fdT fdPR) : FnOk P w K mg base CX0 11 f fd ["script"] (spLaw K) := by
  refine F.ok sc_law (fun vs H Q E h => ?_) (fun cdv A outer s H vs Q E hr h => ?_)
  · obtain ⟨a, ns, rfl, _⟩ := h
    rfl
  · obtain ⟨a, ns, rfl, hS, hlen, q⟩ := h
    have hr1 : Room 1 _ := hr.mono (by decide)
    have hr2 : Room 2 _ := hr.mono (by decide)
    have hr4 : Room 4 _ := hr.mono (by decide)
    have hr6 : Room 6 _ := hr.mono (by decide)
    have hr9 : Room 9 _ := hr.mono (by decide)
    have nd := sc_law.nd
    refine ⟨_, pss_cons (ps_set (i := 1) nd rfl (Or.inr rfl) (pe_call Z.pot.G hr1 (by rfl) Z.pot.g Z.pot.k Z.pot.b .nil pass0 (pa_cons (pv 0) pa_nil)))
      (pss_cons (ps_setLc (i := 2) (own := [("k", 8)]) (g := gName 8) (tt := tYes) rfl nd rfl rfl (sw_true rfl rfl rfl (by decide +kernel)) (pi_range1 (by rfl) Z.range (pa_cons (pe_call Z.draw.G hr1 (by rfl) Z.draw.g Z.draw.k Z.draw.b .nil pass0 (pa_cons (pv 1) (pa_cons pe_int pa_nil))) pa_nil))
        (blkOk_by (own := [("k", 8)]) (N := nL) (sc := defScope s_law) (by decide +kernel)) (fun _ _ _ _ _ => pg_name (i := 8) nd rfl (Or.inl rfl)) (fun _ _ _ _ _ => pts_nil)
        (fun _ _ _ _ _ => pe_tup (pa_cons (pe_call Z.wtr.G hr2 (by rfl) Z.wtr.g Z.wtr.k Z.wtr.b .nil pass0 (pa_cons (pv 1) pa_nil)) (pa_cons (pe_call Z.wtr.G hr2 (by rfl) Z.wtr.g Z.wtr.k Z.wtr.b .nil pass0 (pa_cons (pv 1) pa_nil)) pa_nil))))
      (pss_cons (ps_set (i := 3) nd rfl (Or.inl rfl) (pe_call Z.bent.G hr2 (by rfl) Z.bent.g Z.bent.k Z.bent.b .nil pass0 (pa_cons (pv 1) (pa_cons (pe_call Z.nums.G hr1 (by rfl) Z.nums.g Z.nums.k Z.nums.b .nil pass0 (pa_cons (pv 2) pa_nil)) pa_nil))))
      (C8.pss_cut (ps_if (PW.pt (pw_and (pt_cmpR (op_neD hr.units) (pv 3) (pe_lst pa_nil) (nomark _)) (pw_and1 (pt_cmpR op_eq (pe_call Z.draw.G hr1 (by rfl) Z.draw.g Z.draw.k Z.draw.b .nil pass0 (pa_cons (pv 1) (pa_cons pe_int pa_nil))) pe_int (nomark _)))))
        (pss_one (ps_asg (pe_op op_modN (pe_callTy call_int1 (by rfl) Z.int (by decide +kernel) (pa_cons (pe_callB (cr_sum rfl) (by rfl) Z.sum (by decide +kernel) (pa_cons (pe_slice sl_list (pv 3) po_none (po_some (pe_un un_neg pe_int))) pa_nil)) pa_nil)) pe_int) (pg_sub (pv 3) (pe_un un_neg pe_int) set_list))) pss_nil)
      (pss_cons (ps_set (i := 4) nd rfl (Or.inl rfl) (pe_call Z.data.G hr6 (by rfl) Z.data.g Z.data.k Z.data.b .nil pass0 (pa_cons (pv 3) pa_nil)))
      (pss_cons (ps_if (pt_cmpR (op_neD hr.units) (pe_listOfB rfl (by rfl) Z.list (pv 4)) (pv 3) (nomark _)) (pss_one ps_never) pss_nil)
      (C8.pss_cut (ps_set (i := 5) nd rfl (Or.inl rfl) (pe_call Z.due.G hr1 (by rfl) Z.due.g Z.due.k Z.due.b .nil pass0 (pa_cons (pv 3) pa_nil)))
      (C8.pss_cut (ps_set (i := 6) nd rfl (Or.inl rfl) (pe_call Z.told.G hr9 (by rfl) Z.told.g Z.told.k Z.told.b .nil pass0 (pa_cons (pv 4) pa_nil)))
      (C8.pss_cut (ps_if (pt_cmpR op_eq (pv 5) pe_str (nomark _))
        (pss_one (ps_if (PW.pt (pw_or (pt_not (pt_val (pe_callB call_isi (by rfl) Z.isi (by decide +kernel) (pa_cons (pv 6) (pa_cons (pe_glob (v := .ref PC) (by rfl) Z.gP rfl) pa_nil)))))
          (pw_or (pt_cmpR (op_neD hr.units) (pe_listOfB rfl (by rfl) Z.list (pe_meth0 (pv 6) Z.PCt.cl Z.mR Z.FR hr4 Z.bR .nil pass0)) (pv 3) (nomark _))
          (pw_or1 (pt_cmpR op_ne (pe_callB (Vx.call_lenOwn Z.lnA Z.lnF Z.FL hr2 pass0) (by rfl) Z.len PySem.boot_len (pa_cons (pv 6) pa_nil)) (pe_ix ix_list (pv 3) pe_int (fun _ _ => rfl)) (nomark _)))))) (pss_one ps_never) pss_nil))
        (pss_one (ps_if (pt_cmpR (op_neD hr.units) (pv 6) (pe_lst (pa_cons (pv 5) (pa_cons pe_bl (pa_cons pe_bl (pa_cons pe_bl pa_nil))))) (nomark _)) (pss_one ps_never) pss_nil)))
      (pss_cons (ps_set (i := 7) nd rfl (Or.inl rfl) (pe_ix ix_list (pe_lst (pa_cons pe_non (pa_cons pe_str (pa_cons pe_str (pa_cons pe_int (pa_cons pe_bl (pa_cons (pe_callTy call_list_of (by rfl) Z.list (by decide +kernel) (pa_cons (pv 3) pa_nil)) (pa_cons (pe_callTy call_tuple_of (by rfl) Z.tup (by decide +kernel) (pa_cons (pv 3) pa_nil)) pa_nil))))))))
        (pe_call Z.draw.G hr1 (by rfl) Z.draw.g Z.draw.k Z.draw.b .nil pass0 (pa_cons (pv 1) (pa_cons pe_int pa_nil))) (fun _ _ => rfl)))
      (pss_one (ps_ret (pe_and (pe_cmpR (op_eqD hr.units) (pe_call Z.toldN.G hr9 (by rfl) Z.toldN.g Z.toldN.k Z.toldN.b .nil pass0 (pa_cons (pv 7) pa_nil)) (pe_lst (pa_cons pe_non (pa_cons pe_bl (pa_cons pe_bl (pa_cons pe_bl pa_nil))))) (nomark _))
        (pe_one (pe_cmpR (op_eqD hr.units) (pe_listOfB rfl (by rfl) Z.list (pv 4)) (pv 3) (nomark _))))))))))))))), ?_⟩
    refine ⟨_, rfl, a, ns, rfl, hS, hlen, fun H1 p c s1 p0 c0 P1 => ?_⟩
    refine ⟨_, rfl, p, c, 8, rfl, P1, by decide, by decide, fun H2 d P2 K2 d0 d1 => ?_⟩
    refine ⟨d, rfl, by omega, by omega, fun lf nlf => ?_⟩
    have olf := off P2 nlf
    refine lc_range (lo := 0) (n := d.toNat) (fun i H' => ∃ L : Obs Fl, L.length = i ∧ Pot H' p c ∧ H' lf = some (.lst (refs L)) ∧ ∀ x ∈ L, FT p c H' x) ⟨[], rfl, P2.same (same_upd nlf), upd_same, fun x h => absurd h List.not_mem_nil⟩ ?_ ?_
    · rintro i H' hi ⟨L, hl, P', e', hL⟩
      refine ⟨rfl, _, rfl, p, c, rfl, P', fun H3 b P3 K3 hb => ⟨_, rfl, p, c, rfl, P3, fun H4 e P4 K4 he => ⟨by show 2 ≤ sizeLine; decide, fun t nt => ?_⟩⟩⟩
      have K34 := K3.trans K4
      have e4 := K34 _ _ olf.1 olf.2 e'
      have ot := off P4 nt
      have ltf : lf ≠ t := ne_of_none e4 nt
      refine ⟨refs L, by rw [upd_ne ltf]; exact e4, ?_, L ++ [(t, (b, e))], ?_, (P4.put ot.1 ot.2).put olf.1 olf.2, ?_, ?_⟩
      · rw [refs_len, hl]
        exact Nat.lt_of_lt_of_le hi (Nat.le_trans (show d.toNat ≤ 8 by omega) (by decide))
      · rw [List.length_append, hl]
        rfl
      · rw [upd_same, refs_append]
        rfl
      · intro x hx
        rcases List.mem_append.mp hx with h | h
        · have hx4 := (hL x h).kept K34
          exact (hx4.put (ne_of_none hx4.1 nt)).put (tup_lst hx4.1 e4)
        · rw [List.mem_singleton.mp h]
          exact ⟨by show (upd (upd H4 t _) lf _) t = _; rw [upd_ne ltf.symm, upd_same], ⟨hb, he⟩, ot⟩
    rintro H4 ⟨L, hl, P4, e4, hL⟩
    have hL7 : L.length ≤ 7 := by omega
    clear hl
    have zL : (L.map Prod.snd).length = L.length := List.length_map _
    have hq : ∀ y ∈ L.map Prod.snd, fokP y := fun y hy => by
      obtain ⟨x, hx, rfl⟩ := List.mem_map.mp hy
      exact (hL x hx).2.1
    refine ⟨_, rfl, _, rfl, lf, L, rfl, ⟨e4, fun x hx => ⟨(hL x hx).1, (hL x hx).2.1⟩⟩, by omega, fun H5 m s5 nm em => ?_⟩
    have P5 := P4.same s5
    have om := off P4 nm
    refine ⟨p, c, m, nums (L.map Prod.snd), rfl, P5, em, om.1, om.2, by rw [nums_len, zL]; omega, nums_lt (by omega) hq, fun H6 l ns P6 el lp lc hz h256 => ?_⟩
    have hlen : (ns.map vi).length = ns.length := List.length_map _
    refine ⟨fun σ H' => ∃ ns : List Nat, σ = [some (.ref a), some (.ref p), some (.ref lf), some (.ref l), none, none, none, none, none] ∧ Pot H' p c ∧ H' l = some (.lst (ns.map vi)) ∧ ns.length ≤ 20 ∧ ∀ k ∈ ns, k < 256, ?_, ?_⟩
    · refine ⟨_, rfl, by show 0 ≤ sizeLine; decide, fun z nz => ?_⟩
      have s7 := same_upd (o := .lst []) nz
      have ez : (upd H6 z (.lst [])) z = some (.lst (([] : List Nat).map vi)) := upd_same
      generalize upd H6 z (HO.lst []) = H7 at s7 ez
      have l7 := s7 _ _ el
      have P7 := P6.same s7
      refine ⟨_, _, dp_vi l7, dp_vi ez, shp_dk _, shp_dk _, _, rfl, ?_⟩
      rw [show PyData.eqv (.list (ns.map dk)) (.list (([] : List Nat).map dk)) = decide (ns = []) from eqv_dk ns []]
      refine ite2 (fun hne => ?_) (fun _ => ⟨ns, rfl, P7, l7, hz, h256⟩)
      have hne : ns ≠ [] := by
        rw [Bool.not_eq_true', decide_eq_false_iff_not] at hne
        exact hne
      have hpos : 0 < ns.length := List.length_pos_iff.mpr hne
      refine ⟨_, rfl, p, c, 2, rfl, P7, by decide, by decide, fun H8 d P8 K8 d0 d1 => ⟨rfl, _, rfl, ?_⟩⟩
      have l8 := K8 _ _ lp lc l7
      refine ite2 (fun _ => ?_) (fun _ => ⟨ns, rfl, P8, l8, hz, h256⟩)
      refine ⟨_, rfl, 1, rfl, -1, rfl, l, ns.map vi, rfl, SqL.of l8, fun m nm => ?_⟩
      rw [cut_init, List.length_map, ← List.map_take]
      have s9 := same_upd (o := .lst ((ns.take (ns.length - 1)).map vi)) nm
      refine ⟨m, (ns.take (ns.length - 1)).map fun (k : Nat) => (k : Int), rfl, SqL.of (by rw [map_int_vi]; exact upd_same), .inl ⟨_, rfl, _, _, rfl, rfl, (show (256 : Int) ≠ 0 by decide), ?_⟩⟩
      rw [sum_vi]
      have em : (fun (i j : Int) => V.int (i.fmod j)) (((ns.take (ns.length - 1)).sum : Nat) : Int) 256 = vi ((ns.take (ns.length - 1)).sum % 256) := congrArg V.int (fmod_256 _)
      rw [em]
      have l9 := s9 _ _ l8
      have P9 := P8.same s9
      generalize upd H8 m (HO.lst ((ns.take (ns.length - 1)).map vi)) = H9 at l9 P9
      have ix : ixN (ns.map vi).length (-1) = some (ns.length - 1) := by
        unfold ixN
        rw [if_neg (by decide), if_pos (by omega)]
        exact congrArg some (by omega)
      refine ⟨_, rfl, 1, rfl, l, _, _, ns.length - 1, rfl, rfl, l9, ix, ns.set (ns.length - 1) ((ns.take (ns.length - 1)).sum % 256), rfl, P9.put lp lc, ?_, by rw [List.length_set]; exact hz, fun k hk => ?_⟩
      · rw [upd_same, List.map_set]
      · rcases List.mem_or_eq_of_mem_set hk with h | h
        · exact h256 k h
        · rw [h]
          exact Nat.mod_lt _ (by decide)
    clear hlen hz h256 el
    rintro σ H10 ⟨ns, rfl, P10, l10, hz, h256⟩
    have szb : (bA ns).size ≤ sizeLine := by rw [bA_size]; exact Nat.le_trans hz (by decide)
    refine ⟨_, rfl, l, ns, rfl, l10, by omega, h256, fun H11 s11 => ?_⟩
    refine ⟨_, rfl, _, rfl, szb, fun m nm => ?_⟩
    rw [bA_list h256]
    have s12 := same_upd (o := .lst (ns.map vi)) nm
    have m12 : (upd H11 m (.lst (ns.map vi))) m = some (.lst (ns.map vi)) := upd_same
    generalize upd H11 m (HO.lst (ns.map vi)) = H12 at s12 m12
    have l12 := s12 _ _ (s11 _ _ l10)
    have P12 := (P10.same s11).same s12
    refine ⟨_, rfl, _, _, dp_vi m12, dp_vi l12, shp_dk _, shp_dk _, false, by rw [SeqAt.eqv_refl _ (can_dkl _)]; rfl, iteF ?_⟩
    -- due
    refine ⟨fun σ H' => ∃ dv : V, σ = [some (.ref a), some (.ref p), some (.ref lf), some (.ref l), some (.byt (bA ns)), some dv, none, none, none] ∧ Pot H' p c ∧ H' l = some (.lst (ns.map vi)) ∧ ((∃ i, dv = vi i ∧ DueAt ns i) ∨ (dv = .str "good" ∧ Good ns)), ?_, ?_⟩
    · exact ⟨_, rfl, l, ns, rfl, l12, by omega, h256, fun i hi H' s' => ⟨_, rfl, P12.same s', s' _ _ l12, .inl ⟨i, rfl, hi⟩⟩, fun hg H' s' => ⟨_, rfl, P12.same s', s' _ _ l12, .inr ⟨rfl, hg⟩⟩⟩
    rintro σ H13 ⟨dv, rfl, P13, l13, hdv⟩
    -- told
    refine ⟨fun σ H' => ∃ t : Addr, σ = [some (.ref a), some (.ref p), some (.ref lf), some (.ref l), some (.byt (bA ns)), some dv, some (.ref t), none, none] ∧ Pot H' p c ∧ H' l = some (.lst (ns.map vi)) ∧ ((∃ i, dv = vi i ∧ H' t = some (.lst (told4 (vi i)))) ∨ (dv = .str "good" ∧ ∃ M : Obs Fl, PageAt PC H' t M ∧ RowsAt R H' M ∧ nums (M.map Prod.snd) = ns ∧ M.length ≤ 7)), ?_, ?_⟩
    · refine ⟨_, rfl, ns, rfl, by omega, h256, fun hg H' pg l' M N e => ?_, fun i hi H' t s' et => ?_⟩
      · rcases hdv with ⟨i, _, hi⟩ | ⟨ed, _⟩
        · exact (good_due hg hi).elim
        · exact ⟨pg, rfl, P13.same N.1, N.1 _ _ l13, .inr ⟨ed, M, N.at_, N.2.2.2.2.2.2, e, by
            obtain ⟨⟨n, x1, x2, x3⟩, _⟩ := hg
            have z := nums_len (M.map Prod.snd)
            rw [e, List.length_map] at z
            omega⟩⟩
      · rcases hdv with ⟨j, ed, hj⟩ | ⟨_, hg⟩
        · have := due_uniq hi hj
          subst this
          exact ⟨t, rfl, P13.same s', s' _ _ l13, .inl ⟨i, ed, et⟩⟩
        · exact (good_due hg hi).elim
    clear hdv
    rintro σ H14 ⟨t, rfl, P14, l14, ht⟩
    refine ⟨fun σ H' => σ = [some (.ref a), some (.ref p), some (.ref lf), some (.ref l), some (.byt (bA ns)), some dv, some (.ref t), none, none] ∧ Pot H' p c ∧ H' l = some (.lst (ns.map vi)), ?_, ?_⟩
    · rcases ht with ⟨i, rfl, et⟩ | ⟨rfl, M, hP, hR, hn, hM7⟩
      · refine ⟨_, rfl, rfl, false, congrArg V.bl (decide_eq_false fun z => by cases z), iteF ?_⟩
        refine ⟨_, rfl, _, rfl, by show 4 ≤ sizeLine; decide, fun u nu => ?_⟩
        have s15 := same_upd (o := .lst [vi i, V.bl true, V.bl true, V.bl false]) nu
        have eu : (upd H14 u (.lst [vi i, V.bl true, V.bl true, V.bl false])) u = some (.lst (told4 (vi i))) := upd_same
        generalize upd H14 u (HO.lst [vi i, V.bl true, V.bl true, V.bl false]) = H15 at s15 eu
        have dp : ∀ {x : Addr}, H15 x = some (.lst (told4 (vi i))) → Dp K H15 (.ref x) (.list [.int (i : Int), .bool true, .bool true, .bool false]) := fun e => .lst (SqL.of e) (.cons (.int _) (.cons (.bl _) (.cons (.bl _) (.cons (.bl _) .nil))))
        refine ⟨_, _, dp (s15 _ _ et), dp eu, rfl, rfl, false, ?_, iteF ⟨rfl, P14.same s15, s15 _ _ l14⟩⟩
        rw [SeqAt.eqv_refl _ rfl]
        rfl
      · obtain ⟨dx, lr, et, elr⟩ := id hP
        refine ⟨_, rfl, rfl, true, congrArg V.bl (decide_eq_true rfl), iteT ?_⟩
        refine ⟨_, rfl, .ref t, .ref PC, .ref PC, .ref PC, true, rfl, .own PC, .base (.ins et Z.PCt.cl Z.PCt.cC Z.PCt.cG Z.PCt.cT Z.PCt.cM), Z.PCt.kk, true, rfl, iteF ?_⟩
        refine ⟨_, rfl, t, dx, _, rfl, et, rfl, t, M, rfl, hP, hR, hM7, fun H15 s15 => ?_⟩
        rw [hn]
        refine ⟨_, rfl, szb, fun m nm => ?_⟩
        rw [bA_list h256]
        have s16 := same_upd (o := .lst (ns.map vi)) nm
        have m16 : (upd H15 m (.lst (ns.map vi))) m = some (.lst (ns.map vi)) := upd_same
        generalize upd H15 m (HO.lst (ns.map vi)) = H16 at s16 m16
        have t16 := s15.trans s16
        have l16 := t16 _ _ l14
        refine ⟨_, rfl, _, _, dp_vi m16, dp_vi l16, shp_dk _, shp_dk _, false, by rw [SeqAt.eqv_refl _ (can_dkl _)]; rfl, iteF ?_⟩
        have i0 : ns[0]? = some M.length := by
          rw [← hn]
          show some (M.map Prod.snd).length = _
          rw [List.length_map]
        have at0 : atI (ns.map vi) ((0 : Nat) : Int) = some (vi M.length) := atI_nat (by rw [List.getElem?_map, i0]; rfl)
        refine ⟨_, rfl, ⟨t, dx, _, rfl, t16 _ _ et⟩, t, M, rfl, hP.same t16, M.length, rfl, Nat.lt_of_le_of_lt hM7 (by decide), _, rfl, l, _, _, _, rfl, rfl, SqL.of l16, at0, rfl, false, neF rfl, iteF ⟨rfl, P14.same t16, l16⟩⟩
    clear ht
    rintro σ H20 ⟨rfl, P20, l20⟩
    refine ⟨_, rfl, l, _, rfl, .inl (SqL.of l20), fun x nx => ?_⟩
    have s21 := same_upd (o := .lst (ns.map vi)) nx
    have x21 : (upd H20 x (.lst (ns.map vi))) x = some (.lst (ns.map vi)) := upd_same
    generalize upd H20 x (HO.lst (ns.map vi)) = H21 at s21 x21
    refine ⟨_, rfl, l, _, rfl, .inl ⟨SqL.of (s21 _ _ l20), fun y ny => ?_⟩⟩
    have s22 := same_upd (o := .tup (ns.map vi)) ny
    have y22 : (upd H21 y (.tup (ns.map vi))) y = some (.tup (ns.map vi)) := upd_same
    generalize upd H21 y (HO.tup (ns.map vi)) = H22 at s22 y22
    refine ⟨by show 7 ≤ sizeLine; decide, fun z nz => ?_⟩
    have s23 := same_upd (o := .lst [V.non, V.str "", V.str "ab", V.int 5, V.bl true, V.ref x, V.ref y]) nz
    have z23 : (upd H22 z (.lst [V.non, V.str "", V.str "ab", V.int 5, V.bl true, V.ref x, V.ref y])) z = some (.lst [V.non, V.str "", V.str "ab", V.int 5, V.bl true, V.ref x, V.ref y]) := upd_same
    have P22 := (P20.same s21).same s22
    have oz := off P22 nz
    have ox := off P20 nx
    have oy := off (P20.same s21) ny
    generalize upd H22 z (HO.lst [V.non, V.str "", V.str "ab", V.int 5, V.bl true, V.ref x, V.ref y]) = H23 at s23 z23
    have P23 := P22.same s23
    have l23 := s23 _ _ (s22 _ _ (s21 _ _ l20))
    refine ⟨_, rfl, p, c, 7, rfl, P23, by decide, by decide, fun H24 r P24 K24 r0 r1 => ?_⟩
    obtain ⟨r, rfl⟩ := Int.eq_ofNat_of_zero_le r0
    have x24 := K24 _ _ ox.1 ox.2 (s23 _ _ (s22 _ _ x21))
    have y24 := K24 _ _ oy.1 oy.2 (s23 _ _ y22)
    have z24 := K24 _ _ oz.1 oz.2 z23
    have l24 := K24 _ _ lp lc l23
    obtain ⟨v, ty, hv, hty, hk⟩ : ∃ v ty, [V.non, V.str "", V.str "ab", V.int 5, V.bl true, V.ref x, V.ref y][r]? = some v ∧ TyX K H24 v ty ∧ PySem.W.kitOne K ty (.type "bytes") = some false := by
      match r, r1 with
      | 0, _ => exact ⟨_, _, rfl, .base .non, kit_ty (by decide +kernel)⟩
      | 1, _ => exact ⟨_, _, rfl, .base (.str _), kit_ty (by decide +kernel)⟩
      | 2, _ => exact ⟨_, _, rfl, .base (.str _), kit_ty (by decide +kernel)⟩
      | 3, _ => exact ⟨_, _, rfl, .base (.int _), kit_ty (by decide +kernel)⟩
      | 4, _ => exact ⟨_, _, rfl, .base (.bl _), kit_ty (by decide +kernel)⟩
      | 5, _ => exact ⟨_, _, rfl, .base (.lst x24), kit_ty (by decide +kernel)⟩
      | 6, _ => exact ⟨_, _, rfl, .base (.tup y24), kit_ty (by decide +kernel)⟩
      | r + 7, h => exact absurd h (by omega)
    refine ⟨z, _, _, v, rfl, rfl, SqL.of z24, atI_nat hv, ?_⟩
    refine ⟨_, rfl, v, ty, rfl, hty, hk, fun H25 t2 s25 et2 => ?_⟩
    refine ⟨by show 4 ≤ sizeLine; decide, fun u nu => ?_⟩
    have s26 := same_upd (o := .lst [V.non, V.bl true, V.bl true, V.bl false]) nu
    have eu : (upd H25 u (.lst [V.non, V.bl true, V.bl true, V.bl false])) u = some (.lst (told4 .non)) := upd_same
    generalize upd H25 u (HO.lst [V.non, V.bl true, V.bl true, V.bl false]) = H26 at s26 eu
    have dp : ∀ {x : Addr}, H26 x = some (.lst (told4 .non)) → Dp K H26 (.ref x) (.list [.none, .bool true, .bool true, .bool false]) := fun e => .lst (SqL.of e) (.cons .non (.cons (.bl _) (.cons (.bl _) (.cons (.bl _) .nil))))
    refine ⟨_, _, dp (s26 _ _ et2), dp eu, rfl, rfl, true, ?_, iteT ?_⟩
    · rw [SeqAt.eqv_refl _ rfl]
    refine ⟨_, rfl, _, rfl, szb, fun m nm => ?_⟩
    rw [bA_list h256]
    have l27 : (upd H26 m (.lst (ns.map vi))) l = some (.lst (ns.map vi)) := (same_upd nm) _ _ (s26 _ _ (s25 _ _ l24))
    refine ⟨_, rfl, _, _, dp_vi upd_same, dp_vi l27, shp_dk _, shp_dk _, ?_⟩
    rw [SeqAt.eqv_refl _ (can_dkl _)]
    exact q _
end
end Toy
set_option Elab.async false
set_option linter.all false
set_option maxRecDepth 100000
set_option maxHeartbeats 4000000
namespace Toy
open PySem PySem.Spec PyProof.Rows L2
section
variable {P : Program} {w : World} {K : PySem.W.Frag} {mg : Str → Option Value} {base : Heap}
theorem ok_BadBytes_init {f D : Addr} {mc : Value} {fd : FuncData} (F : Fun K "__init__" "BadBytes.__init__" s_BadBytes_init f fd) (gD : mg "PagesError" = some (.ref D)) (U : Vx.UpC K D mc) : FnOk P w K mg base CX0 1 f fd ["self", "at"] (spErr K "at") := by
  refine F.ok sc_BadBytes_init (fun vs H Q E h => ?_) (fun cdv A outer s H vs Q E hr h => ?_)
  · obtain ⟨a, C, v, rfl, _⟩ := h
    rfl
  · obtain ⟨a, C, v, rfl, T, no, ha, q⟩ := h
    refine ⟨_, pss_cons (ps_expr (Vx.pe_up (pe_glob (v := .ref D) (by rfl) gD rfl) U (pa_cons (pv 0) (pa_cons pe_str pa_nil)))) (pss_one (ps_ost (pv 0) (pv 1))), ?_⟩
    exact ⟨rfl, _, rfl, a, C, _, rfl, (by decide), T, ha, _, rfl, _, rfl, a, C, rfl, T, no, .inl ⟨ha, fun d nd ne => q d nd ne⟩⟩

end
end Toy
set_option Elab.async false
set_option linter.all false
set_option maxRecDepth 100000
set_option maxHeartbeats 4000000
namespace Toy
open PySem PySem.Spec PyProof.Rows L2
theorem all_mk {l : PySem.W.OpenLaw} {w : World} {K : PySem.W.Frag} {h : Heap} {mg : Str → Option Value} {fa f_is_whole f_is_between f_is_writer_number f_is_field f_byte f_writer f_row_bytes f_law_pot f_law_draw f_law_writer f_law_numbers f_law_byte f_law_data f_law_due f_law_told f_law_bent f_law R f_ri t_dri D B f_iB p_pb f_pb p_pe f_pe PC t_emp f_pi t_dpi f_pr f_pl p_read f_read MC f_mi f_ms f_mr f_mp MD W f_iW Y : Addr}  (X : K.In h) (G : h.Ns mainGlobals mg) (hfa : mg "law" = some (.ref fa))
    {od_is_whole an_is_whole : Option Addr} {sl_is_whole : Array (Option Value)} {oc_is_whole kV_is_whole dc_is_whole pm_is_whole cd_is_whole ct_is_whole : Value} {od_is_between an_is_between : Option Addr} {sl_is_between : Array (Option Value)} {oc_is_between kV_is_between dc_is_between pm_is_between cd_is_between ct_is_between : Value} {od_is_writer_number an_is_writer_number : Option Addr} {sl_is_writer_number : Array (Option Value)} {oc_is_writer_number kV_is_writer_number dc_is_writer_number pm_is_writer_number cd_is_writer_number ct_is_writer_number : Value} {od_is_field an_is_field : Option Addr} {sl_is_field : Array (Option Value)} {oc_is_field kV_is_field dc_is_field pm_is_field cd_is_field ct_is_field : Value} {od_byte an_byte : Option Addr} {sl_byte : Array (Option Value)} {oc_byte kV_byte dc_byte pm_byte cd_byte ct_byte : Value} {od_writer an_writer : Option Addr} {sl_writer : Array (Option Value)} {oc_writer kV_writer dc_writer pm_writer cd_writer ct_writer : Value} {od_row_bytes an_row_bytes : Option Addr} {sl_row_bytes : Array (Option Value)} {oc_row_bytes kV_row_bytes dc_row_bytes pm_row_bytes cd_row_bytes ct_row_bytes : Value} {od_law_pot an_law_pot : Option Addr} {sl_law_pot : Array (Option Value)} {oc_law_pot kV_law_pot dc_law_pot pm_law_pot cd_law_pot ct_law_pot : Value} {od_law_draw an_law_draw : Option Addr} {sl_law_draw : Array (Option Value)} {oc_law_draw kV_law_draw dc_law_draw pm_law_draw cd_law_draw ct_law_draw : Value} {od_law_writer an_law_writer : Option Addr} {sl_law_writer : Array (Option Value)} {oc_law_writer kV_law_writer dc_law_writer pm_law_writer cd_law_writer ct_law_writer : Value} {od_law_numbers an_law_numbers : Option Addr} {sl_law_numbers : Array (Option Value)} {oc_law_numbers kV_law_numbers dc_law_numbers pm_law_numbers cd_law_numbers ct_law_numbers : Value} {od_law_byte an_law_byte : Option Addr} {sl_law_byte : Array (Option Value)} {oc_law_byte kV_law_byte dc_law_byte pm_law_byte cd_law_byte ct_law_byte : Value} {od_law_data an_law_data : Option Addr} {sl_law_data : Array (Option Value)} {oc_law_data kV_law_data dc_law_data pm_law_data cd_law_data ct_law_data : Value} {od_law_due an_law_due : Option Addr} {sl_law_due : Array (Option Value)} {oc_law_due kV_law_due dc_law_due pm_law_due cd_law_due ct_law_due : Value} {od_law_told an_law_told : Option Addr} {sl_law_told : Array (Option Value)} {oc_law_told kV_law_told dc_law_told pm_law_told cd_law_told ct_law_told : Value} {od_law_bent an_law_bent : Option Addr} {sl_law_bent : Array (Option Value)} {oc_law_bent kV_law_bent dc_law_bent pm_law_bent cd_law_bent ct_law_bent : Value} {od_law an_law : Option Addr} {sl_law : Array (Option Value)} {oc_law kV_law dc_law pm_law cd_law ct_law : Value} {od_ri an_ri : Option Addr} {sl_ri : Array (Option Value)} {oc_ri kV_ri dc_ri pm_ri cd_ri ct_ri dV_ri : Value} {tc_dri : Value} {to_dri : Option Addr} {ti_dri : Array Value} {tn_dri : Nat} {ts_dri : Array (Option Value)} {nm_B qn_B : Str} {ns_B : Addr} {bs_B bm_B : List Value} {sn_B : List Str} {sb_B : List Value} {ab_B : Bool} {co_B : Option Bool} {dd_B : Option Addr} {m0_B m1_B m2_B m3_B m5_B : Option Value} {od_iB an_iB : Option Addr} {sl_iB : Array (Option Value)} {oc_iB kV_iB dc_iB pm_iB cd_iB ct_iB : Value} {rest_pb : List Value} {od_pb an_pb : Option Addr} {sl_pb : Array (Option Value)} {oc_pb kV_pb dc_pb pm_pb cd_pb ct_pb : Value} {rest_pe : List Value} {od_pe an_pe : Option Addr} {sl_pe : Array (Option Value)} {oc_pe kV_pe dc_pe pm_pe cd_pe ct_pe : Value} {od_pi an_pi : Option Addr} {sl_pi : Array (Option Value)} {oc_pi kV_pi dc_pi pm_pi cd_pi ct_pi dV_pi : Value} {tc_dpi : Value} {to_dpi : Option Addr} {ti_dpi : Array Value} {tn_dpi : Nat} {ts_dpi : Array (Option Value)} {od_pr an_pr : Option Addr} {sl_pr : Array (Option Value)} {oc_pr kV_pr dc_pr pm_pr cd_pr ct_pr : Value} {od_pl an_pl : Option Addr} {sl_pl : Array (Option Value)} {oc_pl kV_pl dc_pl pm_pl cd_pl ct_pl : Value} {rest_read : List Value} {od_read an_read : Option Addr} {sl_read : Array (Option Value)} {oc_read kV_read dc_read pm_read cd_read ct_read : Value} {od_mi an_mi : Option Addr} {sl_mi : Array (Option Value)} {oc_mi kV_mi dc_mi pm_mi cd_mi ct_mi : Value} {od_ms an_ms : Option Addr} {sl_ms : Array (Option Value)} {oc_ms kV_ms dc_ms pm_ms cd_ms ct_ms : Value} {od_mr an_mr : Option Addr} {sl_mr : Array (Option Value)} {oc_mr kV_mr dc_mr pm_mr cd_mr ct_mr : Value} {od_mp an_mp : Option Addr} {sl_mp : Array (Option Value)} {oc_mp kV_mp dc_mp pm_mp cd_mp ct_mp : Value} {nm_W qn_W : Str} {ns_W : Addr} {bs_W bm_W : List Value} {sn_W : List Str} {sb_W : List Value} {ab_W : Bool} {co_W : Option Bool} {dd_W : Option Addr} {m0_W m1_W m2_W m3_W m5_W : Option Value} {od_iW an_iW : Option Addr} {sl_iW : Array (Option Value)} {oc_iW kV_iW dc_iW pm_iW cd_iW ct_iW : Value} {t7 tw tm : Tok}
    (a_is_whole : PySem.W.nsIn K mainGlobals "is_whole" = some (some (.ref f_is_whole)))
    (l_is_whole : K.lookup f_is_whole = some ⟨oc_is_whole, od_is_whole, .func (PySem.W.fnOf "is_whole" "is_whole" (defArgs s_is_whole) (defBody s_is_whole) (defScope s_is_whole) .none kV_is_whole dc_is_whole pm_is_whole an_is_whole cd_is_whole ct_is_whole), sl_is_whole⟩)
    (c_is_whole : PySem.W.codeIn K cd_is_whole "is_whole" = true)
    (k_is_whole : PySem.W.keepIn K (.ref f_is_whole) = true)
    (a_is_between : PySem.W.nsIn K mainGlobals "is_between" = some (some (.ref f_is_between)))
    (l_is_between : K.lookup f_is_between = some ⟨oc_is_between, od_is_between, .func (PySem.W.fnOf "is_between" "is_between" (defArgs s_is_between) (defBody s_is_between) (defScope s_is_between) .none kV_is_between dc_is_between pm_is_between an_is_between cd_is_between ct_is_between), sl_is_between⟩)
    (c_is_between : PySem.W.codeIn K cd_is_between "is_between" = true)
    (k_is_between : PySem.W.keepIn K (.ref f_is_between) = true)
    (a_is_writer_number : PySem.W.nsIn K mainGlobals "is_writer_number" = some (some (.ref f_is_writer_number)))
    (l_is_writer_number : K.lookup f_is_writer_number = some ⟨oc_is_writer_number, od_is_writer_number, .func (PySem.W.fnOf "is_writer_number" "is_writer_number" (defArgs s_is_writer_number) (defBody s_is_writer_number) (defScope s_is_writer_number) .none kV_is_writer_number dc_is_writer_number pm_is_writer_number an_is_writer_number cd_is_writer_number ct_is_writer_number), sl_is_writer_number⟩)
    (c_is_writer_number : PySem.W.codeIn K cd_is_writer_number "is_writer_number" = true)
    (k_is_writer_number : PySem.W.keepIn K (.ref f_is_writer_number) = true)
    (a_is_field : PySem.W.nsIn K mainGlobals "_is_field" = some (some (.ref f_is_field)))
    (l_is_field : K.lookup f_is_field = some ⟨oc_is_field, od_is_field, .func (PySem.W.fnOf "_is_field" "_is_field" (defArgs s_is_field) (defBody s_is_field) (defScope s_is_field) .none kV_is_field dc_is_field pm_is_field an_is_field cd_is_field ct_is_field), sl_is_field⟩)
    (c_is_field : PySem.W.codeIn K cd_is_field "_is_field" = true)
    (k_is_field : PySem.W.keepIn K (.ref f_is_field) = true)
    (a_byte : PySem.W.nsIn K mainGlobals "_byte" = some (some (.ref f_byte)))
    (l_byte : K.lookup f_byte = some ⟨oc_byte, od_byte, .func (PySem.W.fnOf "_byte" "_byte" (defArgs s_byte) (defBody s_byte) (defScope s_byte) .none kV_byte dc_byte pm_byte an_byte cd_byte ct_byte), sl_byte⟩)
    (c_byte : PySem.W.codeIn K cd_byte "_byte" = true)
    (k_byte : PySem.W.keepIn K (.ref f_byte) = true)
    (a_writer : PySem.W.nsIn K mainGlobals "_writer" = some (some (.ref f_writer)))
    (l_writer : K.lookup f_writer = some ⟨oc_writer, od_writer, .func (PySem.W.fnOf "_writer" "_writer" (defArgs s_writer) (defBody s_writer) (defScope s_writer) .none kV_writer dc_writer pm_writer an_writer cd_writer ct_writer), sl_writer⟩)
    (c_writer : PySem.W.codeIn K cd_writer "_writer" = true)
    (k_writer : PySem.W.keepIn K (.ref f_writer) = true)
    (a_row_bytes : PySem.W.nsIn K mainGlobals "_row_bytes" = some (some (.ref f_row_bytes)))
    (l_row_bytes : K.lookup f_row_bytes = some ⟨oc_row_bytes, od_row_bytes, .func (PySem.W.fnOf "_row_bytes" "_row_bytes" (defArgs s_row_bytes) (defBody s_row_bytes) (defScope s_row_bytes) .none kV_row_bytes dc_row_bytes pm_row_bytes an_row_bytes cd_row_bytes ct_row_bytes), sl_row_bytes⟩)
    (c_row_bytes : PySem.W.codeIn K cd_row_bytes "_row_bytes" = true)
    (k_row_bytes : PySem.W.keepIn K (.ref f_row_bytes) = true)
    (a_law_pot : PySem.W.nsIn K mainGlobals "_law_pot" = some (some (.ref f_law_pot)))
    (l_law_pot : K.lookup f_law_pot = some ⟨oc_law_pot, od_law_pot, .func (PySem.W.fnOf "_law_pot" "_law_pot" (defArgs s_law_pot) (defBody s_law_pot) (defScope s_law_pot) .none kV_law_pot dc_law_pot pm_law_pot an_law_pot cd_law_pot ct_law_pot), sl_law_pot⟩)
    (c_law_pot : PySem.W.codeIn K cd_law_pot "_law_pot" = true)
    (k_law_pot : PySem.W.keepIn K (.ref f_law_pot) = true)
    (a_law_draw : PySem.W.nsIn K mainGlobals "_law_draw" = some (some (.ref f_law_draw)))
    (l_law_draw : K.lookup f_law_draw = some ⟨oc_law_draw, od_law_draw, .func (PySem.W.fnOf "_law_draw" "_law_draw" (defArgs s_law_draw) (defBody s_law_draw) (defScope s_law_draw) .none kV_law_draw dc_law_draw pm_law_draw an_law_draw cd_law_draw ct_law_draw), sl_law_draw⟩)
    (c_law_draw : PySem.W.codeIn K cd_law_draw "_law_draw" = true)
    (k_law_draw : PySem.W.keepIn K (.ref f_law_draw) = true)
    (a_law_writer : PySem.W.nsIn K mainGlobals "_law_writer" = some (some (.ref f_law_writer)))
    (l_law_writer : K.lookup f_law_writer = some ⟨oc_law_writer, od_law_writer, .func (PySem.W.fnOf "_law_writer" "_law_writer" (defArgs s_law_writer) (defBody s_law_writer) (defScope s_law_writer) .none kV_law_writer dc_law_writer pm_law_writer an_law_writer cd_law_writer ct_law_writer), sl_law_writer⟩)
    (c_law_writer : PySem.W.codeIn K cd_law_writer "_law_writer" = true)
    (k_law_writer : PySem.W.keepIn K (.ref f_law_writer) = true)
    (a_law_numbers : PySem.W.nsIn K mainGlobals "_law_numbers" = some (some (.ref f_law_numbers)))
    (l_law_numbers : K.lookup f_law_numbers = some ⟨oc_law_numbers, od_law_numbers, .func (PySem.W.fnOf "_law_numbers" "_law_numbers" (defArgs s_law_numbers) (defBody s_law_numbers) (defScope s_law_numbers) .none kV_law_numbers dc_law_numbers pm_law_numbers an_law_numbers cd_law_numbers ct_law_numbers), sl_law_numbers⟩)
    (c_law_numbers : PySem.W.codeIn K cd_law_numbers "_law_numbers" = true)
    (k_law_numbers : PySem.W.keepIn K (.ref f_law_numbers) = true)
    (a_law_byte : PySem.W.nsIn K mainGlobals "_law_byte" = some (some (.ref f_law_byte)))
    (l_law_byte : K.lookup f_law_byte = some ⟨oc_law_byte, od_law_byte, .func (PySem.W.fnOf "_law_byte" "_law_byte" (defArgs s_law_byte) (defBody s_law_byte) (defScope s_law_byte) .none kV_law_byte dc_law_byte pm_law_byte an_law_byte cd_law_byte ct_law_byte), sl_law_byte⟩)
    (c_law_byte : PySem.W.codeIn K cd_law_byte "_law_byte" = true)
    (k_law_byte : PySem.W.keepIn K (.ref f_law_byte) = true)
    (a_law_data : PySem.W.nsIn K mainGlobals "_law_data" = some (some (.ref f_law_data)))
    (l_law_data : K.lookup f_law_data = some ⟨oc_law_data, od_law_data, .func (PySem.W.fnOf "_law_data" "_law_data" (defArgs s_law_data) (defBody s_law_data) (defScope s_law_data) .none kV_law_data dc_law_data pm_law_data an_law_data cd_law_data ct_law_data), sl_law_data⟩)
    (c_law_data : PySem.W.codeIn K cd_law_data "_law_data" = true)
    (k_law_data : PySem.W.keepIn K (.ref f_law_data) = true)
    (a_law_due : PySem.W.nsIn K mainGlobals "_law_due" = some (some (.ref f_law_due)))
    (l_law_due : K.lookup f_law_due = some ⟨oc_law_due, od_law_due, .func (PySem.W.fnOf "_law_due" "_law_due" (defArgs s_law_due) (defBody s_law_due) (defScope s_law_due) .none kV_law_due dc_law_due pm_law_due an_law_due cd_law_due ct_law_due), sl_law_due⟩)
    (c_law_due : PySem.W.codeIn K cd_law_due "_law_due" = true)
    (k_law_due : PySem.W.keepIn K (.ref f_law_due) = true)
    (a_law_told : PySem.W.nsIn K mainGlobals "_law_told" = some (some (.ref f_law_told)))
    (l_law_told : K.lookup f_law_told = some ⟨oc_law_told, od_law_told, .func (PySem.W.fnOf "_law_told" "_law_told" (defArgs s_law_told) (defBody s_law_told) (defScope s_law_told) .none kV_law_told dc_law_told pm_law_told an_law_told cd_law_told ct_law_told), sl_law_told⟩)
    (c_law_told : PySem.W.codeIn K cd_law_told "_law_told" = true)
    (k_law_told : PySem.W.keepIn K (.ref f_law_told) = true)
    (a_law_bent : PySem.W.nsIn K mainGlobals "_law_bent" = some (some (.ref f_law_bent)))
    (l_law_bent : K.lookup f_law_bent = some ⟨oc_law_bent, od_law_bent, .func (PySem.W.fnOf "_law_bent" "_law_bent" (defArgs s_law_bent) (defBody s_law_bent) (defScope s_law_bent) .none kV_law_bent dc_law_bent pm_law_bent an_law_bent cd_law_bent ct_law_bent), sl_law_bent⟩)
    (c_law_bent : PySem.W.codeIn K cd_law_bent "_law_bent" = true)
    (k_law_bent : PySem.W.keepIn K (.ref f_law_bent) = true)
    (a_law : PySem.W.nsIn K mainGlobals "law" = some (some (.ref f_law)))
    (l_law : K.lookup f_law = some ⟨oc_law, od_law, .func (PySem.W.fnOf "law" "law" (defArgs s_law) (defBody s_law) (defScope s_law) .none kV_law dc_law pm_law an_law cd_law ct_law), sl_law⟩)
    (c_law : PySem.W.codeIn K cd_law "law" = true)
    (k_law : PySem.W.keepIn K (.ref f_law) = true)
    (cG : PySem.W.specialIn K (.builtin "object.__class__") "__get__" = some (some (.builtin "getset_descriptor.__get__")))
    (cT : PySem.W.takesIn K (.builtin "object.__class__") = some true)
    (a_R : PySem.W.nsIn K mainGlobals "Row" = some (some (.ref R)))
    (pg_R : PySem.W.plainGet K R Str.empty = true)
    (hd_R : PySem.W.hasDictIn K R = true)
    (po_R : PySem.W.plainOver K R = true)
    (sa_R : PySem.W.findIn K (.ref R) "__setattr__" = some (some (.builtin "object.__setattr__")))
    (mk_R : PySem.W.makesIn K R = true)
    (kc_R : PySem.W.keepIn K (.ref R) = true)
    (cC_R : PySem.W.findIn K (.ref R) "__class__" = some (some (.builtin "object.__class__")))
    (cM_R : PySem.W.mroIn K R (.type "object") = some true)
    (kk_R : PySem.W.kitOne K (.ref R) (.ref R) = some true)
    (n_R__beginner : PySem.W.findIn K (.ref R) "_beginner" = some none)
    (n_R__ender : PySem.W.findIn K (.ref R) "_ender" = some none)
    (rd_R : PySem.W.readsIn K R (.type "type") = true)
    (ga_R : PySem.W.specialIn K (.ref R) "__getattribute__" = some (some (.builtin "type.__getattribute__")))
    (a_ri : PySem.W.findIn K (.ref R) "__init__" = some (some (.ref f_ri)))
    (i_ri : PySem.W.isFn K (.ref f_ri) = true)
    (l_ri : K.lookup f_ri = some ⟨oc_ri, od_ri, .func (PySem.W.fnOf "__init__" "Row.__init__" (defArgs s_Row_init) (defBody s_Row_init) (defScope s_Row_init) dV_ri kV_ri dc_ri pm_ri an_ri cd_ri ct_ri), sl_ri⟩)
    (c_ri : PySem.W.codeIn K cd_ri "Row.__init__" = true)
    (k_ri : PySem.W.keepIn K (.ref f_ri) = true)
    (dv_ri : dV_ri = .ref t_dri)
    (lk_dri : K.lookup t_dri = some ⟨tc_dri, to_dri, .seq ti_dri tn_dri, ts_dri⟩)
    (cl_dri : tc_dri = .type "tuple")
    (sz_dri : ti_dri.size ≤ sizeLine)
    (vl_dri : Vals [.non, .non] ti_dri.toList)
    (a_D : PySem.W.nsIn K mainGlobals "PagesError" = some (some (.ref D)))
    (a_B : PySem.W.nsIn K mainGlobals "BadRow" = some (some (.ref B)))
    (x_B : K.lookup B = some (excClassObj nm_B qn_B B ns_B bs_B bm_B true sn_B sb_B ab_B co_B dd_B m0_B m1_B m2_B m3_B m5_B "ValueError.__new__"))
    (rv_B : PySem.HandSPX.refsVE bm_B = true)
    (sa_B : PySem.W.findIn K (.ref B) "__setattr__" = some (some (.builtin "object.__setattr__")))
    (gt_B : PySem.W.findIn K (.ref B) "__getattribute__" = some (some (.builtin "BaseException.__getattribute__")))
    (gg_B : PySem.W.findIn K (.ref B) "__getattr__" = some none)
    (cC_B : PySem.W.findIn K (.ref B) "__class__" = some (some (.builtin "object.__class__")))
    (no_B : PySem.W.findIn K (.ref B) "field" = some none)
    (ex_B : PySem.W.subIn K (.ref B) (.type "BaseException") = some true)
    (ty_B : PySem.W.typeIn K (.ref B) = some (.type "type"))
    (kc_B : PySem.W.keepIn K (.ref B) = true)
    (hd_B : PySem.W.hasDictIn K B = true)
    (ic_B : (PySem.W.clsIn K B).isSome = true)
    (cM_B : PySem.W.mroIn K B (.type "object") = some true)
    (ss_B : PySem.W.subIn K (.ref B) (.ref B) = some true)
    (in_B : PySem.W.findIn K (.ref B) "__init__" = some (some (.ref f_iB)))
    (it_B : PySem.W.typeIn K (.ref f_iB) = some (.type "function"))
    (l_iB : K.lookup f_iB = some ⟨oc_iB, od_iB, .func (PySem.W.fnOf "__init__" "BadRow.__init__" (defArgs s_BadRow_init) (defBody s_BadRow_init) (defScope s_BadRow_init) .none kV_iB dc_iB pm_iB an_iB cd_iB ct_iB), sl_iB⟩)
    (c_iB : PySem.W.codeIn K cd_iB "BadRow.__init__" = true)
    (k_iB : PySem.W.keepIn K (.ref f_iB) = true)
    (rd_D : PySem.W.readsIn K D (.type "type") = true)
    (ga_D : PySem.W.specialIn K (.ref D) "__getattribute__" = some (some (.builtin "type.__getattribute__")))
    (up_D : PySem.W.findCls K (.ref D) (.type "type") "__init__" = some (.val (.builtin "ValueError.__init__")))
    (a_pb : PySem.W.findIn K (.ref R) "beginner" = some (some (.ref p_pb)))
    (g1_pb : PySem.W.specialIn K (.ref p_pb) "__get__" = some (some (.builtin "property.__get__")))
    (g2_pb : PySem.W.takesIn K (.ref p_pb) = some true)
    (r_pb : PySem.W.recIn K p_pb "property" = some (.ref f_pb :: rest_pb))
    (l_pb : K.lookup f_pb = some ⟨oc_pb, od_pb, .func (PySem.W.fnOf "beginner" "Row.beginner" (defArgs s_Row_beginner) (defBody s_Row_beginner) (defScope s_Row_beginner) .none kV_pb dc_pb pm_pb an_pb cd_pb ct_pb), sl_pb⟩)
    (c_pb : PySem.W.codeIn K cd_pb "Row.beginner" = true)
    (k_pb : PySem.W.keepIn K (.ref f_pb) = true)
    (a_pe : PySem.W.findIn K (.ref R) "ender" = some (some (.ref p_pe)))
    (g1_pe : PySem.W.specialIn K (.ref p_pe) "__get__" = some (some (.builtin "property.__get__")))
    (g2_pe : PySem.W.takesIn K (.ref p_pe) = some true)
    (r_pe : PySem.W.recIn K p_pe "property" = some (.ref f_pe :: rest_pe))
    (l_pe : K.lookup f_pe = some ⟨oc_pe, od_pe, .func (PySem.W.fnOf "ender" "Row.ender" (defArgs s_Row_ender) (defBody s_Row_ender) (defScope s_Row_ender) .none kV_pe dc_pe pm_pe an_pe cd_pe ct_pe), sl_pe⟩)
    (c_pe : PySem.W.codeIn K cd_pe "Row.ender" = true)
    (k_pe : PySem.W.keepIn K (.ref f_pe) = true)
    (a_PC : PySem.W.nsIn K mainGlobals "Page" = some (some (.ref PC)))
    (pg_PC : PySem.W.plainGet K PC Str.empty = true)
    (hd_PC : PySem.W.hasDictIn K PC = true)
    (po_PC : PySem.W.plainOver K PC = true)
    (sa_PC : PySem.W.findIn K (.ref PC) "__setattr__" = some (some (.builtin "object.__setattr__")))
    (mk_PC : PySem.W.makesIn K PC = true)
    (kc_PC : PySem.W.keepIn K (.ref PC) = true)
    (cC_PC : PySem.W.findIn K (.ref PC) "__class__" = some (some (.builtin "object.__class__")))
    (cM_PC : PySem.W.mroIn K PC (.type "object") = some true)
    (kk_PC : PySem.W.kitOne K (.ref PC) (.ref PC) = some true)
    (n_PC__rows : PySem.W.findIn K (.ref PC) "_rows" = some none)
    (rd_PC : PySem.W.readsIn K PC (.type "type") = true)
    (ga_PC : PySem.W.specialIn K (.ref PC) "__getattribute__" = some (some (.builtin "type.__getattribute__")))
    (a_pi : PySem.W.findIn K (.ref PC) "__init__" = some (some (.ref f_pi)))
    (i_pi : PySem.W.isFn K (.ref f_pi) = true)
    (l_pi : K.lookup f_pi = some ⟨oc_pi, od_pi, .func (PySem.W.fnOf "__init__" "Page.__init__" (defArgs s_Page_init) (defBody s_Page_init) (defScope s_Page_init) dV_pi kV_pi dc_pi pm_pi an_pi cd_pi ct_pi), sl_pi⟩)
    (c_pi : PySem.W.codeIn K cd_pi "Page.__init__" = true)
    (k_pi : PySem.W.keepIn K (.ref f_pi) = true)
    (dv_pi : dV_pi = .ref t_dpi)
    (lk_dpi : K.lookup t_dpi = some ⟨tc_dpi, to_dpi, .seq ti_dpi tn_dpi, ts_dpi⟩)
    (cl_dpi : tc_dpi = .type "tuple")
    (sz_dpi : ti_dpi.size ≤ sizeLine)
    (vl_dpi : Vals [.ref t_emp] ti_dpi.toList)
    (a_pr : PySem.W.findIn K (.ref PC) "raw" = some (some (.ref f_pr)))
    (i_pr : PySem.W.isFn K (.ref f_pr) = true)
    (l_pr : K.lookup f_pr = some ⟨oc_pr, od_pr, .func (PySem.W.fnOf "raw" "Page.raw" (defArgs s_Page_raw) (defBody s_Page_raw) (defScope s_Page_raw) .none kV_pr dc_pr pm_pr an_pr cd_pr ct_pr), sl_pr⟩)
    (c_pr : PySem.W.codeIn K cd_pr "Page.raw" = true)
    (k_pr : PySem.W.keepIn K (.ref f_pr) = true)
    (a_pl : PySem.W.findIn K (.ref PC) "__len__" = some (some (.ref f_pl)))
    (i_pl : PySem.W.isFn K (.ref f_pl) = true)
    (l_pl : K.lookup f_pl = some ⟨oc_pl, od_pl, .func (PySem.W.fnOf "__len__" "Page.__len__" (defArgs s_Page_len) (defBody s_Page_len) (defScope s_Page_len) .none kV_pl dc_pl pm_pl an_pl cd_pl ct_pl), sl_pl⟩)
    (c_pl : PySem.W.codeIn K cd_pl "Page.__len__" = true)
    (k_pl : PySem.W.keepIn K (.ref f_pl) = true)
    (a_read : PySem.W.findCls K (.ref PC) (.type "type") "read" = some (.get (.builtin "staticmethod.__get__") (.ref p_read) .none (.ref PC)))
    (r_read : PySem.W.recIn K p_read "staticmethod" = some (.ref f_read :: rest_read))
    (l_read : K.lookup f_read = some ⟨oc_read, od_read, .func (PySem.W.fnOf "read" "Page.read" (defArgs s_Page_read) (defBody s_Page_read) (defScope s_Page_read) .none kV_read dc_read pm_read an_read cd_read ct_read), sl_read⟩)
    (c_read : PySem.W.codeIn K cd_read "Page.read" = true)
    (k_read : PySem.W.keepIn K (.ref f_read) = true)
    (a_MC : PySem.W.nsIn K mainGlobals "Marks" = some (some (.ref MC)))
    (pg_MC : PySem.W.plainGet K MC Str.empty = true)
    (hd_MC : PySem.W.hasDictIn K MC = true)
    (po_MC : PySem.W.plainOver K MC = true)
    (sa_MC : PySem.W.findIn K (.ref MC) "__setattr__" = some (some (.builtin "object.__setattr__")))
    (mk_MC : PySem.W.makesIn K MC = true)
    (kc_MC : PySem.W.keepIn K (.ref MC) = true)
    (cC_MC : PySem.W.findIn K (.ref MC) "__class__" = some (some (.builtin "object.__class__")))
    (cM_MC : PySem.W.mroIn K MC (.type "object") = some true)
    (kk_MC : PySem.W.kitOne K (.ref MC) (.ref MC) = some true)
    (n_MC__flags : PySem.W.findIn K (.ref MC) "_flags" = some none)
    (a_mi : PySem.W.findIn K (.ref MC) "__init__" = some (some (.ref f_mi)))
    (i_mi : PySem.W.isFn K (.ref f_mi) = true)
    (l_mi : K.lookup f_mi = some ⟨oc_mi, od_mi, .func (PySem.W.fnOf "__init__" "Marks.__init__" (defArgs s_Marks_init) (defBody s_Marks_init) (defScope s_Marks_init) .none kV_mi dc_mi pm_mi an_mi cd_mi ct_mi), sl_mi⟩)
    (c_mi : PySem.W.codeIn K cd_mi "Marks.__init__" = true)
    (k_mi : PySem.W.keepIn K (.ref f_mi) = true)
    (a_ms : PySem.W.findIn K (.ref MC) "__setitem__" = some (some (.ref f_ms)))
    (i_ms : PySem.W.isFn K (.ref f_ms) = true)
    (l_ms : K.lookup f_ms = some ⟨oc_ms, od_ms, .func (PySem.W.fnOf "__setitem__" "Marks.__setitem__" (defArgs s_Marks_setitem) (defBody s_Marks_setitem) (defScope s_Marks_setitem) .none kV_ms dc_ms pm_ms an_ms cd_ms ct_ms), sl_ms⟩)
    (c_ms : PySem.W.codeIn K cd_ms "Marks.__setitem__" = true)
    (k_ms : PySem.W.keepIn K (.ref f_ms) = true)
    (a_mr : PySem.W.findIn K (.ref MC) "raw" = some (some (.ref f_mr)))
    (i_mr : PySem.W.isFn K (.ref f_mr) = true)
    (l_mr : K.lookup f_mr = some ⟨oc_mr, od_mr, .func (PySem.W.fnOf "raw" "Marks.raw" (defArgs s_Marks_raw) (defBody s_Marks_raw) (defScope s_Marks_raw) .none kV_mr dc_mr pm_mr an_mr cd_mr ct_mr), sl_mr⟩)
    (c_mr : PySem.W.codeIn K cd_mr "Marks.raw" = true)
    (k_mr : PySem.W.keepIn K (.ref f_mr) = true)
    (a_mp : PySem.W.findIn K (.ref MC) "pages" = some (some (.ref f_mp)))
    (i_mp : PySem.W.isFn K (.ref f_mp) = true)
    (l_mp : K.lookup f_mp = some ⟨oc_mp, od_mp, .func (PySem.W.fnOf "pages" "Marks.pages" (defArgs s_Marks_pages) (defBody s_Marks_pages) (defScope s_Marks_pages) .none kV_mp dc_mp pm_mp an_mp cd_mp ct_mp), sl_mp⟩)
    (c_mp : PySem.W.codeIn K cd_mp "Marks.pages" = true)
    (k_mp : PySem.W.keepIn K (.ref f_mp) = true)
    (nqM : PySem.W.noSeq K MC = true)
    (a_MD : PySem.W.nsIn K mainGlobals "Made" = some (some (.ref MD)))
    (kID : PySem.W.kitOne K (.type "int") (.ref MD) = some false)
    (a_W : PySem.W.nsIn K mainGlobals "BadBytes" = some (some (.ref W)))
    (x_W : K.lookup W = some (excClassObj nm_W qn_W W ns_W bs_W bm_W true sn_W sb_W ab_W co_W dd_W m0_W m1_W m2_W m3_W m5_W "ValueError.__new__"))
    (rv_W : PySem.HandSPX.refsVE bm_W = true)
    (sa_W : PySem.W.findIn K (.ref W) "__setattr__" = some (some (.builtin "object.__setattr__")))
    (gt_W : PySem.W.findIn K (.ref W) "__getattribute__" = some (some (.builtin "BaseException.__getattribute__")))
    (gg_W : PySem.W.findIn K (.ref W) "__getattr__" = some none)
    (cC_W : PySem.W.findIn K (.ref W) "__class__" = some (some (.builtin "object.__class__")))
    (no_W : PySem.W.findIn K (.ref W) "at" = some none)
    (ex_W : PySem.W.subIn K (.ref W) (.type "BaseException") = some true)
    (ty_W : PySem.W.typeIn K (.ref W) = some (.type "type"))
    (kc_W : PySem.W.keepIn K (.ref W) = true)
    (hd_W : PySem.W.hasDictIn K W = true)
    (ic_W : (PySem.W.clsIn K W).isSome = true)
    (cM_W : PySem.W.mroIn K W (.type "object") = some true)
    (ss_W : PySem.W.subIn K (.ref W) (.ref W) = some true)
    (in_W : PySem.W.findIn K (.ref W) "__init__" = some (some (.ref f_iW)))
    (it_W : PySem.W.typeIn K (.ref f_iW) = some (.type "function"))
    (l_iW : K.lookup f_iW = some ⟨oc_iW, od_iW, .func (PySem.W.fnOf "__init__" "BadBytes.__init__" (defArgs s_BadBytes_init) (defBody s_BadBytes_init) (defScope s_BadBytes_init) .none kV_iW dc_iW pm_iW an_iW cd_iW ct_iW), sl_iW⟩)
    (c_iW : PySem.W.codeIn K cd_iW "BadBytes.__init__" = true)
    (k_iW : PySem.W.keepIn K (.ref f_iW) = true)
    (a_Y : PySem.W.nsIn K mainGlobals "BadPage" = some (some (.ref Y)))
    (kWD : PySem.W.kitOne K (.ref W) (.ref D) = some true)
    (kWV : PySem.W.kitOne K (.ref W) (.type "ValueError") = some true)
    (kWY : PySem.W.kitOne K (.ref W) (.ref Y) = some false)
    (m7 : PySem.W.nsIn K mainGlobals "MOST_ROWS" = some (some (.int 7 t7)))
    (lw : PySem.W.nsIn K mainGlobals "LAST_WRITER" = some (some (.int 30 tw)))
    (mpg : PySem.W.nsIn K mainGlobals "MOST_PAGES" = some (some (.int 64 tm)))
    (z_len : PySem.W.nsIn K mainGlobals "len" = some none)
    (z_int : PySem.W.nsIn K mainGlobals "int" = some none)
    (z_bool : PySem.W.nsIn K mainGlobals "bool" = some none)
    (z_isinstance : PySem.W.nsIn K mainGlobals "isinstance" = some none)
    (z_range : PySem.W.nsIn K mainGlobals "range" = some none)
    (z_sum : PySem.W.nsIn K mainGlobals "sum" = some none)
    (z_list : PySem.W.nsIn K mainGlobals "list" = some none)
    (z_tuple : PySem.W.nsIn K mainGlobals "tuple" = some none)
    (z_enumerate : PySem.W.nsIn K mainGlobals "enumerate" = some none)
    (z_all : PySem.W.nsIn K mainGlobals "all" = some none)
    (z_bytes : PySem.W.nsIn K mainGlobals "bytes" = some none)
    (z_ValueError : PySem.W.nsIn K mainGlobals "ValueError" = some none) :
    ∃ fd : FuncData, (∀ (s : Shared) (v : Value), BindsTo s fd ⟨[v], []⟩ [("script", v)]) ∧ ∀ base : Heap, K.In base → base.Ns mainGlobals mg → FnOk l.prog w K mg base CX0 11 fa fd ["script"] (spLaw K) := by
  have e := hfa.symm.trans (PySem.W.mg_of X G a_law)
  cases e
  have F_is_whole := fun_mk (st := s_is_whole) l_is_whole c_is_whole k_is_whole
  have b_is_whole := F_is_whole.binds (ps := ["value"]) fun _ _ _ _ _ _ us hl => match us, hl with | [_], _ => rfl
  have F_is_between := fun_mk (st := s_is_between) l_is_between c_is_between k_is_between
  have b_is_between := F_is_between.binds (ps := ["value", "low", "high"]) fun _ _ _ _ _ _ us hl => match us, hl with | [_, _, _], _ => rfl
  have F_is_writer_number := fun_mk (st := s_is_writer_number) l_is_writer_number c_is_writer_number k_is_writer_number
  have b_is_writer_number := F_is_writer_number.binds (ps := ["value"]) fun _ _ _ _ _ _ us hl => match us, hl with | [_], _ => rfl
  have F_is_field := fun_mk (st := s_is_field) l_is_field c_is_field k_is_field
  have b_is_field := F_is_field.binds (ps := ["value"]) fun _ _ _ _ _ _ us hl => match us, hl with | [_], _ => rfl
  have F_byte := fun_mk (st := s_byte) l_byte c_byte k_byte
  have b_byte := F_byte.binds (ps := ["writer"]) fun _ _ _ _ _ _ us hl => match us, hl with | [_], _ => rfl
  have F_writer := fun_mk (st := s_writer) l_writer c_writer k_writer
  have b_writer := F_writer.binds (ps := ["byte"]) fun _ _ _ _ _ _ us hl => match us, hl with | [_], _ => rfl
  have F_row_bytes := fun_mk (st := s_row_bytes) l_row_bytes c_row_bytes k_row_bytes
  have b_row_bytes := F_row_bytes.binds (ps := ["rows"]) fun _ _ _ _ _ _ us hl => match us, hl with | [_], _ => rfl
  have F_law_pot := fun_mk (st := s_law_pot) l_law_pot c_law_pot k_law_pot
  have b_law_pot := F_law_pot.binds (ps := ["script"]) fun _ _ _ _ _ _ us hl => match us, hl with | [_], _ => rfl
  have F_law_draw := fun_mk (st := s_law_draw) l_law_draw c_law_draw k_law_draw
  have b_law_draw := F_law_draw.binds (ps := ["pot", "many"]) fun _ _ _ _ _ _ us hl => match us, hl with | [_, _], _ => rfl
  have F_law_writer := fun_mk (st := s_law_writer) l_law_writer c_law_writer k_law_writer
  have b_law_writer := F_law_writer.binds (ps := ["pot"]) fun _ _ _ _ _ _ us hl => match us, hl with | [_], _ => rfl
  have F_law_numbers := fun_mk (st := s_law_numbers) l_law_numbers c_law_numbers k_law_numbers
  have b_law_numbers := F_law_numbers.binds (ps := ["fields"]) fun _ _ _ _ _ _ us hl => match us, hl with | [_], _ => rfl
  have F_law_byte := fun_mk (st := s_law_byte) l_law_byte c_law_byte k_law_byte
  have b_law_byte := F_law_byte.binds (ps := ["value"]) fun _ _ _ _ _ _ us hl => match us, hl with | [_], _ => rfl
  have F_law_data := fun_mk (st := s_law_data) l_law_data c_law_data k_law_data
  have b_law_data := F_law_data.binds (ps := ["numbers"]) fun _ _ _ _ _ _ us hl => match us, hl with | [_], _ => rfl
  have F_law_due := fun_mk (st := s_law_due) l_law_due c_law_due k_law_due
  have b_law_due := F_law_due.binds (ps := ["numbers"]) fun _ _ _ _ _ _ us hl => match us, hl with | [_], _ => rfl
  have F_law_told := fun_mk (st := s_law_told) l_law_told c_law_told k_law_told
  have b_law_told := F_law_told.binds (ps := ["data"]) fun _ _ _ _ _ _ us hl => match us, hl with | [_], _ => rfl
  have F_law_bent := fun_mk (st := s_law_bent) l_law_bent c_law_bent k_law_bent
  have b_law_bent := F_law_bent.binds (ps := ["pot", "numbers"]) fun _ _ _ _ _ _ us hl => match us, hl with | [_, _], _ => rfl
  have F_law := fun_mk (st := s_law) l_law c_law k_law
  have F_iB := fun_mk (st := s_BadRow_init) l_iB c_iB k_iB
  have b_iB := F_iB.binds (ps := ["self", "field"]) fun _ _ _ _ _ _ us hl => match us, hl with | [_, _], _ => rfl
  have ox_B : OexC K B := ⟨⟨_, _, _, _, _, _, _, _, _, _, _, _, _, _, _, x_B, rv_B⟩, sa_B, ex_B, ty_B, kc_B⟩
  have F_pb := fun_mk (st := s_Row_beginner) l_pb c_pb k_pb
  have b_pb := F_pb.binds (ps := ["self"]) fun _ _ _ _ _ _ us hl => match us, hl with | [_], _ => rfl
  have F_pe := fun_mk (st := s_Row_ender) l_pe c_pe k_pe
  have b_pe := F_pe.binds (ps := ["self"]) fun _ _ _ _ _ _ us hl => match us, hl with | [_], _ => rfl
  have F_pr := fun_mk (st := s_Page_raw) l_pr c_pr k_pr
  have b_pr := F_pr.binds (ps := ["self"]) fun _ _ _ _ _ _ us hl => match us, hl with | [_], _ => rfl
  have F_pl := fun_mk (st := s_Page_len) l_pl c_pl k_pl
  have b_pl := F_pl.binds (ps := ["self"]) fun _ _ _ _ _ _ us hl => match us, hl with | [_], _ => rfl
  have F_read := fun_mk (st := s_Page_read) l_read c_read k_read
  have b_read := F_read.binds (ps := ["data"]) fun _ _ _ _ _ _ us hl => match us, hl with | [_], _ => rfl
  have F_mi := fun_mk (st := s_Marks_init) l_mi c_mi k_mi
  have b_mi := F_mi.binds (ps := ["self", "many"]) fun _ _ _ _ _ _ us hl => match us, hl with | [_, _], _ => rfl
  have F_ms := fun_mk (st := s_Marks_setitem) l_ms c_ms k_ms
  have b_ms := F_ms.binds (ps := ["self", "at", "value"]) fun _ _ _ _ _ _ us hl => match us, hl with | [_, _, _], _ => rfl
  have F_mr := fun_mk (st := s_Marks_raw) l_mr c_mr k_mr
  have b_mr := F_mr.binds (ps := ["self"]) fun _ _ _ _ _ _ us hl => match us, hl with | [_], _ => rfl
  have F_mp := fun_mk (st := s_Marks_pages) l_mp c_mp k_mp
  have b_mp := F_mp.binds (ps := ["self"]) fun _ _ _ _ _ _ us hl => match us, hl with | [_], _ => rfl
  have F_iW := fun_mk (st := s_BadBytes_init) l_iW c_iW k_iW
  have b_iW := F_iW.binds (ps := ["self", "at"]) fun _ _ _ _ _ _ us hl => match us, hl with | [_, _], _ => rfl
  have ox_W : OexC K W := ⟨⟨_, _, _, _, _, _, _, _, _, _, _, _, _, _, _, x_W, rv_W⟩, sa_W, ex_W, ty_W, kc_W⟩
  refine ⟨PySem.W.fnOf "law" "law" (defArgs s_law) (defBody s_law) (defScope s_law) .none kV_law dc_law pm_law an_law cd_law ct_law, fun s v => .of_eq rfl, fun base _ _ => ?_⟩
  have mz : ∀ {n : Str}, PySem.W.nsIn K mainGlobals n = some none → mg n = none := fun z => PySem.W.mg_none_of X G z
  have TI : NmI mg := ⟨mz z_isinstance, mz z_int, mz z_bool⟩
  have GW := ok_wholeG (P := l.prog) (w := w) (base := base) F_is_whole TI
  have GB := ok_betwG F_is_between GW k_is_whole b_is_whole (PySem.W.mg_of X G a_is_whole)
  have GI := ok_isWG F_is_writer_number GB k_is_between b_is_between (PySem.W.mg_of X G a_is_between) ⟨tw, PySem.W.mg_of X G lw⟩
  have gI := PySem.W.mg_of X G a_is_writer_number
  have GF := ok_field F_is_field GI k_is_writer_number b_is_writer_number gI
  have er : Err l.prog w K mg base "BadRow" "field" B f_iB _ (spErr K "field") := ⟨ox_B, no_B, PySem.W.mg_of X G a_B, in_B, it_B, ok_BadRow_init F_iB (PySem.W.mg_of X G a_D) ⟨⟨rd_D, ga_D⟩, up_D⟩, b_iB⟩
  have clR : Cls K R := ⟨pg_R, hd_R, po_R, sa_R⟩
  have RT : RowT l.prog w K mg base R B f_is_field f_iB _ _ := ⟨clR, n_R__beginner, n_R__ender, GF, k_is_field, b_is_field, PySem.W.mg_of X G a_is_field, er⟩
  have DR : RowD K f_ri _ := ⟨⟨oc_ri, od_ri, dV_ri, kV_ri, dc_ri, pm_ri, an_ri, cd_ri, ct_ri, sl_ri, rfl, l_ri, c_ri, .inr ⟨by simp, t_dri, _, ti_dri.toList, tn_dri, dv_ri, lk_dri, rfl, vl_dri⟩, .inl rfl⟩, k_ri⟩
  have GR := ok_Row_init (P := l.prog) (w := w) (base := base) DR RT
  have RM : RowM l.prog w K mg base R B f_ri _ := ⟨⟨mk_R, a_ri, i_ri, kc_R⟩, PySem.W.mg_of X G a_R, GR, row_b2 DR, row_b1 DR, row_b0 DR⟩
  have RC : RowC K mg R := ⟨clR, cC_R, cG, cT, cM_R, kk_R⟩
  have GD : FnOk l.prog w K mg base CX0 1 f_law_draw _ ["pot", "many"] spDraw := ok_draw F_law_draw (mz z_int) (mz z_len)
  have DW : Drw l.prog w K mg base f_law_draw _ := ⟨GD, k_law_draw, b_law_draw, PySem.W.mg_of X G a_law_draw⟩
  have PT : PgT K mg PC := ⟨⟨pg_PC, hd_PC, po_PC, sa_PC⟩, n_PC__rows, mz z_isinstance, mz z_list, mz z_len, mz z_all, mz z_enumerate, ⟨t7, PySem.W.mg_of X G m7⟩⟩
  have DP : PageD K f_pi _ [.ref t_emp] := ⟨⟨oc_pi, od_pi, dV_pi, kV_pi, dc_pi, pm_pi, an_pi, cd_pi, ct_pi, sl_pi, rfl, l_pi, c_pi, .inr ⟨by simp, t_dpi, _, ti_dpi.toList, tn_dpi, dv_pi, lk_dpi, rfl, vl_dpi⟩, .inl rfl⟩, k_pi⟩
  have RP : RowP l.prog w K mg base R p_pb p_pe f_pb f_pe _ _ := ⟨clR, ⟨a_pb, g1_pb, g2_pb, ⟨_, r_pb⟩⟩, fn_getter l_pb c_pb sc_Row_beginner rfl rfl clR n_R__beginner, b_pb, ⟨a_pe, g1_pe, g2_pe, ⟨_, r_pe⟩⟩, fn_getter l_pe c_pe sc_Row_ender rfl rfl clR n_R__ender, b_pe⟩
  have CB : Cal l.prog w K mg base CX0 1 f_byte _ "_byte" ["writer"] spByte := ⟨ok_byte F_byte, k_byte, b_byte, PySem.W.mg_of X G a_byte⟩
  have CR : Cal l.prog w K mg base CX0 3 f_row_bytes _ "_row_bytes" ["rows"] (spRB K R) := ⟨ok_rb F_row_bytes CB RP, k_row_bytes, b_row_bytes, PySem.W.mg_of X G a_row_bytes⟩
  have CW : Cal l.prog w K mg base CX0 1 f_writer _ "_writer" ["byte"] spWr := ⟨ok_wr F_writer, k_writer, b_writer, PySem.W.mg_of X G a_writer⟩
  have CBt : Cal l.prog w K mg base CX0 2 f_is_between _ "is_between" ["value", "low", "high"] (spBetwG K) := ⟨GB, k_is_between, b_is_between, PySem.W.mg_of X G a_is_between⟩
  have gR := PySem.W.mg_of X G a_R
  have gP := PySem.W.mg_of X G a_PC
  have PCt : RowC K mg PC := ⟨PT.cl, cC_PC, cG, cT, cM_PC, kk_PC⟩
  have NM : PgM l.prog w K mg base R PC f_pi _ := { mkP := ⟨mk_PC, a_pi, i_pi, kc_PC⟩, g := gP, F := ok_page_init DP PT RC gR, b1 := page_b1 DP, cl := PT.cl }
  have RD : RdT mg := ⟨mz z_bytes, mz z_range, mz z_sum, ⟨tw, PySem.W.mg_of X G lw⟩⟩
  have erW : Err l.prog w K mg base "BadBytes" "at" W f_iW _ (spErr K "at") := ⟨ox_W, no_W, PySem.W.mg_of X G a_W, in_W, it_W, ok_BadBytes_init F_iW (PySem.W.mg_of X G a_D) ⟨⟨rd_D, ga_D⟩, up_D⟩, b_iW⟩
  have SU : Sui K W "at" := ⟨⟨ic_W, gt_W, gg_W, ex_W, cC_W, cG, cT, cM_W⟩, ⟨gt_W, gg_W, ex_W, hd_W⟩, no_W, PySem.W.exm_ref ex_W hd_W ty_W ss_W⟩
  have KW : KitW K mg W D Y := ⟨mz z_isinstance, PySem.W.mg_of X G a_W, PySem.W.mg_of X G a_D, PySem.W.mg_of X G a_Y, mz z_ValueError, kWD, kWV, kWY⟩
  have crP : ClX.CRead K PC (.type "type") := ⟨rd_PC, ga_PC⟩
  have smP : Vx.SMet K PC (.type "type") "read" p_read f_read := ⟨a_read, ⟨_, r_read⟩, k_read⟩
  have GRd := Vx.fnR (ok_read F_read PT RD RM NM CW erW) b_read
  have GRn := Vx.fnR (ok_readN F_read PT RD erW) b_read
  have MT : MkT K mg MC MD := ⟨⟨pg_MC, hd_MC, po_MC, sa_MC⟩, n_MC__flags, PySem.W.mg_of X G a_MD, mz z_isinstance, mz z_bool, mz z_len, mz z_enumerate, mz z_sum, ⟨tm, PySem.W.mg_of X G mpg⟩, kID⟩
  have MM : MkM l.prog w K mg base MC f_mi f_ms f_mr _ _ _ := { mkM := ⟨mk_MC, a_mi, i_mi, kc_MC⟩, g := PySem.W.mg_of X G a_MC, F := ok_mk_init F_mi MT CBt, b := b_mi, cl := MT.cl, nq := nqM, sA := a_ms, sF := i_ms, FS := ok_mk_set F_ms MT CBt, bS := b_ms, mW := ⟨a_mr, i_mr, k_mr⟩, FW := ok_mk_raw F_mr MT ⟨a_mp, i_mp, k_mp⟩ (ok_mk_pages F_mp MT) b_mp, bW := b_mr }
  have CLb : Cal l.prog w K mg base CX0 5 f_law_byte _ "_law_byte" ["value"] spLByte := ⟨ok_lbyte F_law_byte MM (mz z_int) (mz z_range), k_law_byte, b_law_byte, PySem.W.mg_of X G a_law_byte⟩
  exact ok_law F_law { pot := ⟨ok_pot F_law_pot (mz z_int), k_law_pot, b_law_pot, PySem.W.mg_of X G a_law_pot⟩, draw := ⟨GD, k_law_draw, b_law_draw, PySem.W.mg_of X G a_law_draw⟩, wtr := ⟨ok_wtr F_law_writer DW, k_law_writer, b_law_writer, PySem.W.mg_of X G a_law_writer⟩, nums := ⟨ok_nums F_law_numbers (mz z_len) (mz z_int) (mz z_sum), k_law_numbers, b_law_numbers, PySem.W.mg_of X G a_law_numbers⟩, bent := ⟨ok_bent F_law_bent DW (mz z_len) (mz z_range), k_law_bent, b_law_bent, PySem.W.mg_of X G a_law_bent⟩, data := ⟨ok_ldata F_law_data MM CLb, k_law_data, b_law_data, PySem.W.mg_of X G a_law_data⟩, due := ⟨ok_due F_law_due (mz z_len) (mz z_range) (mz z_int) (mz z_sum), k_law_due, b_law_due, PySem.W.mg_of X G a_law_due⟩, told := ⟨ok_told F_law_told crP smP gP GRd SU KW, k_law_told, b_law_told, PySem.W.mg_of X G a_law_told⟩, toldN := ⟨ok_toldN F_law_told crP smP gP GRn SU KW, k_law_told, b_law_told, PySem.W.mg_of X G a_law_told⟩, len := mz z_len, range := mz z_range, list := mz z_list, tup := mz z_tuple, int := mz z_int, sum := mz z_sum, isi := mz z_isinstance, gP := gP, PCt := PCt, mR := ⟨a_pr, i_pr, k_pr⟩, FR := ok_raw F_pr PT CR (mz z_sum) (mz z_bytes), bR := b_pr, lnA := a_pl, lnF := i_pl, FL := Vx.fnR (ok_pg_len F_pl PT) b_pl }
theorem walk {l : PySem.W.OpenLaw} {q : Program} {loose : List Str} {XP : (Str → Option Value) → Heap → Prop} {YP : World → Heap → Prop} {d : DefRec} {K : Params → PySem.W.Frag} (hn : l.most = some 63) (hdf : d.params.defaults = [])
    (hY : ∀ (w : World) (h : Heap), YP w h → (K w.params).In h)
    (F : ∀ (w : World) (mg : Str → Option Value) (fa : Addr) (h : Heap), (K w.params).In h → h.Ns mainGlobals mg → mg d.name = some (.ref fa) →
      ∃ fd : FuncData, (∀ (s : Shared) (u : Value), BindsTo s fd ⟨[u], []⟩ [("script", u)]) ∧ ∀ base : Heap, (K w.params).In base → base.Ns mainGlobals mg → FnOk l.prog w (K w.params) mg base CX0 11 fa fd ["script"] (spLaw (K w.params))) :
    PySem.W.WalkO q loose XP YP l.row.toRowW d [] (fun f vs => PySem.call f vs) :=
  L2.walk_of (n := 63) (k := 11) (x := "script") (CX := fun _ => CX0) (sp := fun w => spLaw (K w.params)) hn (by decide) hdf ⟨rfl, by decide, by decide⟩ hY F (fun _ _ a ns hl _ hS => ⟨a, ns, rfl, hS, hl, fun _ => rfl⟩) fun _ _ _ _ _ z => z
end Toy
open PySem PySem.W PyProof.Rows in
set_option maxRecDepth 100000 in
set_option maxHeartbeats 0 in
theorem PySem.Challenge.cw_trustedpages_k09_bytes_that_are_no_page_holds : PySem.Challenge.rw_trustedpages_k09_bytes_that_are_no_page.Holds := by
  w_on; o_law; k_head; (case hw => w_witness2)
  k_fill
  refine Toy.walk (l := PySem.Challenge.rw_trustedpages_k09_bytes_that_are_no_page) rfl rfl (fun w h Y => PySem.W.kIn_of Y) ?F
  case F =>
    intro w mg fa h KX G hmg
    refine' Toy.all_mk KX G hmg ?a_is_whole ?l_is_whole ?c_is_whole ?k_is_whole ?a_is_between ?l_is_between ?c_is_between ?k_is_between ?a_is_writer_number ?l_is_writer_number ?c_is_writer_number ?k_is_writer_number ?a_is_field ?l_is_field ?c_is_field ?k_is_field ?a_byte ?l_byte ?c_byte ?k_byte ?a_writer ?l_writer ?c_writer ?k_writer ?a_row_bytes ?l_row_bytes ?c_row_bytes ?k_row_bytes ?a_law_pot ?l_law_pot ?c_law_pot ?k_law_pot ?a_law_draw ?l_law_draw ?c_law_draw ?k_law_draw ?a_law_writer ?l_law_writer ?c_law_writer ?k_law_writer ?a_law_numbers ?l_law_numbers ?c_law_numbers ?k_law_numbers ?a_law_byte ?l_law_byte ?c_law_byte ?k_law_byte ?a_law_data ?l_law_data ?c_law_data ?k_law_data ?a_law_due ?l_law_due ?c_law_due ?k_law_due ?a_law_told ?l_law_told ?c_law_told ?k_law_told ?a_law_bent ?l_law_bent ?c_law_bent ?k_law_bent ?a_law ?l_law ?c_law ?k_law ?cG ?cT ?a_R ?pg_R ?hd_R ?po_R ?sa_R ?mk_R ?kc_R ?cC_R ?cM_R ?kk_R ?n_R__beginner ?n_R__ender ?rd_R ?ga_R ?a_ri ?i_ri ?l_ri ?c_ri ?k_ri ?dv_ri ?lk_dri ?cl_dri ?sz_dri ?vl_dri ?a_D ?a_B ?x_B ?rv_B ?sa_B ?gt_B ?gg_B ?cC_B ?no_B ?ex_B ?ty_B ?kc_B ?hd_B ?ic_B ?cM_B ?ss_B ?in_B ?it_B ?l_iB ?c_iB ?k_iB ?rd_D ?ga_D ?up_D ?a_pb ?g1_pb ?g2_pb ?r_pb ?l_pb ?c_pb ?k_pb ?a_pe ?g1_pe ?g2_pe ?r_pe ?l_pe ?c_pe ?k_pe ?a_PC ?pg_PC ?hd_PC ?po_PC ?sa_PC ?mk_PC ?kc_PC ?cC_PC ?cM_PC ?kk_PC ?n_PC__rows ?rd_PC ?ga_PC ?a_pi ?i_pi ?l_pi ?c_pi ?k_pi ?dv_pi ?lk_dpi ?cl_dpi ?sz_dpi ?vl_dpi ?a_pr ?i_pr ?l_pr ?c_pr ?k_pr ?a_pl ?i_pl ?l_pl ?c_pl ?k_pl ?a_read ?r_read ?l_read ?c_read ?k_read ?a_MC ?pg_MC ?hd_MC ?po_MC ?sa_MC ?mk_MC ?kc_MC ?cC_MC ?cM_MC ?kk_MC ?n_MC__flags ?a_mi ?i_mi ?l_mi ?c_mi ?k_mi ?a_ms ?i_ms ?l_ms ?c_ms ?k_ms ?a_mr ?i_mr ?l_mr ?c_mr ?k_mr ?a_mp ?i_mp ?l_mp ?c_mp ?k_mp ?nqM ?a_MD ?kID ?a_W ?x_W ?rv_W ?sa_W ?gt_W ?gg_W ?cC_W ?no_W ?ex_W ?ty_W ?kc_W ?hd_W ?ic_W ?cM_W ?ss_W ?in_W ?it_W ?l_iW ?c_iW ?k_iW ?a_Y ?kWD ?kWV ?kWY ?m7 ?lw ?mpg ?z_len ?z_int ?z_bool ?z_isinstance ?z_range ?z_sum ?z_list ?z_tuple ?z_enumerate ?z_all ?z_bytes ?z_ValueError
    (case a_is_whole => k_is)
    (case l_is_whole => k_is)
    (case c_is_whole => k_is)
    (case k_is_whole => k_is)
    (case a_is_between => k_is)
    (case l_is_between => k_is)
    (case c_is_between => k_is)
    (case k_is_between => k_is)
    (case a_is_writer_number => k_is)
    (case l_is_writer_number => k_is)
    (case c_is_writer_number => k_is)
    (case k_is_writer_number => k_is)
    (case a_is_field => k_is)
    (case l_is_field => k_is)
    (case c_is_field => k_is)
    (case k_is_field => k_is)
    (case a_byte => k_is)
    (case l_byte => k_is)
    (case c_byte => k_is)
    (case k_byte => k_is)
    (case a_writer => k_is)
    (case l_writer => k_is)
    (case c_writer => k_is)
    (case k_writer => k_is)
    (case a_row_bytes => k_is)
    (case l_row_bytes => k_is)
    (case c_row_bytes => k_is)
    (case k_row_bytes => k_is)
    (case a_law_pot => k_is)
    (case l_law_pot => k_is)
    (case c_law_pot => k_is)
    (case k_law_pot => k_is)
    (case a_law_draw => k_is)
    (case l_law_draw => k_is)
    (case c_law_draw => k_is)
    (case k_law_draw => k_is)
    (case a_law_writer => k_is)
    (case l_law_writer => k_is)
    (case c_law_writer => k_is)
    (case k_law_writer => k_is)
    (case a_law_numbers => k_is)
    (case l_law_numbers => k_is)
    (case c_law_numbers => k_is)
    (case k_law_numbers => k_is)
    (case a_law_byte => k_is)
    (case l_law_byte => k_is)
    (case c_law_byte => k_is)
    (case k_law_byte => k_is)
    (case a_law_data => k_is)
    (case l_law_data => k_is)
    (case c_law_data => k_is)
    (case k_law_data => k_is)
    (case a_law_due => k_is)
    (case l_law_due => k_is)
    (case c_law_due => k_is)
    (case k_law_due => k_is)
    (case a_law_told => k_is)
    (case l_law_told => k_is)
    (case c_law_told => k_is)
    (case k_law_told => k_is)
    (case a_law_bent => k_is)
    (case l_law_bent => k_is)
    (case c_law_bent => k_is)
    (case k_law_bent => k_is)
    (case a_law => k_is)
    (case l_law => k_is)
    (case c_law => k_is)
    (case k_law => k_is)
    (case cG => k_is)
    (case cT => k_is)
    (case a_R => k_is)
    (case pg_R => k_is)
    (case hd_R => k_is)
    (case po_R => k_is)
    (case sa_R => k_is)
    (case mk_R => k_is)
    (case kc_R => k_is)
    (case cC_R => k_is)
    (case cM_R => k_is)
    (case kk_R => exact if_pos (beq_self_eq_true _))
    (case n_R__beginner => k_is)
    (case n_R__ender => k_is)
    (case rd_R => k_is)
    (case ga_R => k_is)
    (case a_ri => k_is)
    (case i_ri => k_is)
    (case l_ri => k_is)
    (case c_ri => k_is)
    (case k_ri => k_is)
    (case dv_ri => rfl)
    (case lk_dri => k_is)
    (case cl_dri => rfl)
    (case sz_dri => decide)
    (case vl_dri => exact .cons rfl (.cons rfl .nil))
    (case a_D => k_is)
    (case a_B => k_is)
    (case x_B => k_is)
    (case rv_B => decide +kernel)
    (case sa_B => k_is)
    (case gt_B => k_is)
    (case gg_B => k_is)
    (case cC_B => k_is)
    (case no_B => k_is)
    (case ex_B => k_is)
    (case ty_B => k_is)
    (case kc_B => k_is)
    (case hd_B => k_is)
    (case ic_B => first | rfl | k_is)
    (case cM_B => k_is)
    (case ss_B => first | rfl | k_is)
    (case in_B => k_is)
    (case it_B => k_is)
    (case l_iB => k_is)
    (case c_iB => k_is)
    (case k_iB => k_is)
    (case rd_D => k_is)
    (case ga_D => k_is)
    (case up_D => k_is)
    (case a_pb => k_is)
    (case g1_pb => k_is)
    (case g2_pb => k_is)
    (case r_pb => k_is)
    (case l_pb => k_is)
    (case c_pb => k_is)
    (case k_pb => k_is)
    (case a_pe => k_is)
    (case g1_pe => k_is)
    (case g2_pe => k_is)
    (case r_pe => k_is)
    (case l_pe => k_is)
    (case c_pe => k_is)
    (case k_pe => k_is)
    (case a_PC => k_is)
    (case pg_PC => k_is)
    (case hd_PC => k_is)
    (case po_PC => k_is)
    (case sa_PC => k_is)
    (case mk_PC => k_is)
    (case kc_PC => k_is)
    (case cC_PC => k_is)
    (case cM_PC => k_is)
    (case kk_PC => exact if_pos (beq_self_eq_true _))
    (case n_PC__rows => k_is)
    (case rd_PC => k_is)
    (case ga_PC => k_is)
    (case a_pi => k_is)
    (case i_pi => k_is)
    (case l_pi => k_is)
    (case c_pi => k_is)
    (case k_pi => k_is)
    (case dv_pi => rfl)
    (case lk_dpi => k_is)
    (case cl_dpi => rfl)
    (case sz_dpi => decide)
    (case vl_dpi => exact .cons rfl .nil)
    (case a_pr => k_is)
    (case i_pr => k_is)
    (case l_pr => k_is)
    (case c_pr => k_is)
    (case k_pr => k_is)
    (case a_pl => k_is)
    (case i_pl => k_is)
    (case l_pl => k_is)
    (case c_pl => k_is)
    (case k_pl => k_is)
    (case a_read => k_is)
    (case r_read => k_is)
    (case l_read => k_is)
    (case c_read => k_is)
    (case k_read => k_is)
    (case a_MC => k_is)
    (case pg_MC => k_is)
    (case hd_MC => k_is)
    (case po_MC => k_is)
    (case sa_MC => k_is)
    (case mk_MC => k_is)
    (case kc_MC => k_is)
    (case cC_MC => k_is)
    (case cM_MC => k_is)
    (case kk_MC => exact if_pos (beq_self_eq_true _))
    (case n_MC__flags => k_is)
    (case a_mi => k_is)
    (case i_mi => k_is)
    (case l_mi => k_is)
    (case c_mi => k_is)
    (case k_mi => k_is)
    (case a_ms => k_is)
    (case i_ms => k_is)
    (case l_ms => k_is)
    (case c_ms => k_is)
    (case k_ms => k_is)
    (case a_mr => k_is)
    (case i_mr => k_is)
    (case l_mr => k_is)
    (case c_mr => k_is)
    (case k_mr => k_is)
    (case a_mp => k_is)
    (case i_mp => k_is)
    (case l_mp => k_is)
    (case c_mp => k_is)
    (case k_mp => k_is)
    (case nqM => k_is)
    (case a_MD => k_is)
    (case kID => kit_is)
    (case a_W => k_is)
    (case x_W => k_is)
    (case rv_W => decide +kernel)
    (case sa_W => k_is)
    (case gt_W => k_is)
    (case gg_W => k_is)
    (case cC_W => k_is)
    (case no_W => k_is)
    (case ex_W => k_is)
    (case ty_W => k_is)
    (case kc_W => k_is)
    (case hd_W => k_is)
    (case ic_W => first | rfl | k_is)
    (case cM_W => k_is)
    (case ss_W => first | rfl | k_is)
    (case in_W => k_is)
    (case it_W => k_is)
    (case l_iW => k_is)
    (case c_iW => k_is)
    (case k_iW => k_is)
    (case a_Y => k_is)
    (case kWD => kit_is)
    (case kWV => kit_is)
    (case kWY => kit_is)
    (case m7 => k_is)
    (case lw => k_is)
    (case mpg => k_is)
    (case z_len => k_is)
    (case z_int => k_is)
    (case z_bool => k_is)
    (case z_isinstance => k_is)
    (case z_range => k_is)
    (case z_sum => k_is)
    (case z_list => k_is)
    (case z_tuple => k_is)
    (case z_enumerate => k_is)
    (case z_all => k_is)
    (case z_bytes => k_is)
    (case z_ValueError => k_is)
