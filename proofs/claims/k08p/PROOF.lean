import PyProof.Rows.All
import Wide.All
import OpenK.AllK
import Wide.FinOn
import PyProof.EqAt
import PyProof.EqKinds
import PyProof.TupleCall
import KE.KOpsOwn
import HandS.ForMost
import HandS.OwnEq
import HandS.Star
import HandS.ClsMeth
import HandS.IsInst
import HandS.Codes
import HandS.Flow
import HandS.Wide
import PySem.Challenge.RW_trustedpages_k08_bytes_of_a_page
import KE.KExcIs
import HandS.ExcInit
import HandS.ExcField
import HandS.ExcIs
import HandS.ExcOwn
import HandS.MakeKw
import HandS.MakeKwOnly
import HandS.Defaults
import HandS.Property
import HandS.WordsExc
import PyProof.ReprRoads
import PyProof.CallFns
import HandS.Ends
import HandS.Walk
import HandS.Bytes
import HandS.BytesMake
import HandS.ToBytes
import KE.GoesMore
import PyProof.Draws
import PyProof.EnumMake
import Open.Row
import KE.RegKIsAll
set_option Elab.async false
set_option linter.all false
set_option maxRecDepth 100000
set_option maxHeartbeats 2000000
/-! own operators, static methods, an own class called with a star -/
namespace Vx
open PySem PySem.Spec PyProof.Rows L2
section
variable {P : Program} {w : World} {K : PySem.W.Frag} {mg : Str → Option Value} {base : Heap} {CX : CXT} {k : Nat} {f : Addr} {fd : FuncData} {ps : List Str} {sp : Sp}
theorem fnR (F : FnOk P w K mg base CX k f fd ps sp) (hb : L2.Binds K fd ps []) : FnR P w K mg base CX k f sp := by
  intro A outer s H us vs Q E hr e0 r hsp
  have hl := F.len _ _ _ _ hsp
  have KX : K.In s.heap := e0.mod.kin.keeps fun b o e => (e0.bs b o e).1
  refine F.run A outer s H ⟨us, []⟩ us vs Q E hr e0 ?_ r hsp
  have := hb s us KX (by rw [List.append_nil, ← r.length]; exact hl)
  simpa using this
end
section
variable {X : Cx} {CX : CXT} {k : Nat} {C f : Addr} {sp : Sp} {E : XK} {pins : List (Addr × Obj)} {σ : L2.St} {H : Hp} {s : Shared} {Q : VK}
theorem cmpBack_of {v : Value} {s' : Shared} (h : EP X pins σ Q v s') : PySem.W.CmpBack (EP X pins σ Q) v s' := by
  cases v with
  | notImplemented =>
    obtain ⟨v', H', I', r, q⟩ := h
    cases v' with
    | int i => obtain ⟨t, e⟩ := r; cases e
    | str i => obtain ⟨t, e⟩ := r; cases e
    | byt i => obtain ⟨t, e⟩ := r; cases e
    | flt i => obtain ⟨t, e⟩ := r; cases e
    | non => cases r
    | bl b => cases r
    | ref a => cases r
    | ty n => cases r
  | _ => exact h
theorem call_cmp {us : List Value} {vs : List V} (F : FnR X.prog X.w X.K X.mg X.base CX k f sp) (hr : Room k X.A) (hx : Passes CX X E) (I : L2.Inv X pins σ H s) (r : Vals vs us) (h : sp vs H Q E) :
    wpAny (model X.prog X.w) X.A (call (.ref f) us) (PySem.W.CmpBack (EP X pins σ Q)) X.xe s :=
  wpAny_mono (wpAny_call (run_fnR F hr hx I r h)) (fun _ _ z => cmpBack_of z) fun _ _ z => z
/-- o op y by the own method of o's class; y of the same class, or an int -/
def rOwn (C : Addr) (sp : Sp) (E : XK) : R2 := fun x y H Q => (∃ a dx fs, x = .ref a ∧ H a = some (.ins C dx fs)) ∧ ((∃ b dy gs, y = .ref b ∧ H b = some (.ins C dy gs)) ∨ ∃ i, y = .int i) ∧ sp [x, y] H Q E
/-- what the text says of an operator of the class at C -/
structure OpF (K : PySem.W.Frag) (C f : Addr) (op : Operator) : Prop where
  sf : PySem.W.selfFirst K C = true
  at_ : PySem.W.findIn K (.ref C) (PySem.dunder op.info.2) = some (some (.ref f))
  fn : PySem.W.isFn K (.ref f) = true
  rf : ∃ rc, PySem.W.findIn K (.ref C) (PySem.dunderR op.info.2) = some rc ∧ (rc = none ∨ ∃ g : Addr, rc = some (.ref g))
  i1 : ∃ fo, PySem.W.findIn K (.type "int") (PySem.dunder op.info.2) = some fo
  i2 : ∃ ro, PySem.W.findIn K (.type "int") (PySem.dunderR op.info.2) = some ro
  sub : PySem.W.subIn K (.type "int") (.ref C) = some false
theorem op_own {op : Operator} (O : OpF X.K C f op) (F : FnR X.prog X.w X.K X.mg X.base CX k f sp) (hr : Room k X.A) (hx : Passes CX X E) : OpR X (binaryOp op) (rOwn C sp E) := by
  intro pins s σ H x y v u Q I rx ry hq
  obtain ⟨⟨a, dx, fs, rfl, ha⟩, hy, hsp⟩ := hq
  have ev : v = Value.ref a := rx
  have cl := call_cmp F hr hx I (us := [v, u]) (vs := [V.ref a, y]) (.cons rx (.cons ry .nil)) hsp
  subst ev
  obtain ⟨mA, J, _⟩ := ins_get I.hok ha
  obtain ⟨od, J, _⟩ := J.look
  obtain ⟨m, hF⟩ := I.fr
  rcases hy with ⟨b, dy, gs, rfl, hb⟩ | ⟨i, rfl⟩
  · have eu : u = Value.ref b := ry
    subst eu
    obtain ⟨mB, J', _⟩ := ins_get I.hok hb
    obtain ⟨od', J', _⟩ := J'.look
    exact PySem.W.binop_K hF I.ok.mod.kin J J'.type O.sf O.at_ O.fn cl
  · obtain ⟨t, rfl⟩ := ry
    obtain ⟨rc, r1, r2⟩ := O.rf
    obtain ⟨fo, i1⟩ := O.i1
    obtain ⟨ro, i2⟩ := O.i2
    exact PySem.W.ksp_binT (T := "int") hF I.ok.mod.kin J rfl O.sf O.at_ O.fn r1 r2 i1 i2 O.sub cl
/-- o cmp y by the own method, y of the same class -/
def rCmp (C : Addr) (sp : Sp) (E : XK) : R2 := fun x y H Q => (∃ a dx fs, x = .ref a ∧ H a = some (.ins C dx fs)) ∧ (∃ b dy gs, y = .ref b ∧ H b = some (.ins C dy gs)) ∧ sp [x, y] H Q E
theorem op_cmpOwn {op : CmpOp} (hc : ∀ v u, compareOp op v u = richCompare op v u) (nf : PySem.W.notFirst X.K C (.ref C) = true) (at_ : PySem.W.findIn X.K (.ref C) (cmpInfo op).2.1 = some (some (.ref f))) (fn : PySem.W.isFn X.K (.ref f) = true)
    (F : FnR X.prog X.w X.K X.mg X.base CX k f sp) (hr : Room k X.A) (hx : Passes CX X E) : OpR X (compareOp op) (rCmp C sp E) := by
  intro pins s σ H x y v u Q I rx ry hq
  obtain ⟨⟨a, dx, fs, rfl, ha⟩, ⟨b, dy, gs, rfl, hb⟩, hsp⟩ := hq
  have ev : v = Value.ref a := rx
  have eu : u = Value.ref b := ry
  have cl := call_cmp F hr hx I (us := [v, u]) (vs := [V.ref a, V.ref b]) (.cons rx (.cons ry .nil)) hsp
  subst ev eu
  obtain ⟨mA, J, _⟩ := ins_get I.hok ha
  obtain ⟨od, J, _⟩ := J.look
  obtain ⟨mB, J', _⟩ := ins_get I.hok hb
  obtain ⟨od', J', _⟩ := J'.look
  obtain ⟨m, hF⟩ := I.fr
  rw [hc]
  exact PySem.W.cmp_K hr.units0 hF I.ok.mod.kin J J'.type nf at_ fn cl
/-- x in o by the own method -/
def rInOwn (C : Addr) (sp : Sp) (E : XK) (neg : Bool) : R2 := fun x y H Q => (∃ a dx fs, y = .ref a ∧ H a = some (.ins C dx fs)) ∧ sp [y, x] H (fun v H' => ∃ b, v = .bl b ∧ Q (.bl (if neg then !b else b)) H') E
theorem op_inOwn (at_ : PySem.W.findIn X.K (.ref C) "__contains__" = some (some (.ref f))) (fn : PySem.W.isFn X.K (.ref f) = true)
    (F : FnR X.prog X.w X.K X.mg X.base CX k f sp) (hr : Room k X.A) (hx : Passes CX X E) : OpR X (compareOp .In) (rInOwn C sp E false) := by
  intro pins s σ H x y v u Q I rx ry hq
  obtain ⟨⟨a, dx, fs, rfl, ha⟩, hsp⟩ := hq
  have eu : u = Value.ref a := ry
  have cl := wpAny_call (run_fnR (us := [u, v]) (vs := [V.ref a, x]) F hr hx I (.cons ry (.cons rx .nil)) hsp)
  subst eu
  obtain ⟨mA, J, _⟩ := ins_get I.hok ha
  obtain ⟨od, J, _⟩ := J.look
  obtain ⟨m, hF⟩ := I.fr
  refine PySem.W.in_K hF I.ok.mod.kin J at_ fn (wpAny_mono cl (fun r s' z => ?_) fun _ _ z => z)
  obtain ⟨v', H', I', rv, b, rfl, q⟩ := z
  have er : r = Value.bool b := rv
  subst er
  exact wpAny_truthy_bool ⟨.bl b, H', I', rfl, q⟩
end
/-! static methods -/
structure SMet (K : PySem.W.Frag) (C : Addr) (mc : Value) (m : Str) (p g : Addr) : Prop where
  at_ : PySem.W.findCls K (.ref C) mc m = some (.get (.builtin "staticmethod.__get__") (.ref p) .none (.ref C))
  rc : ∃ rest, PySem.W.recIn K p "staticmethod" = some (.ref g :: rest)
  kp : PySem.W.keepIn K (.ref g) = true
def tSMeth (C : Addr) (sp : Sp) (E : XK) (ta : TE) (t : TA) : TE := fun σ H Q => ta σ H fun x H1 => x = .ref C ∧ t σ H1 fun vs H2 => sp vs H2 Q E
section
variable {X : Cx} {CX : CXT} {k : Nat} {C p g : Addr} {mc : Value} {sp : Sp} {E : XK} {o e : Expr} {es : List Expr} {m : Str} {pos apos : Pos} {ta : TE} {t : TA} {pl : Sem Bool}
theorem pe_smeth (he : PE X o ta) (r : ClX.CRead X.K C mc) (c : SMet X.K C mc m p g) (F : FnR X.prog X.w X.K X.mg X.base CX k g sp) (hr : Room k X.A) (hx : Passes CX X E) (ha : PA X (e :: es) t)
    (hst : starEach (e :: es) X.env = (false, eval e X.env) :: starEach es X.env := by rfl) (hpl : (backTo pos (starEach es X.env)).any (·.1) = false := by rfl)
    (ht : eval (.Call (.Attribute o m apos) (e :: es) [] pos) X.env = (do
      let ov ← eval o X.env
      standAt apos.atName
      let (f, first) ← holding [ov] (getMethod ov m pl)
      callWith pos f first (backTo pos (starEach (e :: es) X.env)) (backToKw pos (keywordEach [] X.env))) := by rfl) :
    PE X (.Call (.Attribute o m apos) (e :: es) [] pos) (tSMeth C sp E ta t) := by
  refine ⟨fun pins s σ H Q I h => ?_⟩
  refine PySem.W.methodCall_KW (pl := pl) (thn (he.run pins s σ H _ I h) fun u s1 ⟨x, H1, I1, rx, ex, q⟩ => ?_) ht
  subst ex
  obtain rfl : u = Value.ref C := rx
  obtain ⟨rest, hp⟩ := c.rc
  refine PySem.W.method_cls I1.kIn r.ga (PySem.W.cls_bind I1.kIn r.rd c.at_ (wpAny_call (PySem.W.sm_get (s := { s1 with toks := s1.toks + 1 }) I1.kIn hp (PySem.W.handed_on rfl ?_))))
  have I2 : L2.Inv X pins σ H1 { s1 with toks := s1.toks + 1 } := I1.tok _
  refine PySem.W.callWith_K (h₀ := X.base) I2.ok.mod.kin c.kp (thn (ha.run pos pins _ σ H1 _ I2 q) fun us s3 ⟨vs, H2, I3, rv, q2⟩ => ⟨I3.kIn, ?_⟩) hst hpl
  exact wpAny_call (run_fnR F hr hx I3 rv q2)
end
/-! C(*xs) -/
section
variable {X : Cx} {CX : CXT} {k : Nat} {f C : Addr} {sp : Sp} {E : XK} {x : Str} {e : Expr} {te : TE} {p pos sp_ : Pos}
def tMakeS (K : PySem.W.Frag) (C : Addr) (sp : Sp) (E : XK) (te : TE) : TE := fun σ H Q => te σ H fun y H1 => ∃ a xs, y = V.ref a ∧ (SqT K H1 a xs ∨ SqL K H1 a xs) ∧ ∀ x dx, H1 x = Option.none → H1 dx = Option.none → dx ≠ x →
  sp (V.ref x :: xs) (upd (upd H1 dx (.own x)) x (.ins C dx [])) (fun v H2 => v = .non ∧ Q (.ref x) H2) E
theorem pe_makeS (M : Mk X.K C f) (F : FnR X.prog X.w X.K X.mg X.base CX k f sp) (hr : Room (k + 1) X.A) (hg : Gl X x) (hm : X.mg x = some (.ref C)) (hx : Passes CX X E) (he : PE X e te) (hd : (x == ("__debug__" : Str)) = false := by decide)
    (hst : starEach [.Starred e sp_] X.env = [(true, eval e X.env)] := by rfl) :
    PE X (.Call (.Name x p) [.Starred e sp_] [] pos) (tMakeS X.K C sp E te) := by
  refine ⟨fun pins s σ H Q I h => ?_⟩
  refine wpAny_Call_Name_kw (ld_glob I hg hm ?_ hd)
  refine PySem.W.callWith_S (h₀ := X.base) I.ok.mod.kin M.kp (thn (he.run pins s σ H _ I h) fun v s1 ⟨y, H1, I1, ry, a, xs, ey, hxs, q⟩ => ?_) hst
  subst ey
  obtain rfl : v = Value.ref a := ry
  exact StX.star_any I1 hxs fun us s2 I2 rv => ⟨I2.kIn, StX.run_makeR M F hr hx I2 rv q⟩
def tMakeZ (C : Addr) (sp : Sp) (E : XK) : TE := fun _ H Q => ∀ x dx, H x = Option.none → H dx = Option.none → dx ≠ x →
  sp [V.ref x] (upd (upd H dx (.own x)) x (.ins C dx [])) (fun v H2 => v = .non ∧ Q (.ref x) H2) E
end
end Vx
set_option Elab.async false
set_option linter.all false
set_option maxRecDepth 100000
namespace Toy
open PySem PySem.Spec PyProof.Rows L2
def topS (i : Nat) : Stmt := PySem.Challenge.pw_trustedpages_k08_bytes_of_a_page.main.body.getD i (.Pass ⟨0, 0, 0, 0⟩)
abbrev s_wall : Stmt := topS 0
theorem sc_wall : FnScope ["k"] ["k"] (defScope s_wall) := ⟨rfl, rfl, rfl, by decide +kernel, rfl, by decide +kernel, by decide +kernel⟩
-- wall cells []
abbrev s_BadRow_init : Stmt := inClass (topS 3) 0
theorem sc_BadRow_init : FnScope ["self", "field"] ["self", "field"] (defScope s_BadRow_init) := ⟨rfl, rfl, rfl, by decide +kernel, rfl, by decide +kernel, by decide +kernel⟩
-- BadRow_init cells []
abbrev s_BadPage_init : Stmt := inClass (topS 4) 0
theorem sc_BadPage_init : FnScope ["self", "at"] ["self", "at"] (defScope s_BadPage_init) := ⟨rfl, rfl, rfl, by decide +kernel, rfl, by decide +kernel, by decide +kernel⟩
-- BadPage_init cells []
abbrev s_BadBytes_init : Stmt := inClass (topS 5) 0
theorem sc_BadBytes_init : FnScope ["self", "at"] ["self", "at"] (defScope s_BadBytes_init) := ⟨rfl, rfl, rfl, by decide +kernel, rfl, by decide +kernel, by decide +kernel⟩
-- BadBytes_init cells []
abbrev s_is_whole : Stmt := topS 7
theorem sc_is_whole : FnScope ["value"] ["value"] (defScope s_is_whole) := ⟨rfl, rfl, rfl, by decide +kernel, rfl, by decide +kernel, by decide +kernel⟩
-- is_whole cells []
abbrev s_is_between : Stmt := topS 8
theorem sc_is_between : FnScope ["value", "low", "high"] ["value", "low", "high"] (defScope s_is_between) := ⟨rfl, rfl, rfl, by decide +kernel, rfl, by decide +kernel, by decide +kernel⟩
-- is_between cells []
abbrev s_is_writer_number : Stmt := topS 11
theorem sc_is_writer_number : FnScope ["value"] ["value"] (defScope s_is_writer_number) := ⟨rfl, rfl, rfl, by decide +kernel, rfl, by decide +kernel, by decide +kernel⟩
-- is_writer_number cells []
abbrev s_is_field : Stmt := topS 13
theorem sc_is_field : FnScope ["value"] ["value"] (defScope s_is_field) := ⟨rfl, rfl, rfl, by decide +kernel, rfl, by decide +kernel, by decide +kernel⟩
-- is_field cells []
abbrev s_Row_init : Stmt := inClass (topS 14) 0
theorem sc_Row_init : FnScope ["self", "beginner", "ender"] ["self", "beginner", "ender"] (defScope s_Row_init) := ⟨rfl, rfl, rfl, by decide +kernel, rfl, by decide +kernel, by decide +kernel⟩
-- Row_init cells []
abbrev s_Row_ancient : Stmt := inClass (topS 14) 1
theorem sc_Row_ancient : FnScope [] [] (defScope s_Row_ancient) := ⟨rfl, rfl, rfl, by decide +kernel, rfl, by decide +kernel, by decide +kernel⟩
-- Row_ancient cells []
abbrev s_Row_beginner : Stmt := inClass (topS 14) 2
theorem sc_Row_beginner : FnScope ["self"] ["self"] (defScope s_Row_beginner) := ⟨rfl, rfl, rfl, by decide +kernel, rfl, by decide +kernel, by decide +kernel⟩
-- Row_beginner cells []
abbrev s_Row_ender : Stmt := inClass (topS 14) 3
theorem sc_Row_ender : FnScope ["self"] ["self"] (defScope s_Row_ender) := ⟨rfl, rfl, rfl, by decide +kernel, rfl, by decide +kernel, by decide +kernel⟩
-- Row_ender cells []
abbrev s_Row_seen : Stmt := inClass (topS 14) 4
theorem sc_Row_seen : FnScope ["self", "moment"] ["self", "moment"] (defScope s_Row_seen) := ⟨rfl, rfl, rfl, by decide +kernel, rfl, by decide +kernel, by decide +kernel⟩
-- Row_seen cells []
abbrev s_Row_ended : Stmt := inClass (topS 14) 5
theorem sc_Row_ended : FnScope ["self", "writer"] ["self", "writer"] (defScope s_Row_ended) := ⟨rfl, rfl, rfl, by decide +kernel, rfl, by decide +kernel, by decide +kernel⟩
-- Row_ended cells []
abbrev s_Row_eq : Stmt := inClass (topS 14) 6
theorem sc_Row_eq : FnScope ["self", "other"] ["self", "other"] (defScope s_Row_eq) := ⟨rfl, rfl, rfl, by decide +kernel, rfl, by decide +kernel, by decide +kernel⟩
-- Row_eq cells []
abbrev s_byte : Stmt := topS 17
theorem sc_byte : FnScope ["writer"] ["writer"] (defScope s_byte) := ⟨rfl, rfl, rfl, by decide +kernel, rfl, by decide +kernel, by decide +kernel⟩
-- byte cells []
abbrev s_writer : Stmt := topS 18
theorem sc_writer : FnScope ["byte"] ["byte"] (defScope s_writer) := ⟨rfl, rfl, rfl, by decide +kernel, rfl, by decide +kernel, by decide +kernel⟩
-- writer cells []
abbrev s_row_bytes : Stmt := topS 19
theorem sc_row_bytes : FnScope ["rows", "row", "writer"] ["rows"] (defScope s_row_bytes) := ⟨rfl, rfl, rfl, by decide +kernel, rfl, by decide +kernel, by decide +kernel⟩
-- row_bytes cells []
abbrev s_Page_init : Stmt := inClass (topS 20) 0
theorem sc_Page_init : FnScope ["self", "rows", "at", "row"] ["self", "rows"] (defScope s_Page_init) := ⟨rfl, rfl, rfl, by decide +kernel, rfl, by decide +kernel, by decide +kernel⟩
-- Page_init cells []
abbrev s_Page_read : Stmt := inClass (topS 20) 1
theorem sc_Page_read : FnScope ["data", "last", "at"] ["data"] (defScope s_Page_read) := ⟨rfl, rfl, rfl, by decide +kernel, rfl, by decide +kernel, by decide +kernel⟩
-- Page_read cells ['data']
abbrev s_Page_raw : Stmt := inClass (topS 20) 2
theorem sc_Page_raw : FnScope ["self", "body"] ["self"] (defScope s_Page_raw) := ⟨rfl, rfl, rfl, by decide +kernel, rfl, by decide +kernel, by decide +kernel⟩
-- Page_raw cells []
abbrev s_Page_piece : Stmt := inClass (topS 20) 3
theorem sc_Page_piece : FnScope ["self", "first", "last"] ["self", "first", "last"] (defScope s_Page_piece) := ⟨rfl, rfl, rfl, by decide +kernel, rfl, by decide +kernel, by decide +kernel⟩
-- Page_piece cells []
abbrev s_Page_rows : Stmt := inClass (topS 20) 4
theorem sc_Page_rows : FnScope ["self"] ["self"] (defScope s_Page_rows) := ⟨rfl, rfl, rfl, by decide +kernel, rfl, by decide +kernel, by decide +kernel⟩
-- Page_rows cells []
abbrev s_Page_all_seen : Stmt := inClass (topS 20) 5
theorem sc_Page_all_seen : FnScope ["self", "moment"] ["self", "moment"] (defScope s_Page_all_seen) := ⟨rfl, rfl, rfl, by decide +kernel, rfl, by decide +kernel, by decide +kernel⟩
-- Page_all_seen cells []
abbrev s_Page_twin : Stmt := inClass (topS 20) 6
theorem sc_Page_twin : FnScope ["self"] ["self"] (defScope s_Page_twin) := ⟨rfl, rfl, rfl, by decide +kernel, rfl, by decide +kernel, by decide +kernel⟩
-- Page_twin cells []
abbrev s_Page_len : Stmt := inClass (topS 20) 7
theorem sc_Page_len : FnScope ["self"] ["self"] (defScope s_Page_len) := ⟨rfl, rfl, rfl, by decide +kernel, rfl, by decide +kernel, by decide +kernel⟩
-- Page_len cells []
abbrev s_Page_iter : Stmt := inClass (topS 20) 8
theorem sc_Page_iter : FnScope ["self"] ["self"] (defScope s_Page_iter) := ⟨rfl, rfl, rfl, by decide +kernel, rfl, by decide +kernel, by decide +kernel⟩
-- Page_iter cells []
abbrev s_Page_getitem : Stmt := inClass (topS 20) 9
theorem sc_Page_getitem : FnScope ["self", "at"] ["self", "at"] (defScope s_Page_getitem) := ⟨rfl, rfl, rfl, by decide +kernel, rfl, by decide +kernel, by decide +kernel⟩
-- Page_getitem cells []
abbrev s_Page_setitem : Stmt := inClass (topS 20) 10
theorem sc_Page_setitem : FnScope ["self", "at", "row"] ["self", "at", "row"] (defScope s_Page_setitem) := ⟨rfl, rfl, rfl, by decide +kernel, rfl, by decide +kernel, by decide +kernel⟩
-- Page_setitem cells []
abbrev s_Page_iadd : Stmt := inClass (topS 20) 11
theorem sc_Page_iadd : FnScope ["self", "row"] ["self", "row"] (defScope s_Page_iadd) := ⟨rfl, rfl, rfl, by decide +kernel, rfl, by decide +kernel, by decide +kernel⟩
-- Page_iadd cells []
abbrev s_Page_contains : Stmt := inClass (topS 20) 12
theorem sc_Page_contains : FnScope ["self", "value"] ["self", "value"] (defScope s_Page_contains) := ⟨rfl, rfl, rfl, by decide +kernel, rfl, by decide +kernel, by decide +kernel⟩
-- Page_contains cells []
abbrev s_Page_eq : Stmt := inClass (topS 20) 13
theorem sc_Page_eq : FnScope ["self", "other"] ["self", "other"] (defScope s_Page_eq) := ⟨rfl, rfl, rfl, by decide +kernel, rfl, by decide +kernel, by decide +kernel⟩
-- Page_eq cells []
abbrev s_law_pot : Stmt := topS 22
theorem sc_law_pot : FnScope ["script", "cell"] ["script"] (defScope s_law_pot) := ⟨rfl, rfl, rfl, by decide +kernel, rfl, by decide +kernel, by decide +kernel⟩
-- law_pot cells []
abbrev s_law_draw : Stmt := topS 23
theorem sc_law_draw : FnScope ["pot", "many", "cells", "at", "cell"] ["pot", "many"] (defScope s_law_draw) := ⟨rfl, rfl, rfl, by decide +kernel, rfl, by decide +kernel, by decide +kernel⟩
-- law_draw cells []
abbrev s_law_writer : Stmt := topS 24
theorem sc_law_writer : FnScope ["pot", "drawn"] ["pot"] (defScope s_law_writer) := ⟨rfl, rfl, rfl, by decide +kernel, rfl, by decide +kernel, by decide +kernel⟩
-- law_writer cells []
abbrev s_law_numbers : Stmt := topS 25
theorem sc_law_numbers : FnScope ["fields", "numbers", "pair"] ["fields"] (defScope s_law_numbers) := ⟨rfl, rfl, rfl, by decide +kernel, rfl, by decide +kernel, by decide +kernel⟩
-- law_numbers cells []
abbrev s_law_page : Stmt := topS 26
theorem sc_law_page : FnScope ["fields", "page", "pair"] ["fields"] (defScope s_law_page) := ⟨rfl, rfl, rfl, by decide +kernel, rfl, by decide +kernel, by decide +kernel⟩
-- law_page cells []
abbrev s_law : Stmt := topS 27
theorem sc_law : FnScope ["script", "pot", "fields", "other", "at", "page", "mate", "data", "back", "k", "row"] ["script"] (defScope s_law) := ⟨rfl, rfl, rfl, by decide +kernel, rfl, by decide +kernel, by decide +kernel⟩
-- law cells ['pot']
end Toy
set_option Elab.async false
set_option linter.all false
set_option maxRecDepth 100000
set_option maxHeartbeats 2000000
namespace Toy
open PySem PySem.Spec PyProof.Rows L2
/-! ### heaps -/
theorem same_upd {H : Hp} {p : Addr} {o : HO} (h : H p = none) : Same H (upd H p o) := fun b x e => by
  rw [upd_ne (ne_of_none e h)]
  exact e
/-! ### moments as numbers -/
def mo (n : Nat) : List (Str × V) := [("_number", .int n)]
def MoAt (C : Addr) (H : Hp) (p : Addr) (n : Nat) : Prop := n < 2147483648 ∧ ∃ dx, H p = some (.ins C dx (mo n))
theorem MoAt.same {C : Addr} {H H' : Hp} {p : Addr} {n : Nat} (h : MoAt C H p n) (s : Same H H') : MoAt C H' p n := ⟨h.1, h.2.imp fun _ e => s _ _ e⟩
def vi (k : Nat) : V := .int k
def bits (n : Nat) : List Nat := (List.range 31).filter fun k => n.testBit k
/-- what the text says of the class and the names -/
structure Txt (K : PySem.W.Frag) (mg : Str → Option Value) (C : Addr) : Prop where
  cl : Cls K C
  nN : NoAttr K C "_number"
  mgC : mg "Moment" = some (.ref C)
  len : mg "len" = none
  int : mg "int" = none
  bool : mg "bool" = none
  isi : mg "isinstance" = none
  range : mg "range" = none
  sum : mg "sum" = none
  list : mg "list" = none
  cC : PySem.W.findIn K (.ref C) "__class__" = some (some (.builtin "object.__class__"))
  cG : PySem.W.specialIn K (.builtin "object.__class__") "__get__" = some (some (.builtin "getset_descriptor.__get__"))
  cT : PySem.W.takesIn K (.builtin "object.__class__") = some true
  cM : PySem.W.mroIn K C (.type "object") = some true
  kCC : PySem.W.kitOne K (.ref C) (.ref C) = some true
  kIC : PySem.W.kitOne K (.type "int") (.ref C) = some false
  lw : ∃ t, mg "LAST_WRITER" = some (.int 30 t)
  ln : ∃ t, mg "LAST_NUMBER" = some (.int 2147483647 t)
section
variable {P : Program} {w : World} {K : PySem.W.Frag} {mg : Str → Option Value} {base : Heap} {C : Addr}
/-! ### is_whole -/
def spWhole : Sp := fun vs H Q _ => ∃ i : Int, vs = [.int i] ∧ Q (.bl true) H
theorem ok_is_whole {f : Addr} {fd : FuncData} (F : Fun K "is_whole" "is_whole" s_is_whole f fd) (T : Txt K mg C) : FnOk P w K mg base CX0 1 f fd ["value"] spWhole := by
  refine F.ok sc_is_whole (fun vs H Q E h => ?_) (fun cdv A outer s H vs Q E hr h => ?_)
  · obtain ⟨i, rfl, _⟩ := h
    rfl
  · obtain ⟨i, rfl, q⟩ := h
    refine ⟨_, pss_one (ps_ret (pe_and (pe_callB call_isi (by rfl) T.isi (by decide +kernel) (pa_cons (pv 0) (pa_cons (pe_bltn (v := .ty "int") (by rfl) T.int (by decide +kernel) rfl) pa_nil)))
      (pe_one (pe_not (pe_callB call_isi (by rfl) T.isi (by decide +kernel) (pa_cons (pv 0) (pa_cons (pe_bltn (v := .ty "bool") (by rfl) T.bool (by decide +kernel) rfl) pa_nil))))))), ?_⟩
    refine ⟨_, rfl, .int i, .ty "int", _, _, true, rfl, .ty _, .base (.int i), kit_ty (by decide +kernel), true, rfl, iteT ?_⟩
    exact ⟨_, rfl, .int i, .ty "bool", _, _, false, rfl, .ty _, .base (.int i), kit_ty (by decide +kernel), false, rfl, q⟩
/-! ### is_between -/
def spBetw : Sp := fun vs H Q _ => ∃ i l h : Int, vs = [.int i, .int l, .int h] ∧ Q (.bl (decide (l ≤ i ∧ i ≤ h))) H
theorem ok_is_between {f fW : Addr} {fd fdW : FuncData} (F : Fun K "is_between" "is_between" s_is_between f fd) (T : Txt K mg C) (FW : Fun K "is_whole" "is_whole" s_is_whole fW fdW) (bW : L2.Binds K fdW ["value"] []) (gW : mg "is_whole" = some (.ref fW)) :
    FnOk P w K mg base CX0 2 f fd ["value", "low", "high"] spBetw := by
  have GW : FnOk P w K mg base CX0 1 fW fdW ["value"] spWhole := ok_is_whole FW T
  refine F.ok sc_is_between (fun vs H Q E h => ?_) (fun cdv A outer s H vs Q E hr h => ?_)
  · obtain ⟨i, l, h, rfl, _⟩ := h
    rfl
  · obtain ⟨i, l, u, rfl, q⟩ := h
    refine ⟨_, pss_one (ps_ret (pe_and (pe_call GW hr (by rfl) gW FW.kp bW .nil pass0 (pa_cons (pv 0) pa_nil)) (pe_one (pe_chain op_le op_le (pv 1) (pv 0) (pv 2))))), ?_⟩
    refine ⟨_, rfl, i, rfl, true, rfl, iteT ?_⟩
    refine ⟨_, rfl, _, rfl, l, i, rfl, rfl, decide (l ≤ i), rfl, ?_⟩
    by_cases h1 : l ≤ i
    · rw [decide_eq_true h1]
      refine iteT ⟨_, rfl, i, u, rfl, rfl, ?_⟩
      have e : decide (l ≤ i ∧ i ≤ u) = decide (i ≤ u) := by by_cases h2 : i ≤ u <;> simp [h1, h2]
      rw [e] at q
      exact q
    · rw [decide_eq_false h1]
      have e : decide (l ≤ i ∧ i ≤ u) = false := by simp [h1]
      rw [e] at q
      exact iteF q
end
end Toy
set_option Elab.async false
set_option linter.all false
set_option maxRecDepth 100000
set_option maxHeartbeats 2000000
namespace Toy
open PySem PySem.Spec PyProof.Rows L2
/-! ### the mathematics of bits -/
theorem bits_succ (p : Nat → Bool) (i : Nat) : (List.range (i + 1)).filter p = if p i = true then (List.range i).filter p ++ [i] else (List.range i).filter p := by
  rw [List.range_succ, List.filter_append]
  by_cases h : p i = true
  · rw [if_pos h, List.filter_cons_of_pos h]
    rfl
  · rw [if_neg h, List.filter_cons_of_neg h, List.filter_nil, List.append_nil]
theorem mod_succ (n i : Nat) : n % 2 ^ (i + 1) = n % 2 ^ i + (if n.testBit i = true then 2 ^ i else 0) := by
  rw [Nat.pow_succ, Nat.mod_mul, Nat.testBit_eq_decide_div_mod_eq]
  by_cases h : n / 2 ^ i % 2 = 1
  · rw [h, if_pos (by decide), Nat.mul_one]
  · have h0 : n / 2 ^ i % 2 = 0 := by omega
    rw [h0, if_neg (by decide), Nat.mul_zero]
theorem sum_bits (n : Nat) : ∀ i : Nat, (((List.range i).filter fun k => n.testBit k).map fun k => ((2 ^ k : Nat) : Int)).sum = ((n % 2 ^ i : Nat) : Int)
  | 0 => by simp [Nat.mod_one]
  | i + 1 => by
    have ih := sum_bits n i
    rw [bits_succ, mod_succ]
    by_cases h : n.testBit i = true
    · rw [if_pos h, if_pos h, List.map_append, List.sum_append, ih]
      simp
    · rw [if_neg h, if_neg h, ih]
      simp
theorem mem_bits {n k : Nat} : k ∈ bits n ↔ k < 31 ∧ n.testBit k = true := by
  unfold bits
  rw [List.mem_filter, List.mem_range]
theorem inV_vi (k : Nat) (ws : List Nat) : inV (vi k) (ws.map vi) = decide (k ∈ ws) := by
  unfold inV
  induction ws with
  | nil => rfl
  | cons a r ih =>
    rw [List.map_cons, List.any_cons, ih]
    show ((((a : Nat) : Int) == ((k : Nat) : Int)) || decide (k ∈ r)) = decide (k ∈ a :: r)
    by_cases h : a = k
    · subst h
      simp
    · have h1 : (((a : Nat) : Int) == ((k : Nat) : Int)) = false := by
        simp
        omega
      rw [h1]
      have h2 : k ≠ a := fun e => h e.symm
      simp [h2]
theorem flat_vi (ws : List Nat) : (ws.map vi).all flatV = true := by
  rw [List.all_map]
  simp [Function.comp, vi, flatV]
theorem filter_bits_mem (n : Nat) (i : Nat) (hi : i ≤ 31) : (List.range i).filter (fun k => decide (k ∈ bits n)) = (List.range i).filter (fun k => n.testBit k) := by
  apply List.filter_congr
  intro k hk
  have h : k < 31 := Nat.lt_of_lt_of_le (List.mem_range.mp hk) hi
  by_cases b : n.testBit k = true
  · rw [b]
    exact decide_eq_true (mem_bits.mpr ⟨h, b⟩)
  · have b' : n.testBit k = false := by simpa using b
    rw [b']
    exact decide_eq_false fun z => b (mem_bits.mp z).2
theorem bit_test (n k : Nat) : ((Builtin.bitAnd ((n : Int) / 2 ^ k) 1 : Int) != 0) = n.testBit k := by
  have e : ((n : Int) / 2 ^ k) = ((n / 2 ^ k : Nat) : Int) := by simp
  rw [e, bitAnd_pp (Int.natCast_nonneg _) (by decide), Int.toNat_natCast]
  show (((n / 2 ^ k &&& 1 : Nat) : Int) != 0) = _
  rw [Nat.testBit_eq_decide_div_mod_eq, Nat.and_one_is_mod]
  by_cases h : n / 2 ^ k % 2 = 1
  · rw [h]
    decide
  · have h0 : n / 2 ^ k % 2 = 0 := by omega
    rw [h0]
    decide
section
variable {P : Program} {w : World} {K : PySem.W.Frag} {mg : Str → Option Value} {base : Heap} {C : Addr}
/-! ### is_writer_number -/
def spIsW : Sp := fun vs H Q _ => ∃ i : Int, vs = [.int i] ∧ Q (.bl (decide (0 ≤ i ∧ i ≤ 30))) H
theorem ok_is_writer {f fB : Addr} {fd fdB : FuncData} (F : Fun K "is_writer_number" "is_writer_number" s_is_writer_number f fd) (T : Txt K mg C) (GB : FnOk P w K mg base CX0 2 fB fdB ["value", "low", "high"] spBetw) (kB : PySem.W.keepIn K (.ref fB) = true)
    (bB : L2.Binds K fdB ["value", "low", "high"] []) (gB : mg "is_between" = some (.ref fB)) : FnOk P w K mg base CX0 3 f fd ["value"] spIsW := by
  obtain ⟨t, lw⟩ := T.lw
  refine F.ok sc_is_writer_number (fun vs H Q E h => ?_) (fun cdv A outer s H vs Q E hr h => ?_)
  · obtain ⟨i, rfl, _⟩ := h
    rfl
  · obtain ⟨i, rfl, q⟩ := h
    refine ⟨_, pss_one (ps_ret (pe_call GB hr (by rfl) gB kB bB .nil pass0 (pa_cons (pv 0) (pa_cons pe_int (pa_cons (pe_glob (v := .int 30) (by rfl) lw ⟨_, rfl⟩) pa_nil))))), ?_⟩
    exact ⟨_, rfl, i, 0, 30, rfl, q⟩
/-! ### _number_of -/
/-- what stands on the right: a moment or a writer, with its number -/
def Arg (C : Addr) (H : Hp) (y : V) (m : Nat) : Prop := m < 2147483648 ∧ ((∃ b, y = .ref b ∧ MoAt C H b m) ∨ ∃ k : Nat, y = vi k ∧ k ≤ 30 ∧ m = 2 ^ k)
end
end Toy
set_option Elab.async false
set_option linter.all false
set_option maxRecDepth 100000
set_option maxHeartbeats 2000000
namespace Toy
open PySem PySem.Spec PyProof.Rows L2
/-! ### the pot of drawn numbers -/
def Pot (H : Hp) (p c : Addr) : Prop := ∃ (cs : List Int) (at_ : Nat) (x : Int), H p = some (.lst [.ref c, .int at_, .int x]) ∧ H c = some (.lst (cs.map V.int)) ∧ cs.length ≤ 63 ∧ 0 ≤ x ∧ x < 2147483647
theorem Pot.ne {H : Hp} {p c : Addr} (h : Pot H p c) : p ≠ c := by
  obtain ⟨cs, a, x, h1, h2, _⟩ := h
  intro e
  rw [e, h2] at h1
  injection h1 with h1
  injection h1 with h1
  cases cs with
  | nil => cases h1
  | cons y r => injection h1 with z; cases z
theorem Pot.same {H H' : Hp} {p c : Addr} (h : Pot H p c) (s : Same H H') : Pot H' p c := by
  obtain ⟨cs, a, x, h1, h2, r⟩ := h
  exact ⟨cs, a, x, s _ _ h1, s _ _ h2, r⟩
/-- all but the pot stays -/
def Kept (p c : Addr) (H H' : Hp) : Prop := ∀ b o, b ≠ p → b ≠ c → H b = some o → H' b = some o
theorem Kept.rfl' {p c : Addr} {H : Hp} : Kept p c H H := fun _ _ _ _ e => e
theorem Kept.trans {p c : Addr} {H H1 H2 : Hp} (a : Kept p c H H1) (b : Kept p c H1 H2) : Kept p c H H2 := fun x o n m e => b x o n m (a x o n m e)
theorem Kept.of_same {p c : Addr} {H H' : Hp} (s : Same H H') : Kept p c H H' := fun b o _ _ e => s b o e
theorem ixN_nat {n k : Nat} (h : k < n) : ixN n (k : Int) = some k := by
  unfold ixN
  rw [if_pos (Int.natCast_nonneg _), if_pos (by omega), Int.toNat_natCast]
theorem cut63 {xs : List V} (h : xs.length ≤ 63) : cutV xs none (some 63) = xs := by
  unfold cutV
  rw [HT.sIx_none, show HT.sIx xs.length xs.length (some 63) = min 63 xs.length from HT.sIx_nat xs.length xs.length 63, List.drop_zero, Nat.sub_zero]
  exact List.take_of_length_le (by omega)
section
variable {P : Program} {w : World} {K : PySem.W.Frag} {mg : Str → Option Value} {base : Heap} {C : Addr}
def spPot (K : PySem.W.Frag) : Sp := fun vs H Q _ => ∃ (a : Addr) (ns : List Int), vs = [.ref a] ∧ SqL K H a (ns.map V.int) ∧ ns.length ≤ 63 ∧ ∀ H' p c, Same H H' → H p = none → H c = none → Pot H' p c → Q (.ref p) H'
theorem ok_pot {f : Addr} {fd : FuncData} (F : Fun K "_law_pot" "_law_pot" s_law_pot f fd) (mi : mg "int" = none) : FnOk P w K mg base CX0 1 f fd ["script"] (spPot K) := by
  refine F.ok sc_law_pot (fun vs H Q E h => ?_) (fun cdv A outer s H vs Q E hr h => ?_)
  · obtain ⟨a, ns, rfl, _⟩ := h
    rfl
  · obtain ⟨a, ns, rfl, hS, hn, q⟩ := h
    refine ⟨_, pss_one (ps_ret (pe_lst (pa_cons (pe_lc (own := [("cell", 1)]) (g := gName 1) (tt := tYes) rfl sc_law_pot.nd (pi_list (pe_slice sl_list (pv 0) po_none (po_some pe_int)))
        (blkOk_by (own := [("cell", 1)]) (N := ["script", "cell"]) (sc := defScope s_law_pot) (by decide +kernel)) (fun _ _ _ _ _ => pg_name (i := 1) sc_law_pot.nd rfl (Or.inl rfl))
        (fun _ _ _ _ _ => pts_nil) (fun _ _ _ _ _ => pe_callTy call_int1 (by rfl) mi (by decide +kernel) (pa_cons (pv 1) pa_nil))) (pa_cons pe_int (pa_cons pe_int pa_nil))))), ?_⟩
    refine ⟨.ref a, rfl, 63, rfl, a, _, rfl, hS, fun b nb => ?_⟩
    rw [cut63 (by rw [List.length_map]; exact hn)]
    refine ⟨b, rfl, ⟨_, SqL.of upd_same⟩, fun D hD => ?_⟩
    have hb : (upd H b (.lst (ns.map V.int))) b = some (.lst (ns.map V.int)) := upd_same
    have s1 : Same H (upd H b (.lst (ns.map V.int))) := same_upd nb
    have hD0 : H D = none := s1.free hD
    refine lc_list (K := K) (a := b) (xs := ns.map V.int) (fun i H2 => Same (upd H b (.lst (ns.map V.int))) H2 ∧ H2 D = some (.lst ((ns.take i).map V.int))) ⟨same_upd hD, upd_same⟩ (fun i H2 _ z => SqL.of (z.1 _ _ hb)) ?_ ?_
    · rintro i x H2 hx ⟨s2, e2⟩
      obtain ⟨n, hi, rfl⟩ : ∃ n, ns[i]? = some n ∧ x = V.int n := by
        rw [List.getElem?_map] at hx
        cases e : ns[i]? with
        | none => rw [e] at hx; cases hx
        | some n => rw [e] at hx; exact ⟨n, rfl, (Option.some.inj hx).symm⟩
      refine ⟨rfl, ?_⟩
      refine ⟨_, rfl, .inl ⟨n, rfl, _, e2, ?_, fun d o e => ?_, ?_⟩⟩
      · rw [List.length_map, List.length_take]
        exact Nat.lt_of_le_of_lt (Nat.le_trans (Nat.min_le_right _ _) hn) (by decide)
      · rw [upd_ne (ne_of_none e hD)]
        exact s2 _ _ e
      · rw [upd_same, List.take_add_one, hi, List.map_append]
        rfl
    · rintro H2 ⟨s2, e2⟩
      rw [List.length_map, List.take_length] at e2
      refine ⟨(by show 3 ≤ sizeLine; decide), fun p np => ?_⟩
      have s3 : Same H (upd H2 p (.lst [.ref D, .int 0, .int 7])) := s1.trans (s2.trans (same_upd np))
      have hDp : D ≠ p := ne_of_none e2 np
      refine q _ p D s3 ((s1.trans s2).free np) hD0 ⟨ns, 0, 7, upd_same, by rw [upd_ne hDp]; exact e2, hn, by decide, by decide⟩
/-! ### a draw -/
def spDraw : Sp := fun vs H Q _ => ∃ (p c : Addr) (m : Int), vs = [.ref p, .int m] ∧ Pot H p c ∧ 0 < m ∧ m ≤ 1000000000000 ∧ ∀ H' r, Pot H' p c → Kept p c H H' → 0 ≤ r → r < m → Q (.int r) H'
theorem fmod_lt {a m : Int} (h : 0 < m) : 0 ≤ a.fmod m ∧ a.fmod m < m := by
  rw [Int.fmod_eq_emod_of_nonneg _ (Int.le_of_lt h)]
  exact ⟨Int.emod_nonneg _ (by omega), Int.emod_lt_of_pos _ h⟩
def nxt (x cell : Int) : Int := (x * 48271 + cell * 69621 + 11).fmod 2147483647
theorem ok_draw {f : Addr} {fd : FuncData} (F : Fun K "_law_draw" "_law_draw" s_law_draw f fd) (mi : mg "int" = none) (ml : mg "len" = none) : FnOk P w K mg base CX0 1 f fd ["pot", "many"] spDraw := by
  refine F.ok sc_law_draw (fun vs H Q E h => ?_) (fun cdv A outer s H vs Q E hr h => ?_)
  · obtain ⟨p, c, m, rfl, _⟩ := h
    rfl
  · obtain ⟨p, c, m, rfl, hP, hm, hm2, q⟩ := h
    refine ⟨_, pss_cons (ps_set (i := 2) sc_law_draw.nd rfl (Or.inl rfl) (pe_ix ix_list (pv 0) pe_int (fun _ _ => rfl)))
      (pss_cons (ps_set (i := 3) sc_law_draw.nd rfl (Or.inl rfl) (pe_ix ix_list (pv 0) pe_int (fun _ _ => rfl)))
      (pss_cons (ps_set (i := 4) sc_law_draw.nd rfl (Or.inl rfl) pe_int)
      (C8.pss_cut (ps_if (pt_cmpR op_lt (pv 3) (pe_callB call_len_seq (by rfl) ml PySem.boot_len (pa_cons (pv 2) pa_nil)) (nomark _))
        (pss_cons (ps_set (i := 4) sc_law_draw.nd rfl (Or.inl rfl) (pe_ix ix_list (pv 2) (pv 3) (fun _ _ => rfl)))
        (pss_cons (ps_if (pt_cmpR op_ge (pv 4) (pe_op op_pow pe_int pe_int) (nomark _))
          (pss_cons (ps_asg (pe_op op_fdivW (pv 4) (pv 1)) (pg_sub (pv 2) (pv 3) set_list))
          (pss_one (ps_ret (pe_op op_modN (pe_callTy call_int1 (by rfl) mi (by decide +kernel) (pa_cons (pv 4) pa_nil)) (pv 1))))) pss_nil)
        (pss_one (ps_asg (pe_op op_add (pv 3) pe_int) (pg_sub (pv 0) pe_int set_list))))) pss_nil)
      (pss_cons (ps_asg (pe_op op_modN (pe_callTy call_int1 (by rfl) mi (by decide +kernel) (pa_cons (pe_op op_add (pe_op op_add (pe_op op_mul (pe_ix ix_list (pv 0) pe_int (fun _ _ => rfl)) pe_int) (pe_op op_mul (pv 4) pe_int)) pe_int) pa_nil)) pe_int) (pg_sub (pv 0) pe_int set_list))
      (pss_one (ps_ret (pe_op op_modN (pe_callTy call_int1 (by rfl) mi (by decide +kernel) (pa_cons (pe_op op_add (pe_op op_fdivN (pe_op op_mul (pe_ix ix_list (pv 0) pe_int (fun _ _ => rfl)) pe_int) pe_int) (pe_ix ix_list (pv 0) pe_int (fun _ _ => rfl))) pa_nil)) (pv 1)))))))), ?_⟩
    have pc : p ≠ c := hP.ne
    obtain ⟨cs, at_, x, h1, h2, hl, x0, x1⟩ := hP
    refine ⟨_, rfl, p, _, _, _, rfl, rfl, SqL.of h1, rfl, ?_⟩
    refine ⟨_, rfl, p, _, _, _, rfl, rfl, SqL.of h1, rfl, ?_⟩
    refine ⟨fun σ' H' => ∃ (a : Nat) (cell : Int), σ' = [some (.ref p), some (.int m), some (.ref c), some (.int at_), some (.int cell)] ∧ H' p = some (.lst [.ref c, .int a, .int x]) ∧ H' c = some (.lst (cs.map V.int)) ∧ Kept p c H H', ?_, ?_⟩
    · refine ⟨_, rfl, _, rfl, c, _, rfl, .inl (SqL.of h2), _, _, rfl, rfl, _, rfl, ?_⟩
      rw [List.length_map]
      refine ite2 (fun hlt => ?_) (fun _ => ⟨at_, 0, rfl, h1, h2, Kept.rfl'⟩)
      have hi : at_ < cs.length := by have := of_decide_eq_true hlt; omega
      have hg : (cs.map V.int)[at_]? = some (.int cs[at_]) := by rw [List.getElem?_map, List.getElem?_eq_getElem hi]; rfl
      refine ⟨_, rfl, _, rfl, c, _, _, _, rfl, rfl, SqL.of h2, atI_nat hg, ?_⟩
      refine ⟨_, rfl, 10, 18, rfl, rfl, ⟨by decide, by decide, by decide⟩, _, _, rfl, rfl, _, rfl, ?_⟩
      refine ite2 (fun _ => ?_) (fun _ => ?_)
      · refine ⟨_, rfl, _, rfl, _, _, rfl, rfl, wide_div (b := 42) hm (by omega) (by decide) (by decide), _, rfl, _, rfl, c, _, _, at_, rfl, rfl, h2, ixN_nat (by rw [List.length_map]; exact hi), ?_⟩
        refine ⟨_, rfl, .inl ⟨_, rfl, _, rfl, _, _, rfl, rfl, by omega, ?_⟩⟩
        have f := fmod_lt (a := cs[at_]) hm
        refine q _ _ ⟨cs.set at_ (cs[at_] / m), at_, x, by rw [upd_ne pc]; exact h1, ?_, by rw [List.length_set]; exact hl, x0, x1⟩ (fun b o n1 n2 e => ?_) f.1 f.2
        · rw [upd_same, List.map_set]
        · rw [upd_ne n2]
          exact e
      · refine ⟨_, rfl, _, _, rfl, rfl, _, rfl, p, _, _, 1, rfl, rfl, h1, rfl, ?_⟩
        refine ⟨at_ + 1, cs[at_], rfl, ?_, by rw [upd_ne pc.symm]; exact h2, fun b o n1 n2 e => ?_⟩
        · rw [upd_same]
          rfl
        · rw [upd_ne n1]
          exact e
    · rintro σ' H1 ⟨a, cell, rfl, g1, g2, kp⟩
      refine ⟨_, rfl, p, _, _, _, rfl, rfl, SqL.of g1, rfl, _, _, rfl, rfl, .inl ⟨by omega, by omega⟩, _, rfl, _, _, rfl, rfl, .inr ⟨by decide, by decide⟩, _, _, rfl, rfl, _, _, rfl, rfl, .inl ⟨_, rfl, _, _, rfl, rfl, (show (2147483647 : Int) ≠ 0 by decide), _, rfl, p, _, _, 2, rfl, rfl, g1, rfl, ?_⟩⟩
      have fy : 0 ≤ nxt x cell ∧ nxt x cell < 2147483647 := fmod_lt (by decide)
      have g3 : (upd H1 p (.lst ([V.ref c, V.int a, V.int x].set 2 (V.int (nxt x cell))))) p = some (.lst [V.ref c, V.int a, V.int (nxt x cell)]) := upd_same
      refine ⟨_, rfl, p, _, _, _, rfl, rfl, SqL.of g3, rfl, _, _, rfl, rfl, .inl ⟨by omega, by omega⟩, _, _, rfl, rfl, ⟨by decide, by decide⟩, _, rfl, p, _, _, _, rfl, rfl, SqL.of g3, rfl, _, _, rfl, rfl, .inl ⟨_, rfl, _, rfl, _, _, rfl, rfl, by omega, ?_⟩⟩
      have f := fmod_lt (a := (nxt x cell * 16807).fdiv 128 + nxt x cell) hm
      refine q _ _ ⟨cs, a, nxt x cell, g3, by rw [upd_ne pc.symm]; exact g2, hl, fy.1, fy.2⟩ (fun b o n1 n2 e => ?_) f.1 f.2
      rw [upd_ne n1]
      exact kp b o n1 n2 e
end
end Toy
set_option Elab.async false
set_option linter.all false
set_option maxRecDepth 100000
set_option maxHeartbeats 2000000
namespace Vx
open PySem PySem.Spec PyProof.Rows L2
section
variable {X : Cx} {CX : CXT} {k : Nat} {C f : Addr} {sp : Sp} {E : XK} {pins : List (Addr × Obj)} {σ : L2.St} {H : Hp} {s : Shared} {Q : VK} {A : Around}
/-- a def called somewhere below the running body -/
theorem run_in {us : List Value} {vs : List V} (sb : Sub X k A) (F : FnR X.prog X.w X.K X.mg X.base CX k f sp) (hx : Passes CX X E) (I : L2.Inv X pins σ H s) (r : Vals vs us) (h : sp vs H Q E) :
    codeAny (model X.prog X.w) A (.call (.ref f) ⟨us, []⟩) (fun r s' => match r with | .ok (.ret v) => EP X pins σ Q v s' | .ok _ => False | .error e => X.xe e s') s := by
  have e0 : Env0 X.prog X.w X.K X.mg X.base A X.stack s H := by
    have e := I.env0
    exact ⟨by rw [sb.fr]; exact e.frames, e.mod, e.bs, e.bsz, e.funs, e.frf, e.hok, e.bare⟩
  refine codeAny_mono (F A X.stack s H us vs Q E sb.room e0 r h) fun r s' hq => ?_
  cases r with
  | error e => exact hx pins σ H s e s' I hq
  | ok fl =>
    cases fl with
    | ret u => exact I.after hq
    | next => exact False.elim hq
    | brk => exact False.elim hq
    | cont => exact False.elim hq
end
section
variable {prog : Program} {w : World} {A : Around} {E : Value → Shared → Prop} {s : Shared} {K : PySem.W.Frag} {x C L f : Addr} {h₀ : Heap} {m : Str → Option Value} {ox : Obj} {od : Option Obj} {b : Value}
open PySem.W in
theorem ne_body (hu : A.units < cLine) (X : K.In s.heap) (I : InstAt s.heap x ox C od) (he : findIn K (.ref C) "__eq__" = some (some (.ref f))) (hf : isFn K (.ref f) = true) {Q : Value → Shared → Prop}
    (h : wpAny (model prog w) A (call (.ref f) [.ref x, b]) (fun v s' => ∃ r, v = .bool r ∧ Q (.bool (!r)) s') E s) :
    wpAny (model prog w) A (Builtin.«object.__ne__» ⟨[.ref x, b], []⟩) (fun fin s' => ∃ v, fin = .done (.ret v) ∧ Q v s') E s := by
  unfold Builtin.«object.__ne__»
  obtain ⟨hh, g, d, t, os⟩ := s
  have st : wpAny (model prog w) A (callSpecialIfBound? (.ref x) "__eq__" [b]) (fun r s' => ∃ v, r = some (.bool v) ∧ Q (.bool (!v)) s') E ⟨hh, g, d, t, os⟩ :=
    ifBound_K X I he hf (wpAny_mono h (fun v s' hv => by obtain ⟨r, rfl, q⟩ := hv; exact ⟨r, rfl, q⟩) fun _ _ z => z)
  repeat (first | with_reducible refine wpAny_cRoomFor hu ?_ | with_reducible refine wpAny_bind (wpAny_mono st (fun r s' hr => ?_) fun _ _ z => z) | wp_step)
  obtain ⟨v, rfl, q⟩ := hr
  refine wpAny_bind (wpAny_truthy_bool ?_)
  exact wpAny_pure ⟨_, rfl, q⟩
open PySem.W in
theorem ne_K {Q : Value → Shared → Prop} {tb : Value} (hu : A.units + 1 < cLine) (F : Fr h₀ L s.heap m) (X₀ : K.In h₀) (I : InstAt s.heap x ox C od) (hb : Looks (model prog w) s.heap (typeOf b) tb) (hn : notFirst K C tb = true)
    (hs : findIn K (.ref C) "__ne__" = some (some (.builtin "object.__ne__"))) (he : findIn K (.ref C) "__eq__" = some (some (.ref f))) (hf : isFn K (.ref f) = true) (ho : mroIn K C (.type "object") = some true)
    (h : wpAny (model prog w) A.in1 (call (.ref f) [.ref x, b]) (fun v s' => ∃ r, v = .bool r ∧ Q (.bool (!r)) s') E s) : wpAny (model prog w) A (richCompare .NotEq (.ref x) b) Q E s := by
  have X := X₀.keeps F.keep
  have hu0 : A.units < cLine := Nat.lt_trans (Nat.lt_succ_self _) hu
  have cb : wpAny (model prog w) A (call (.builtin "object.__ne__") ([.ref x] ++ [b])) (fun v s' => ∃ r, v = .bool r ∧ Q v s') E s := by
    refine wpAny_call (codeAny_call_builtin PySem.F.cmp_object.ne.plain PySem.F.cmpEntry_ne (check_slot PySem.F.cmpKind_ne PySem.F.cmpSplit_ne (I.type.andThen (looks_mroIn X ho)) (PySem.F.cmpArgs_ne _ _) ?_))
    have z : wpAny (model prog w) A.in1 (Builtin.«object.__ne__» ⟨[.ref x, b], []⟩) (fun fin s' => ∃ v, fin = .done (.ret v) ∧ ∃ r, v = .bool r ∧ Q v s') E s :=
      ne_body (Q := fun v s' => ∃ r, v = .bool r ∧ Q v s') (A := A.in1) hu X I he hf (wpAny_mono h (fun v s' hv => by obtain ⟨r, rfl, q⟩ := hv; exact ⟨r, rfl, _, rfl, q⟩) fun _ _ z => z)
    refine wpAny_mono z (fun fin s' hv => ?_) fun _ _ y => y
    obtain ⟨v, rfl, r, rfl, q⟩ := hv
    exact ⟨r, rfl, q⟩
  have one : wpAny (model prog w) A (tryCompare (.ref x) "__ne__" b) (fun r s' => ∃ v, r = some v ∧ Q v s') E s := by
    unfold tryCompare
    refine wpAny_bind ?_
    simp only [callSpecialIfBound?, bindSpecialIfBound?]
    refine wpAny_holding (wpAny_bind (wpAny_bind (wpAny_bind (I.type.here ((looks_findIn X hs).here ?_)))))
    simp only [PySem.F.cmp_object.ne.bind]
    refine wpAny_bind (wpAny_askSetting (wpAny_ite ?_))
    have fin : wpAny (model prog w) A (call (.builtin "object.__ne__") ([.ref x] ++ [b]) >>= fun v => pure (some v)) (fun r s' => ∃ v, r = some (.bool v) ∧ Q (.bool v) s') E s :=
      wpAny_bind (wpAny_mono cb (fun v s' h' => by obtain ⟨r, rfl, q⟩ := h'; exact wpAny_pure ⟨r, rfl, q⟩) fun _ _ h' => h')
    have fin2 := wpAny_mono fin (Q' := fun r s' => wpAny (model prog w) A (match r with | some .notImplemented => pure none | none => pure none | some v => pure (some v)) (fun r s' => ∃ v, r = some v ∧ Q v s') E s') (fun r s' h' => by obtain ⟨v, rfl, q⟩ := h'; exact wpAny_pure ⟨_, rfl, q⟩) fun _ _ z => z
    split
    · exact wpAny_bind (wpAny_pure (wpAny_pure fin2))
    · exact wpAny_tryCatch (wpAny_bind (wpAny_pure (wpAny_pure fin2)))
  unfold richCompare
  simp only [oneThing_ref]
  refine wpAny_holding (wpAny_bind (wpAny_cRoomFor hu0 ?_))
  refine wpAny_bind (I.type.here (wpAny_bind (hb.here ?_)))
  split
  · rename_i q
    have e : subIn K tb (.ref C) = some false := by
      rcases Bool.or_eq_true_iff.mp hn with e | e
      · rw [beq_iff_eq.mp e] at q; simp at q
      · exact beq_iff_eq.mp e
    refine wpAny_bind ((looks_subIn X e).here ?_)
    simp only [Bool.false_eq_true, if_false]
    refine wpAny_bind (wpAny_mono one (fun r s' z => ?_) fun _ _ e => e)
    obtain ⟨v, rfl, hq⟩ := z
    exact wpAny_pure hq
  · refine wpAny_bind (wpAny_pure ?_)
    simp only [Bool.false_eq_true, if_false]
    refine wpAny_bind (wpAny_mono one (fun r s' z => ?_) fun _ _ e => e)
    obtain ⟨v, rfl, hq⟩ := z
    exact wpAny_pure hq
end
section
variable {X : Cx} {CX : CXT} {k : Nat} {C f : Addr} {sp : Sp} {E : XK}
/-- o != y: not o == y, by the own == -/
def rNeOwn (C : Addr) (sp : Sp) (E : XK) : R2 := fun x y H Q => (∃ a dx fs, x = .ref a ∧ H a = some (.ins C dx fs)) ∧ (∃ b dy gs, y = .ref b ∧ H b = some (.ins C dy gs)) ∧ sp [x, y] H (fun v H' => ∃ r, v = .bl r ∧ Q (.bl (!r)) H') E
theorem op_neOwn (nf : PySem.W.notFirst X.K C (.ref C) = true) (hs : PySem.W.findIn X.K (.ref C) "__ne__" = some (some (.builtin "object.__ne__"))) (he : PySem.W.findIn X.K (.ref C) "__eq__" = some (some (.ref f))) (fn : PySem.W.isFn X.K (.ref f) = true)
    (ho : PySem.W.mroIn X.K C (.type "object") = some true) (F : FnR X.prog X.w X.K X.mg X.base CX k f sp) (hr : Room (k + 1) X.A) (hx : Passes CX X E) : OpR X (compareOp .NotEq) (rNeOwn C sp E) := by
  intro pins s σ H x y v u Q I rx ry hq
  obtain ⟨⟨a, dx, fs, rfl, ha⟩, ⟨b, dy, gs, rfl, hb⟩, hsp⟩ := hq
  have ev : v = Value.ref a := rx
  have eu : u = Value.ref b := ry
  have sb : Sub X k X.A.in1 := (⟨hr, rfl⟩ : Sub X (k + 1) X.A).in1
  have cl := wpAny_call (run_in (us := [v, u]) (vs := [V.ref a, V.ref b]) sb F hx I (.cons rx (.cons ry .nil)) hsp)
  subst ev eu
  obtain ⟨mA, J, _⟩ := ins_get I.hok ha
  obtain ⟨od, J, _⟩ := J.look
  obtain ⟨mB, J', _⟩ := ins_get I.hok hb
  obtain ⟨od', J', _⟩ := J'.look
  obtain ⟨m, hF⟩ := I.fr
  show wpAny (model X.prog X.w) X.A (richCompare .NotEq (.ref a) (.ref b)) (EP X pins σ Q) X.xe s
  refine ne_K (hu_of hr) hF I.ok.mod.kin J J'.type nf hs he fn ho (wpAny_mono cl (fun v s' hv => ?_) fun _ _ z => z)
  obtain ⟨v', H', I', rv, r, rfl, q⟩ := hv
  exact ⟨r, rv, .bl (!r), H', I', rfl, q⟩
end
end Vx
set_option Elab.async false
set_option linter.all false
set_option maxRecDepth 100000
set_option maxHeartbeats 2000000
/-! own errors: a base's __init__ said by the base's name; isinstance of what was caught; makings that may raise, within a try -/
namespace Vx
open PySem PySem.Spec PyProof.Rows L2
/-- the class at D, above an own error, whose __init__ is ValueError's -/
structure UpC (K : PySem.W.Frag) (D : Addr) (mc : Value) : Prop where
  rd : ClX.CRead K D mc
  ini : PySem.W.findCls K (.ref D) mc "__init__" = some (.val (.builtin "ValueError.__init__"))
def tUp (K : PySem.W.Frag) (D : Addr) (ta : TE) (t : TA) : TE := fun σ H Q => ta σ H fun x H1 => x = .ref D ∧ tVeI K t σ H1 Q
section
variable {X : Cx} {D : Addr} {mc : Value} {o e : Expr} {es : List Expr} {pos apos : Pos} {ta : TE} {t : TA} {pl : Sem Bool}
theorem pe_up (hO : PE X o ta) (U : UpC X.K D mc) (hA : PA X (e :: es) t) (h1 : starEach (e :: es) X.env = (false, eval e X.env) :: starEach es X.env := by rfl) (h2 : (backTo pos (starEach es X.env)).any (·.1) = false := by rfl)
    (hW : eval (.Call (.Attribute o "__init__" apos) (e :: es) [] pos) X.env = (do
      let ov ← eval o X.env
      standAt apos.atName
      let (f, first) ← holding [ov] (getMethod ov "__init__" pl)
      callWith pos f first (backTo pos (starEach (e :: es) X.env)) (backToKw pos (keywordEach [] X.env))) := by rfl) : PE X (.Call (.Attribute o "__init__" apos) (e :: es) [] pos) (tUp X.K D ta t) := by
  refine ⟨fun pn s σ H Q I h => PySem.W.methodCall_KW (pl := pl) (thn (hO.run pn s σ H _ I h) fun u s1 hh => ?_) hW⟩
  obtain ⟨x, H1, I1, rx, ex, q⟩ := hh
  subst ex
  obtain rfl : u = Value.ref D := rx
  refine PySem.W.method_cls I1.kIn U.rd.ga (PySem.W.cls_value I1.kIn U.rd.rd U.ini rfl ?_)
  refine PyProof.Rows.callWith_method1 (thn (hA.run pos pn _ σ H1 _ (I1.tok _) q) fun us s2 hh => ?_) h1 h2
  obtain ⟨vs, H2, I2, r2, a, C, ws, ev, hl, T, ea, q2⟩ := hh
  subst ev
  cases r2 with
  | @cons _ u0 _ ur ra rb =>
    obtain rfl : u0 = Value.ref a := ra
    exact oinit_ok T I2 ea (by rw [← Paired.length rb, sizeLine_eq]; omega) fun s3 J => ⟨.non, H2, J, rfl, q2⟩
end
/-! isinstance(e, c), e a caught error with its dict -/
structure ExcX (K : PySem.W.Frag) (C : Addr) : Prop where
  cl : (PySem.W.clsIn K C).isSome = true
  ga : PySem.W.findIn K (.ref C) "__getattribute__" = some (some (.builtin "BaseException.__getattribute__"))
  gt : PySem.W.findIn K (.ref C) "__getattr__" = some none
  sb : PySem.W.subIn K (.ref C) (.type "BaseException") = some true
  ac : PySem.W.findIn K (.ref C) "__class__" = some (some (.builtin "object.__class__"))
  gn : PySem.W.specialIn K (.builtin "object.__class__") "__get__" = some (some (.builtin "getset_descriptor.__get__"))
  tk : PySem.W.takesIn K (.builtin "object.__class__") = some true
  mo : PySem.W.mroIn K C (.type "object") = some true
def rIsX (K : PySem.W.Frag) (C a : Addr) (cls : Value) (d : Option Addr) : List V → Hp → VK → Prop := fun xs H Q => cls = .ref C ∧ ∃ (dd : Addr) (fs : List (Str × V)) (c : V) (cv : Value) (b : Bool), d = some dd ∧ H dd = some (.xd fs) ∧ xs = [.ref a, c] ∧ (∀ u, RelV c u → u = cv) ∧ PySem.W.kitOne K (.ref C) cv = some b ∧ Q (.bl b) H
theorem call_isX {X : Cx} {a C : Addr} {oe : Obj} {cls : Value} {d : Option Addr} {pn : List (Addr × Obj)} (T : ExcX X.K C) (hz : Zc cls d oe) (hf : ∃ vs, oe.data = .fields vs) : CallR (X.suite a ((a, oe) :: pn)) (.builtin "isinstance") (rIsX X.K C a cls d) := by
  intro pins s σ H xs us Q I r h
  obtain ⟨ec, dd, fs, c, cv, b, ed, hd, ex, hcv, e, q⟩ := h
  subst ec ed ex
  cases r with
  | cons rx rr =>
    cases rr with
    | cons rt rn =>
      cases rn
      cases rx
      obtain rfl := hcv _ rt
      obtain ⟨hget, _⟩ := I.pin (a, oe) (List.mem_append.mpr (.inl List.mem_cons_self))
      obtain ⟨vs, hv⟩ := hf
      have hx : ObjOk X.prog X.w H s.heap dd (.xd fs) := I.hok dd _ hd
      obtain ⟨mA, hns, _⟩ := hx
      obtain ⟨od, ho, _⟩ := lookIn_ns hns
      have J : PySem.W.InstAt s.heap a oe C (some od) := ⟨hget, hz.1, by unfold PySem.W.notCls; rw [hv] <;> rfl, by rw [hz.2]; exact ho⟩
      exact PySem.W.kia_one (PySem.W.kitx_exc T.cl T.ga T.gt T.sb T.ac T.gn T.tk T.mo) I.kIn J e (fun z => nomatch z) fun tk => ⟨.bl b, H, I.kept (t' := tk) fun _ _ z => z, rfl, q⟩
/-! makings and static calls that may raise, the wish at the caller's slots -/
section
variable {X : Cx} {CX : CXT} {k n : Nat} {f C : Addr} {fd : FuncData} {ps ks : List Str} {sp : Sp} {E : L2.St → XK} {x : Str} {p pos : Pos} {e : Expr} {es : List Expr} {kws : List Keyword} {t tk : TA} {g : List Value → List Value → List Value} {gV : List V → List V → List V}
def tMakeNS (C : Addr) (n m : Nat) (sp : Sp) (gV : List V → List V → List V) (E : L2.St → XK) (t tk : TA) : TE := fun σ H Q => t σ H fun vs H1 => tk σ H1 fun zs H2 => vs.length = n ∧ zs.length = m ∧
  ∀ y dy, H2 y = none → H2 dy = none → dy ≠ y → sp (gV (.ref y :: vs) zs) (upd (upd H2 dy (.own y)) y (.ins C dy [])) (fun v H3 => v = .non ∧ Q (.ref y) H3) (E σ)
theorem run_makeNS {pn : List (Addr × Obj)} {σ : L2.St} {H : Hp} {s : Shared} {Q : VK} {us ws : List Value} {vs zs : List V} (M : Mk X.K C f) (F : FnOk X.prog X.w X.K X.mg X.base CX k f fd ps sp) (hr : Room (k + 1) X.A) (hb : KBn X.K fd ps (n + 1) ks g gV)
    (hx : PassesAt CX X σ (E σ)) (I : L2.Inv X pn σ H s) (ru : Vals vs us) (rw_ : Vals zs ws) (e1 : vs.length = n) (e2 : zs.length = ks.length)
    (h : ∀ y dy, H y = none → H dy = none → dy ≠ y → sp (gV (.ref y :: vs) zs) (upd (upd H dy (.own y)) y (.ins C dy [])) (fun v H3 => v = .non ∧ Q (.ref y) H3) (E σ)) : wpAny (model X.prog X.w) X.A (call (.ref C) us (ks.zip ws)) (EP X pn σ Q) X.xe s := by
  have J : L2.Inv X pn σ _ _ := L2.Inv.made (C := C) I
  have r1 : Vals (V.ref (s.heap.objs.size + 1) :: vs) (Value.ref (s.heap.objs.size + 1) :: us) := Paired.cons rfl ru
  have z1 : (Value.ref (s.heap.objs.size + 1) :: us).length = n + 1 := r1.length.symm.trans (congrArg (· + 1) e1)
  have z2 : ws.length = ks.length := rw_.length.symm.trans e2
  have hq := h (s.heap.objs.size + 1) s.heap.objs.size (I.hok.fresh (Nat.le_succ _)) (I.hok.fresh Nat.le.refl) (Nat.ne_of_lt (Nat.lt_succ_self _))
  have run := F.run _ X.stack _ _ ⟨Value.ref (s.heap.objs.size + 1) :: us, ks.zip ws⟩ (g (Value.ref (s.heap.objs.size + 1) :: us) ws) _ _ (E σ) (hr.make C us (ks.zip ws)) (J.env0.make C us (ks.zip ws)) (hb.to _ _ ws J.kIn z1 z2) (hb.rel r1 rw_) hq
  refine wpAny_call (make_map (f := f) I.kIn M.makes M.init (beq_iff_eq.mp M.fn) (codeAny_mono run fun r s2 z => ?_))
  match r, z with
  | .error er, z => exact hx pn _ _ er s2 J z
  | .ok (.ret u), z =>
    obtain ⟨v, H3, J3, rv, ev, q⟩ := J.after z
    subst ev
    exact ⟨rv, .ref (s.heap.objs.size + 1), H3, J3, rfl, q⟩
theorem pe_makeNS (M : Mk X.K C f) (F : FnOk X.prog X.w X.K X.mg X.base CX k f fd ps sp) (hr : Room (k + 1) X.A) (hg : Gl X x) (hm : X.mg x = some (.ref C)) (hb : KBn X.K fd ps (n + 1) ks g gV) (hx : ∀ σ, PassesAt CX X σ (E σ)) (hA : PA X (e :: es) t) (hK : PK X kws tk)
    (h1 : (backToKw pos (keywordEach kws X.env)).all (·.1.isSome) = true := by rfl) (h2 : (backToKw pos (keywordEach kws X.env)).filterMap (·.1) = ks := by rfl) (h3 : (x == ("__debug__" : Str)) = false := by decide)
    (h4 : starEach (e :: es) X.env = (false, eval e X.env) :: starEach es X.env := by rfl) (h5 : ((backTo pos (starEach (e :: es) X.env)).any (·.1) || (backToKw pos (keywordEach kws X.env)).any (·.1.isNone)) = false := by rfl) :
    PE X (.Call (.Name x p) (e :: es) kws pos) (tMakeNS C n ks.length sp gV E t tk) := by
  refine ⟨fun pn s σ H Q I h => wpAny_Call_Name_kw (ld_glob I hg hm ?_ h3)⟩
  refine PySem.W.callWith_KW (h₀ := X.base) I.ok.mod.kin M.kp h1 (thn (hA.run pos pn s σ H _ I h) fun us s1 hh => ?_) h5 h4
  obtain ⟨vs, H1, I1, r1, q⟩ := hh
  refine thn (hK.run pos pn s1 σ H1 _ I1 q) fun ws s2 hh => ?_
  obtain ⟨zs, H2, I2, r2, l1, l2, q2⟩ := hh
  refine ⟨I2.kIn, ?_⟩
  rw [h2]
  exact run_makeNS M F hr hb (hx σ) I2 r1 r2 l1 l2 q2
end
section
variable {X : Cx} {CX : CXT} {k : Nat} {f C : Addr} {sp : Sp} {E : L2.St → XK}
theorem run_fnRS {pn : List (Addr × Obj)} {σ : L2.St} {H : Hp} {s : Shared} {Q : VK} {us : List Value} {vs : List V} (F : FnR X.prog X.w X.K X.mg X.base CX k f sp) (hr : Room k X.A) (hx : PassesAt CX X σ (E σ)) (I : L2.Inv X pn σ H s) (r : Vals vs us) (h : sp vs H Q (E σ)) :
    wpAny (model X.prog X.w) X.A (call (.ref f) us) (EP X pn σ Q) X.xe s := by
  refine wpAny_call (codeAny_mono (F X.A X.stack s H us vs Q (E σ) hr I.env0 r h) fun z s2 y => ?_)
  match z, y with
  | .error er, y => exact hx pn H s er s2 I y
  | .ok (.ret u), y => exact I.after y
theorem run_makeRS {pn : List (Addr × Obj)} {σ : L2.St} {H : Hp} {s : Shared} {Q : VK} {us : List Value} {vs : List V} (M : Mk X.K C f) (F : FnR X.prog X.w X.K X.mg X.base CX k f sp) (hr : Room (k + 1) X.A) (hx : PassesAt CX X σ (E σ)) (I : L2.Inv X pn σ H s) (r : Vals vs us)
    (h : ∀ y dy, H y = Option.none → H dy = Option.none → dy ≠ y → sp (V.ref y :: vs) (upd (upd H dy (.own y)) y (.ins C dy [])) (fun v H2 => v = .non ∧ Q (.ref y) H2) (E σ)) : wpAny (model X.prog X.w) X.A (call (.ref C) us) (EP X pn σ Q) X.xe s := by
  have J : L2.Inv X pn σ _ _ := L2.Inv.made (C := C) I
  have r1 : Vals (V.ref (s.heap.objs.size + 1) :: vs) (Value.ref (s.heap.objs.size + 1) :: us) := Paired.cons rfl r
  have hq := h (s.heap.objs.size + 1) s.heap.objs.size (I.hok.fresh (Nat.le_succ _)) (I.hok.fresh Nat.le.refl) (Nat.ne_of_lt (Nat.lt_succ_self _))
  refine wpAny_call (make_map (f := f) I.kIn M.makes M.init (beq_iff_eq.mp M.fn) (codeAny_mono (F _ X.stack _ _ (Value.ref (s.heap.objs.size + 1) :: us) _ _ (E σ) (hr.make C us []) (J.env0.make C us []) r1 hq) fun z s2 y => ?_))
  match z, y with
  | .error er, y => exact hx pn _ _ er s2 J y
  | .ok (.ret u), y =>
    obtain ⟨v, H3, J3, rv, ev, q⟩ := J.after y
    subst ev
    exact ⟨rv, .ref (s.heap.objs.size + 1), H3, J3, rfl, q⟩
def tMethE (C : Addr) (m : Str) (sp : Sp) (E : L2.St → XK) (ta : TE) (t : TA) : TE := fun σ H Q => ta σ H fun x H1 => ∃ a dx fs, x = .ref a ∧ H1 a = some (.ins C dx fs) ∧ fs.lookup m = Option.none ∧ t σ H1 fun vs H2 => sp (.ref a :: vs) H2 Q (E σ)
theorem pe_methE {o e : Expr} {es : List Expr} {m : Str} {pos apos : Pos} {ta : TE} {t : TA} {pl : Sem Bool} (hO : PE X o ta) (c : Cls X.K C) (hm : Meth X.K C m f) (F : FnR X.prog X.w X.K X.mg X.base CX k f sp) (hr : Room k X.A) (hx : ∀ σ, PassesAt CX X σ (E σ)) (hA : PA X (e :: es) t)
    (h1 : starEach (e :: es) X.env = (false, eval e X.env) :: starEach es X.env := by rfl) (h2 : (backTo pos (starEach es X.env)).any (·.1) = false := by rfl)
    (hW : eval (.Call (.Attribute o m apos) (e :: es) [] pos) X.env = (do
      let ov ← eval o X.env
      standAt apos.atName
      let (f, first) ← holding [ov] (getMethod ov m pl)
      callWith pos f first (backTo pos (starEach (e :: es) X.env)) (backToKw pos (keywordEach [] X.env))) := by rfl) : PE X (.Call (.Attribute o m apos) (e :: es) [] pos) (tMethE C m sp E ta t) := by
  refine ⟨fun pn s σ H Q I h => PySem.W.methodCall_KW (pl := pl) (thn (hO.run pn s σ H _ I h) fun u s1 hh => ?_) hW⟩
  obtain ⟨x, H1, I1, rx, a, dx, fs, ex, ea, l, q⟩ := hh
  subst ex
  obtain rfl : u = Value.ref a := rx
  refine getmeth_ok I1 ea c hm l (PySem.W.callWith_K (first := [.ref a]) (h₀ := X.base) I.ok.mod.kin hm.kp (thn (hA.run pos pn s1 σ H1 _ I1 q) fun us s2 hh => ?_) h1 h2)
  obtain ⟨vs, H2, I2, r, q2⟩ := hh
  exact ⟨I2.kIn, run_fnRS (us := .ref a :: us) (vs := .ref a :: vs) F hr (hx σ) I2 (.cons rfl r) q2⟩
def tSMethE (C : Addr) (sp : Sp) (E : L2.St → XK) (ta : TE) (t : TA) : TE := fun σ H Q => ta σ H fun x H1 => x = .ref C ∧ t σ H1 fun vs H2 => sp vs H2 Q (E σ)
theorem pe_smethE {o e : Expr} {es : List Expr} {m : Str} {g q : Addr} {mc : Value} {pos apos : Pos} {ta : TE} {t : TA} {pl : Sem Bool} (hO : PE X o ta) (cr : ClX.CRead X.K C mc) (c : SMet X.K C mc m q g) (F : FnR X.prog X.w X.K X.mg X.base CX k g sp) (hr : Room k X.A) (hx : ∀ σ, PassesAt CX X σ (E σ)) (hA : PA X (e :: es) t)
    (h1 : starEach (e :: es) X.env = (false, eval e X.env) :: starEach es X.env := by rfl) (h2 : (backTo pos (starEach es X.env)).any (·.1) = false := by rfl)
    (hW : eval (.Call (.Attribute o m apos) (e :: es) [] pos) X.env = (do
      let ov ← eval o X.env
      standAt apos.atName
      let (f, first) ← holding [ov] (getMethod ov m pl)
      callWith pos f first (backTo pos (starEach (e :: es) X.env)) (backToKw pos (keywordEach [] X.env))) := by rfl) : PE X (.Call (.Attribute o m apos) (e :: es) [] pos) (tSMethE C sp E ta t) := by
  refine ⟨fun pn s σ H Q I h => PySem.W.methodCall_KW (pl := pl) (thn (hO.run pn s σ H _ I h) fun u s1 hh => ?_) hW⟩
  obtain ⟨x, H1, I1, rx, ex, y⟩ := hh
  subst ex
  obtain rfl : u = Value.ref C := rx
  obtain ⟨rest, hp⟩ := c.rc
  refine PySem.W.method_cls I1.kIn cr.ga (PySem.W.cls_bind I1.kIn cr.rd c.at_ (wpAny_call (PySem.W.sm_get (s := { s1 with toks := s1.toks + 1 }) I1.kIn hp (PySem.W.handed_on rfl ?_))))
  have I2 : L2.Inv X pn σ H1 { s1 with toks := s1.toks + 1 } := I1.tok _
  refine PySem.W.callWith_K (h₀ := X.base) I2.ok.mod.kin c.kp (thn (hA.run pos pn _ σ H1 _ I2 y) fun us s3 hh => ?_) h1 h2
  obtain ⟨vs, H2, I3, rv, q2⟩ := hh
  exact ⟨I3.kIn, run_fnRS F hr (hx σ) I3 rv q2⟩
end
end Vx
set_option Elab.async false
set_option linter.all false
set_option maxRecDepth 100000
set_option maxHeartbeats 4000000
namespace L2
open PySem PySem.Spec PyProof.Rows
theorem FnOk.imp' {P : Program} {w : World} {K : PySem.W.Frag} {mg : Str → Option Value} {base : Heap} {CX : CXT} {k : Nat} {f : Addr} {fd : FuncData} {ps : List Str} {sp sp' : Sp} (F : FnOk P w K mg base CX k f fd ps sp) (h : ∀ vs H Q E, sp' vs H Q E → sp vs H Q E) : FnOk P w K mg base CX k f fd ps sp' :=
  ⟨fun vs H Q E z => F.len vs H Q E (h _ _ _ _ z), fun A outer s H args us vs Q E hr e0 b r z => F.run A outer s H args us vs Q E hr e0 b r (h _ _ _ _ z)⟩
end L2
namespace Toy
open PySem PySem.Spec PyProof.Rows L2
theorem TyX.same {K : PySem.W.Frag} {H H' : Hp} {v : V} {t : Value} (h : TyX K H v t) (s : Same H H') : TyX K H' v t := by
  cases h with
  | base h =>
    cases h with
    | non => exact .base .non
    | bl x => exact .base (.bl x)
    | int x => exact .base (.int x)
    | str x => exact .base (.str x)
    | flt x => exact .base (.flt x)
    | lst e => exact .base (.lst (s _ _ e))
    | frz e => exact .base (.frz (s _ _ e))
    | tup e => exact .base (.tup (s _ _ e))
    | dK e => exact .base (.dK (s _ _ e))
    | dT e => exact .base (.dT (s _ _ e))
    | ins e cl a b c d => exact .base (.ins (s _ _ e) cl a b c d)
  | byt b => exact .byt b
  | set e => exact .set (s _ _ e)
  | kList e c => exact .kList e c
  | kTuple e c => exact .kTuple e c
  | kDict e c => exact .kDict e c
  | fTuple e => exact .fTuple (s _ _ e)
  | fDict e => exact .fDict (s _ _ e)
/-- what a value is as a number: a number, or none (a truth value is none) -/
inductive NV (K : PySem.W.Frag) (H : Hp) : V → Option Int → Prop
  | int (i : Int) : NV K H (.int i) (some i)
  | bl (b : Bool) : NV K H (.bl b) none
  | oth {v : V} {t : Value} (h : TyX K H v t) (k : PySem.W.kitOne K t (.type "int") = some false) (kb : PySem.W.kitOne K t (.type "bool") = some false) (n : ∀ i, v ≠ .int i) : NV K H v none
theorem NV.same {K : PySem.W.Frag} {H H' : Hp} {v : V} {o : Option Int} (h : NV K H v o) (s : Same H H') : NV K H' v o := by
  cases h with
  | int i => exact .int i
  | bl b => exact .bl b
  | oth h k kb n => exact .oth (TyX.same h s) k kb n
theorem NV.non {K : PySem.W.Frag} {H : Hp} : NV K H .non none := .oth (t := .type "NoneType") (.base .non) (kit_ty (by decide +kernel)) (kit_ty (by decide +kernel)) (fun _ z => nomatch z)
theorem NV.str {K : PySem.W.Frag} {H : Hp} (z : Str) : NV K H (.str z) none := .oth (t := .type "str") (.base (.str z)) (kit_ty (by decide +kernel)) (kit_ty (by decide +kernel)) (fun _ z => nomatch z)
theorem NV.lst {K : PySem.W.Frag} {H : Hp} {a : Addr} {xs : List V} (h : H a = some (.lst xs)) : NV K H (.ref a) none := .oth (t := .type "list") (.base (.lst h)) (kit_ty (by decide +kernel)) (kit_ty (by decide +kernel)) (fun _ z => nomatch z)
theorem NV.tup {K : PySem.W.Frag} {H : Hp} {a : Addr} {xs : List V} (h : H a = some (.tup xs)) : NV K H (.ref a) none := .oth (t := .type "tuple") (.base (.tup h)) (kit_ty (by decide +kernel)) (kit_ty (by decide +kernel)) (fun _ z => nomatch z)
def btw (o : Option Int) (l h : Int) : Bool := match o with
  | some i => decide (l ≤ i ∧ i ≤ h)
  | none => false
structure NmI (mg : Str → Option Value) : Prop where
  isi : mg "isinstance" = none
  int : mg "int" = none
  bool : mg "bool" = none
section
variable {P : Program} {w : World} {K : PySem.W.Frag} {mg : Str → Option Value} {base : Heap}
def spWholeG (K : PySem.W.Frag) : Sp := fun vs H Q _ => ∃ (v : V) (o : Option Int), vs = [v] ∧ NV K H v o ∧ Q (.bl o.isSome) H
theorem ok_wholeG {f : Addr} {fd : FuncData} (F : Fun K "is_whole" "is_whole" s_is_whole f fd) (T : NmI mg) : FnOk P w K mg base CX0 1 f fd ["value"] (spWholeG K) := by
  refine F.ok sc_is_whole (fun vs H Q E h => ?_) (fun cdv A outer s H vs Q E hr h => ?_)
  · obtain ⟨v, o, rfl, _⟩ := h
    rfl
  · obtain ⟨v, o, rfl, hv, q⟩ := h
    refine ⟨_, pss_one (ps_ret (pe_and (pe_callB call_isi (by rfl) T.isi (by decide +kernel) (pa_cons (pv 0) (pa_cons (pe_bltn (v := .ty "int") (by rfl) T.int (by decide +kernel) rfl) pa_nil)))
      (pe_one (pe_not (pe_callB call_isi (by rfl) T.isi (by decide +kernel) (pa_cons (pv 0) (pa_cons (pe_bltn (v := .ty "bool") (by rfl) T.bool (by decide +kernel) rfl) pa_nil))))))), ?_⟩
    cases hv with
    | int i => exact ⟨_, rfl, .int i, .ty "int", _, _, true, rfl, .ty _, .base (.int i), kit_ty (by decide +kernel), true, rfl, iteT ⟨_, rfl, .int i, .ty "bool", _, _, false, rfl, .ty _, .base (.int i), kit_ty (by decide +kernel), false, rfl, q⟩⟩
    | bl b => exact ⟨_, rfl, .bl b, .ty "int", _, _, true, rfl, .ty _, .base (.bl b), kit_ty (by decide +kernel), true, rfl, iteT ⟨_, rfl, .bl b, .ty "bool", _, _, true, rfl, .ty _, .base (.bl b), kit_ty (by decide +kernel), true, rfl, q⟩⟩
    | oth ht k kb n => exact ⟨_, rfl, v, .ty "int", _, _, false, rfl, .ty _, ht, k, false, rfl, iteF q⟩
def spBetwG (K : PySem.W.Frag) : Sp := fun vs H Q _ => ∃ (v : V) (o : Option Int) (l h : Int), vs = [v, .int l, .int h] ∧ NV K H v o ∧ Q (.bl (btw o l h)) H
theorem NV.some_eq {H : Hp} {v : V} {i : Int} (h : NV K H v (some i)) : v = .int i := by
  cases h
  rfl
theorem ok_betwG {f fW : Addr} {fd fdW : FuncData} (F : Fun K "is_between" "is_between" s_is_between f fd) (GW : FnOk P w K mg base CX0 1 fW fdW ["value"] (spWholeG K)) (kW : PySem.W.keepIn K (.ref fW) = true) (bW : L2.Binds K fdW ["value"] []) (gW : mg "is_whole" = some (.ref fW)) :
    FnOk P w K mg base CX0 2 f fd ["value", "low", "high"] (spBetwG K) := by
  refine F.ok sc_is_between (fun vs H Q E h => ?_) (fun cdv A outer s H vs Q E hr h => ?_)
  · obtain ⟨v, o, l, h, rfl, _⟩ := h
    rfl
  · obtain ⟨v, o, l, u, rfl, hv, q⟩ := h
    refine ⟨_, pss_one (ps_ret (pe_and (pe_call GW hr (by rfl) gW kW bW .nil pass0 (pa_cons (pv 0) pa_nil)) (pe_one (pe_chain op_le op_le (pv 1) (pv 0) (pv 2))))), ?_⟩
    refine ⟨_, rfl, v, o, rfl, hv, o.isSome, rfl, ?_⟩
    cases o with
    | none => exact iteF q
    | some i =>
      obtain rfl := hv.some_eq
      refine iteT ⟨_, rfl, _, rfl, l, i, rfl, rfl, decide (l ≤ i), rfl, ?_⟩
      by_cases h1 : l ≤ i
      · rw [decide_eq_true h1]
        refine iteT ⟨_, rfl, i, u, rfl, rfl, ?_⟩
        have e : btw (some i) l u = decide (i ≤ u) := by by_cases h2 : i ≤ u <;> simp [btw, h1, h2]
        rw [e] at q
        exact q
      · rw [decide_eq_false h1]
        have e : btw (some i) l u = false := by simp [btw, h1]
        rw [e] at q
        exact iteF q
def spIsWG (K : PySem.W.Frag) : Sp := fun vs H Q _ => ∃ (v : V) (o : Option Int), vs = [v] ∧ NV K H v o ∧ Q (.bl (btw o 0 30)) H
theorem ok_isWG {f fB : Addr} {fd fdB : FuncData} (F : Fun K "is_writer_number" "is_writer_number" s_is_writer_number f fd) (GB : FnOk P w K mg base CX0 2 fB fdB ["value", "low", "high"] (spBetwG K)) (kB : PySem.W.keepIn K (.ref fB) = true)
    (bB : L2.Binds K fdB ["value", "low", "high"] []) (gB : mg "is_between" = some (.ref fB)) (lw : ∃ t, mg "LAST_WRITER" = some (.int 30 t)) : FnOk P w K mg base CX0 3 f fd ["value"] (spIsWG K) := by
  obtain ⟨tk, lw⟩ := lw
  refine F.ok sc_is_writer_number (fun vs H Q E h => ?_) (fun cdv A outer s H vs Q E hr h => ?_)
  · obtain ⟨v, o, rfl, _⟩ := h
    rfl
  · obtain ⟨v, o, rfl, hv, q⟩ := h
    refine ⟨_, pss_one (ps_ret (pe_call GB hr (by rfl) gB kB bB .nil pass0 (pa_cons (pv 0) (pa_cons pe_int (pa_cons (pe_glob (v := .int 30) (by rfl) lw ⟨_, rfl⟩) pa_nil))))), ?_⟩
    exact ⟨_, rfl, v, o, 0, 30, rfl, hv, q⟩
theorem whole_int {f : Addr} {fd : FuncData} (F : FnOk P w K mg base CX0 1 f fd ["value"] (spWholeG K)) : FnOk P w K mg base CX0 1 f fd ["value"] spWhole := F.imp' fun vs H Q E h => by
  obtain ⟨i, rfl, q⟩ := h
  exact ⟨_, _, rfl, .int i, q⟩
theorem betw_int {f : Addr} {fd : FuncData} (F : FnOk P w K mg base CX0 2 f fd ["value", "low", "high"] (spBetwG K)) : FnOk P w K mg base CX0 2 f fd ["value", "low", "high"] spBetw := F.imp' fun vs H Q E h => by
  obtain ⟨i, l, u, rfl, q⟩ := h
  exact ⟨_, _, l, u, rfl, .int i, q⟩
theorem isW_int {f : Addr} {fd : FuncData} (F : FnOk P w K mg base CX0 3 f fd ["value"] (spIsWG K)) : FnOk P w K mg base CX0 3 f fd ["value"] spIsW := F.imp' fun vs H Q E h => by
  obtain ⟨i, rfl, q⟩ := h
  exact ⟨_, _, rfl, .int i, q⟩
end
end Toy
set_option Elab.async false
set_option linter.all false
set_option maxRecDepth 100000
set_option maxHeartbeats 4000000
namespace Gd
open PySem PySem.Spec PyProof.Rows L2
/-! promises that are kept where no repr is under way: what repr of a list or a tuple asks -/
abbrev Calm0 (A : Around) : Prop := A.guards = some []
def FnG (P : Program) (w : World) (K : PySem.W.Frag) (mg : Str → Option Value) (base : Heap) (CX : CXT) (k : Nat) (f : Addr) (sp : Sp) : Prop :=
  ∀ (A : Around) (outer : List Env) (s : Shared) (H : Hp) (us : List Value) (vs : List V) (Q : VK) (E : XK), Calm0 A → Room k A → Env0 P w K mg base A outer s H → Vals vs us → sp vs H Q E →
    codeAny (model P w) A (.call (.ref f) ⟨us, []⟩) (CR CX outer P w H s Q E) s
section
variable {P : Program} {w : World} {K : PySem.W.Frag} {mg : Str → Option Value} {base : Heap} {k : Nat} {f : Addr} {fd : FuncData} {x qual : Str} {st : Stmt} {N ps : List Str} {sp : Sp}
theorem FnG.of {CX : CXT} (F : FnR P w K mg base CX k f sp) : FnG P w K mg base CX k f sp := fun A o s H us vs Q E _ hr e r h => F A o s H us vs Q E hr e r h
/-- a def by its body, run where no repr is under way -/
theorem fnG_ok (F : Fun K x qual st f fd) (S : FnScope N ps (defScope st)) (B : L2.Binds K fd ps []) (len : ∀ vs H Q E, sp vs H Q E → vs.length = ps.length)
    (body : ∀ (cdv : Value) (A : Around) (outer : List Env) (s : Shared) (H : Hp) (vs : List V) (Q : VK) (E : XK), Calm0 A → Room k (A.deeper (envOfC qual (defScope st) s.heap.objs.size f cdv)) → sp vs H Q E →
      ∃ t, PSs (cxOf CX0 P w K mg base N qual (defScope st) f cdv A outer s H E).nox (defBody st) t ∧ t { nx := fun _ G => Q .non G, rt := Q } (start N vs) H) : FnG P w K mg base CX0 (k + 1) f sp := by
  obtain ⟨oc, od, kV, doc, pm, an, cdv, ct, osl, rfl, lk, hcd⟩ := F.ex
  intro A outer s H us vs Q E g room e r h
  have n1 : vs.length = ps.length := len vs H Q E h
  have inH : K.In s.heap := e.mod.kin.keeps (fun b o z => (e.bs b o z).left)
  have nolim : s.heap.NoLimit := e.mod.nolimit.keeps (fun b o z => (e.bs b o z).left)
  have bd := B s us inH (by rw [List.append_nil, ← r.length]; exact n1)
  rw [List.append_nil] at bd
  have kinds : ∀ q ∈ ps.zip us, (defScope st).names.lookup q.1 = some .local ∨ ((defScope st).names.lookup q.1 = some .cell ∧ ((cellsFrom (s.heap.objs.size + 1) (defScope st).names []).lookup q.1).isSome = true) := by
    rintro ⟨n, v⟩ hq
    cases S.par n (List.of_mem_zip hq).1 with
    | inl z => exact Or.inl z
    | inr z => exact Or.inr ⟨z, PySem.W.cellsFrom_some _ _ _ (Or.inl z)⟩
  obtain ⟨t, ht, q⟩ := body cdv A outer s H vs Q E g (room.deeper _) h
  apply codeAny_call_function room.depth (inH _ _ lk) rfl S.co S.gen rfl (PySem.W.codeRec_of inH hcd) (bd _ _ _ _ _)
  apply wpAny_newFunctionEnv_cells S.kind kinds
  intro env he s1 z
  subst he
  refine And.intro (nolim.keeps z.toInCall.keep) (codeAny_func ?_)
  have I := inv_start (CX := CX0) (E := E) S room.hd e n1 r z
  apply wpAny_mono (ht.nox.run [] s1 (start N vs) H _ I q) (fun fl s2 hs => ?_) (fun _ _ hs => hs)
  cases fl with
  | ret u => obtain ⟨v, σ2, H2, J, rv, z2⟩ := hs; exact ⟨v, H2, J.os, J.bare, J.base, J.hok, rv, z2⟩
  | next => obtain ⟨σ2, H2, J, z2⟩ := hs; exact ⟨V.non, H2, J.os, J.bare, J.base, J.hok, rfl, z2⟩
  | brk => exact hs.elim fun _ z2 => z2.elim fun _ z3 => z3.2.elim
  | cont => exact hs.elim fun _ z2 => z2.elim fun _ z3 => z3.2.elim
end
section
variable {X : Cx} {CX : CXT} {k : Nat} {f : Addr} {sp : Sp} {E : XK} {x : Str} {p pos : Pos} {e : Expr} {es : List Expr} {t : TA}
theorem pe_callG (F : FnG X.prog X.w X.K X.mg X.base CX k f sp) (g : Calm0 X.A) (hr : Room k X.A) (hg : Gl X x) (hm : X.mg x = some (.ref f)) (hk : PySem.W.keepIn X.K (.ref f) = true) (hx : Passes CX X E)
    (ha : PA X (e :: es) t) (hdb : (x == ("__debug__" : Str)) = false := by decide) (he : starEach (e :: es) X.env = (false, eval e X.env) :: starEach es X.env := by rfl) (hpl : (backTo pos (starEach es X.env)).any (·.1) = false := by rfl) :
    PE X (.Call (.Name x p) (e :: es) [] pos) (tCall sp [] E t) := by
  constructor
  intro pins s σ H Q I h
  apply wpAny_Call_Name_kw (ld_glob I hg hm ?_ hdb)
  apply PySem.W.callWith_K (h₀ := X.base) I.ok.mod.kin hk (thn (ha.run pos pins s σ H _ I h) fun us s1 ⟨vs, H1, I1, r, q⟩ => ⟨I1.kIn, ?_⟩) he hpl
  have q : sp vs H1 Q E := by
    have z : sp (vs ++ []) H1 Q E := q
    rwa [List.append_nil] at z
  refine wpAny_call (codeAny_mono (F _ _ _ _ _ _ _ _ g hr I1.env0 r q) fun z s2 hq => ?_)
  match z, hq with
  | .error u, hq => exact hx pins σ H1 s1 u s2 I1 hq
  | .ok (.ret u), hq => exact I1.after hq
end
/-! repr of data -/
def okShow : PyData → Bool
  | .int i => decide (i.natAbs.log2 < 1920)
  | d => d.showable && !d.hasDict && decide (d.depth ≤ 8) && decide (d.shown.length ≤ 1000000)
theorem show_of {d : PyData} (n : ∀ i, d ≠ .int i) (h : okShow d = true) : d.showable = true ∧ d.hasDict = false ∧ d.depth ≤ 8 ∧ d.shown.length ≤ sizeLine := by
  cases d with
  | int i => exact (n i rfl).elim
  | _ =>
    simp only [okShow, Bool.and_eq_true, decide_eq_true_eq, Bool.not_eq_true'] at h
    exact ⟨h.1.1.1, h.1.1.2, h.1.2, Nat.le_trans h.2 (by decide)⟩
theorem call_reprD {X : Cx} (g : Calm0 X.A) (hu : X.A.units + 64 < cLine) : CallR X (.builtin "repr") (fun xs H Q => ∃ v d, xs = [v] ∧ Dp X.K H v d ∧ okShow d = true ∧ Q (.str d.shown) H) := by
  intro pins s σ H xs us Q I r ⟨v, d, e, hd, ok, q⟩
  subst e
  obtain ⟨u, rfl, ru⟩ := vals1 r
  cases hd with
  | non => cases ru; exact PySem.P.repr_of_none ⟨.str _, H, I.tok _, ⟨_, rfl⟩, q⟩
  | bl b => cases ru; exact PySem.P.repr_of_bool ⟨.str _, H, I.tok _, ⟨_, rfl⟩, q⟩
  | int i => obtain ⟨t, rfl⟩ := ru; exact PySem.P.repr_of_int (of_decide_eq_true ok) ⟨.str _, H, I.tok _, ⟨_, rfl⟩, q⟩
  | str z => obtain ⟨t, rfl⟩ := ru; exact PySem.P.repr_of_str ⟨.str _, H, I.tok _, ⟨_, rfl⟩, q⟩ (show_of (by intro i e; cases e) ok).2.2.2
  | lst h1 h2 =>
    obtain ⟨o1, o2, o3, o5⟩ := show_of (by intro i e; cases e) ok
    obtain ⟨as, rd⟩ := Dp.reads I _ _ _ (Dp.lst h1 h2) ru
    cases ru
    exact repr_of_reads' rd o1 (fun z => by rw [o2] at z; cases z) g (by omega) (fun _ _ z => z) (fun h' u tk hk => ⟨.str _, H, I.kept hk, ⟨_, rfl⟩, q⟩) o5
  | tup h1 h2 =>
    obtain ⟨o1, o2, o3, o5⟩ := show_of (by intro i e; cases e) ok
    obtain ⟨as, rd⟩ := Dp.reads I _ _ _ (Dp.tup h1 h2) ru
    cases ru
    exact repr_of_reads' rd o1 (fun z => by rw [o2] at z; cases z) g (by omega) (fun _ _ z => z) (fun h' u tk hk => ⟨.str _, H, I.kept hk, ⟨_, rfl⟩, q⟩) o5
/-! the head of a law that is kept where no repr is under way -/
section
variable {P : Program} {w : World} {K : PySem.W.Frag} {mg mb : Str → Option Value} {k : Nat} {fa a : Addr} {sp : Sp} {s : Shared} {vs : List Value} {ns : List Int}
/-- what the law's run is to give -/
abbrev Gives (s : Shared) (r : Result) (s2 : Shared) : Prop := r = .ok (.ret (.bool true)) ∧ OldK s.heap s2.heap ∧ s2.os = s.os ∧ AllBare s2.gens
/-- the ground of a heap H that tracks at most the script -/
theorem ground_of {H : Hp} (inH : K.In s.heap) (g : s.heap.Ns mainGlobals mg) (b : s.heap.Ns builtinsNs mb) (bb : ∀ x : Str, x ≠ "__name__" → mb x = bootBuiltins x) (nl : s.heap.NoLimit) (ng : s.gens = #[])
    (sc : s.heap.get? a = some { cls := .type "list", data := .seq vs.toArray }) (ok : HOk P w H s.heap) (one : ∀ b u, H b = some u → b = a ∧ K.lookup a = none) :
    K.In (hidT s.heap H) ∧ (hidT s.heap H).Ns mainGlobals mg ∧ Env0 P w K mg (hidT s.heap H) callerA [] s H := by
  have open_ : ∀ {b : Addr} {o : Obj}, s.heap.get? b = some o → b ≠ a → (hidT s.heap H).get? b = some o := fun {b o} e n => hidT_get e (by
    cases z : H b with
    | none => rfl
    | some u => exact (n (one b u z).1).elim)
  have names : ∀ {b : Addr} {m : Str → Option Value}, s.heap.Ns b m → (hidT s.heap H).Ns b m := by
    rintro b m ⟨o, es, ep, e, d, r⟩
    refine ⟨o, es, ep, open_ e ?_, d, r⟩
    rintro rfl
    rw [e] at sc
    cases sc
    cases d
  have inG : K.In (hidT s.heap H) := fun b o e => by
    by_cases z : b = a
    · subst z
      refine hidT_get (inH b o e) ?_
      cases y : H b with
      | none => rfl
      | some u => rw [(one b u y).2] at e; cases e
    · exact open_ (inH b o e) z
  obtain ⟨mc, l1, l2⟩ := nl
  exact ⟨inG, names g, ⟨rfl, ⟨inG, names g, ⟨mb, names b, bb⟩, ⟨mc, names l1, l2⟩⟩, fun b o e => of_hidT e, Nat.le_of_eq (hidT_size _ _), trivial, fun b hb => (nomatch hb), ok, .of_eq ng⟩⟩
theorem law_runG (inH : K.In s.heap) (g : s.heap.Ns mainGlobals mg) (b : s.heap.Ns builtinsNs mb) (bb : ∀ x : Str, x ≠ "__name__" → mb x = bootBuiltins x) (nl : s.heap.NoLimit) (ng : s.gens = #[])
    (sc : s.heap.get? a = some { cls := .type "list", data := .seq vs.toArray }) (hi : IntsAre vs ns) (hl : ns.length ≤ sizeLine) (hr : Room k callerA)
    (F : ∀ base : Heap, K.In base → base.Ns mainGlobals mg → FnG P w K mg base CX0 k fa sp) (hsp : ∀ H : Hp, SqL K H a (ns.map V.int) → sp [.ref a] H (fun v _ => v = .bl true) fun _ _ _ => False) :
    codeAny (model P w) callerA (.call (.ref fa) ⟨[.ref a], []⟩) (Gives s) s := by
  have rv := vals_ints hi
  have small : (ns.map V.int).length ≤ sizeLine := by rw [List.length_map]; exact hl
  have way : ∀ H : Hp, (∀ b u, H b = some u → ∃ o xs, u = .frz o (.lst xs)) → SqL K H a (ns.map V.int) → HOk P w H s.heap → (∀ b u, H b = some u → b = a ∧ K.lookup a = none) → codeAny (model P w) callerA (.call (.ref fa) ⟨[.ref a], []⟩) (Gives s) s := by
    intro H fz S ok one
    obtain ⟨g1, g2, g3⟩ := ground_of inH g b bb nl ng sc ok one
    refine codeAny_mono (F _ g1 g2 callerA [] s H [.ref a] [V.ref a] _ _ rfl hr g3 (.cons rfl .nil) (hsp H S)) fun r s2 h => ?_
    match r, h with
    | .ok (.ret u), ⟨v, H2, os, bare, un, ok2, ru, q⟩ =>
      have q : v = .bl true := q
      subst q
      have ru : u = Value.bool true := ru
      subst ru
      refine ⟨rfl, OldK.of_keep fun c o e => ?_, os, bare⟩
      cases z : H c with
      | none => exact un.keep c o e z (by intro y; cases y) (by simp)
      | some u =>
        obtain ⟨ob, xs, rfl⟩ := fz c u z
        have e1 := (ok c _ z).1
        rw [e] at e1
        cases e1
        exact (ok2 c _ (un.frzs c o _ z)).1
  cases own : K.lookup a with
  | some o =>
    have e := inH a o own
    rw [sc] at e
    cases e
    exact way (fun _ => none) (fun _ _ z => nomatch z) (.inr ⟨_, vs.toArray, _, own, rfl, rfl, rfl, by rw [List.size_toArray, hi.length]; exact hl, by simpa using rv⟩) (fun _ _ z => nomatch z) (fun _ _ z => nomatch z)
  | none =>
    have at_ : ∀ b u, (if b = a then some (HO.frz { cls := .type "list", data := .seq vs.toArray } (.lst (ns.map V.int))) else none) = some u → b = a ∧ u = .frz { cls := .type "list", data := .seq vs.toArray } (.lst (ns.map V.int)) := fun b u z => by
      by_cases y : b = a
      · rw [if_pos y] at z; cases z; exact ⟨y, rfl⟩
      · rw [if_neg y] at z; cases z
    refine way (fun b => if b = a then some (.frz { cls := .type "list", data := .seq vs.toArray } (.lst (ns.map V.int))) else none) (fun b u z => ⟨_, _, (at_ b u z).2⟩) (.inl (.inr ⟨_, if_pos rfl⟩)) (fun b u z => ?_) (fun b u z => ⟨(at_ b u z).1, own⟩)
    obtain ⟨rfl, rfl⟩ := at_ b u z
    exact ⟨sc, small, vs, _, rv, sc⟩
end
theorem walkG {l : PySem.W.OpenLaw} {n k : Nat} {q : Program} {loose : List Str} {XP : (Str → Option Value) → Heap → Prop} {YP : World → Heap → Prop} {d : DefRec} {K : Params → PySem.W.Frag} {sp : PySem.W.Frag → Sp}
    (hn : l.most = some n) (n2 : n ≤ sizeLine) (hdf : d.params.defaults = []) (hr : Room k callerA) (hY : ∀ (w : World) (h : Heap), YP w h → (K w.params).In h)
    (F : ∀ (w : World) (mg : Str → Option Value) (fa : Addr) (h : Heap), (K w.params).In h → h.Ns mainGlobals mg → mg d.name = some (.ref fa) → ∀ base : Heap, (K w.params).In base → base.Ns mainGlobals mg → FnG l.prog w (K w.params) mg base CX0 k fa (sp (K w.params)))
    (hsp : ∀ (K : PySem.W.Frag) (H : Hp) (a : Addr) (ns : List Int), ns.length ≤ n → SqL K H a (ns.map V.int) → sp K [.ref a] H (fun v _ => v = .bl true) fun _ _ _ => False) :
    PySem.W.WalkO q loose XP YP l.row.toRowW d [] (fun f vs => PySem.call f vs) := by
  apply Att.attach_call hn hdf
  intro w s₀ s₁ mg mb fa o pm cd doc a vs ns G Y ho hd hcd hmg hobj hints hlen hg
  exact law_runG (hY w _ Y) G.T.g G.T.b G.T.builtins G.T.nolimit hg hobj hints (Nat.le_trans hlen n2) hr (F w mg fa _ (hY w _ Y) G.T.g hmg) (fun H S => hsp _ H a ns hlen S)
end Gd
set_option Elab.async false
set_option linter.all false
set_option maxRecDepth 100000
set_option maxHeartbeats 4000000
namespace Vx
open PySem PySem.Spec PyProof.Rows L2
/-- o cmp y by the own method; y of any class that does not come first -/
def rCmpA (K : PySem.W.Frag) (C : Addr) (sp : Sp) (E : XK) : R2 := fun x y H Q => (∃ a dx fs, x = .ref a ∧ H a = some (.ins C dx fs)) ∧ (∃ t, TyX K H y t ∧ PySem.W.notFirst K C t = true) ∧ sp [x, y] H Q E
theorem op_cmpAny {X : Cx} {CX : CXT} {k : Nat} {C f : Addr} {sp : Sp} {E : XK} {op : CmpOp} (hc : ∀ v u, compareOp op v u = richCompare op v u) (at_ : PySem.W.findIn X.K (.ref C) (cmpInfo op).2.1 = some (some (.ref f))) (fn : PySem.W.isFn X.K (.ref f) = true)
    (F : FnR X.prog X.w X.K X.mg X.base CX k f sp) (hr : Room k X.A) (hx : Passes CX X E) : OpR X (compareOp op) (rCmpA X.K C sp E) := by
  intro pins s σ H x y v u Q I rx ry hq
  obtain ⟨⟨a, dx, fs, rfl, ha⟩, ⟨t, ty, nf⟩, hsp⟩ := hq
  have ev : v = Value.ref a := rx
  have cl := call_cmp F hr hx I (us := [v, u]) (vs := [V.ref a, y]) (.cons rx (.cons ry .nil)) hsp
  subst ev
  obtain ⟨mA, J, _⟩ := ins_get I.hok ha
  obtain ⟨od, J, _⟩ := J.look
  obtain ⟨m, hF⟩ := I.fr
  obtain ⟨PP, KX, hP, _⟩ := L2.kit_of I ry ty
  rw [hc]
  exact PySem.W.cmp_K hr.units0 hF I.ok.mod.kin J (KX.ty _ _ I.kIn hP) nf at_ fn cl
end Vx
namespace Toy
open PySem PySem.Spec PyProof.Rows L2
/-! ### own errors -/
/-- what the text says of an own error class: its attribute f, its __init__ at fI -/
structure Err (P : Program) (w : World) (K : PySem.W.Frag) (mg : Str → Option Value) (base : Heap) (x f : Str) (C fI : Addr) (fd : FuncData) (sp : Sp) : Prop where
  T : OexC K C
  no : PySem.W.findIn K (.ref C) f = some none
  gC : mg x = some (.ref C)
  iC : PySem.W.findIn K (.ref C) "__init__" = some (some (.ref fI))
  tI : PySem.W.typeIn K (.ref fI) = some (.type "function")
  F : FnOk P w K mg base CX0 1 fI fd ["self", f] sp
  b : L2.Binds K fd ["self", f] []
def spErr (K : PySem.W.Frag) (f : Str) : Sp := fun vs H Q _ => ∃ (a C : Addr) (v : V), vs = [.ref a, v] ∧ OexC K C ∧ PySem.W.findIn K (.ref C) f = some none ∧ H a = some (exo a C none) ∧ ∀ d, H d = none → d ≠ a → Q .non (upd (upd H d (exd d [(f, v)])) a (exo a C (some d)))
theorem err_end {K : PySem.W.Frag} {f : Str} {C a : Addr} {v : V} {H : Hp} {E : XK} (T : OexC K C) (no : PySem.W.findIn K (.ref C) f = some none) (na : H a = none)
    (q : ∀ H' d, Same H H' → H d = none → H' d = some (.xd [(f, v)]) → E (.ref C) (some d) H') :
    spErr K f (.ref a :: ([v] ++ [])) (upd H a (exo a C none)) (fun u H2 => u = .non ∧ ∃ (d : Addr) (fs : List (Str × V)), H2 a = some (exo a C (some d)) ∧ H2 d = some (exd d fs) ∧ H d = none ∧ E (.ref C) (some d) (upd (del H2 a) d (.xd fs))) (fun _ _ _ => False) := by
  refine ⟨a, C, v, rfl, T, no, upd_same, fun d hd ne => ⟨rfl, d, _, upd_same, by rw [upd_ne ne]; exact upd_same, ?_, ?_⟩⟩
  · rw [upd_ne ne] at hd
    exact hd
  · rw [upd_ne ne] at hd
    refine q _ d (fun b o e => ?_) hd upd_same
    have nba : b ≠ a := ne_of_none e na
    have nbd : b ≠ d := ne_of_none e hd
    rw [upd_ne nbd, del_ne nba, upd_ne nba, upd_ne nbd, upd_ne nba]
    exact e
section
variable {P : Program} {w : World} {K : PySem.W.Frag} {mg : Str → Option Value} {base : Heap}
theorem ok_BadRow_init {f D : Addr} {mc : Value} {fd : FuncData} (F : Fun K "__init__" "BadRow.__init__" s_BadRow_init f fd) (gD : mg "PagesError" = some (.ref D)) (U : Vx.UpC K D mc) : FnOk P w K mg base CX0 1 f fd ["self", "field"] (spErr K "field") := by
  refine F.ok sc_BadRow_init (fun vs H Q E h => ?_) (fun cdv A outer s H vs Q E hr h => ?_)
  · obtain ⟨a, C, v, rfl, _⟩ := h
    rfl
  · obtain ⟨a, C, v, rfl, T, no, ha, q⟩ := h
    refine ⟨_, pss_cons (ps_expr (Vx.pe_up (pe_glob (v := .ref D) (by rfl) gD rfl) U (pa_cons (pv 0) (pa_cons pe_str pa_nil)))) (pss_one (ps_ost (pv 0) (pv 1))), ?_⟩
    exact ⟨rfl, _, rfl, a, C, _, rfl, (by decide), T, ha, _, rfl, _, rfl, a, C, rfl, T, no, .inl ⟨ha, fun d nd ne => q d nd ne⟩⟩
/-! ### rows -/
def okf (v : V) (o : Option Int) : Bool := decide (v = .non) || btw o 0 30
def spField (K : PySem.W.Frag) : Sp := fun vs H Q _ => ∃ (v : V) (o : Option Int), vs = [v] ∧ NV K H v o ∧ Q (.bl (okf v o)) H
theorem ok_field {f fI : Addr} {fd fdI : FuncData} (F : Fun K "_is_field" "_is_field" s_is_field f fd) (GI : FnOk P w K mg base CX0 3 fI fdI ["value"] (spIsWG K)) (kI : PySem.W.keepIn K (.ref fI) = true) (bI : L2.Binds K fdI ["value"] []) (gI : mg "is_writer_number" = some (.ref fI)) :
    FnOk P w K mg base CX0 4 f fd ["value"] (spField K) := by
  refine F.ok sc_is_field (fun vs H Q E h => ?_) (fun cdv A outer s H vs Q E hr h => ?_)
  · obtain ⟨v, o, rfl, _⟩ := h
    rfl
  · obtain ⟨v, o, rfl, hv, q⟩ := h
    refine ⟨_, pss_one (ps_ret (pe_or (pe_cmpR op_isN (pv 0) pe_non (nomark _)) (pe_one (pe_call GI hr (by rfl) gI kI bI .nil pass0 (pa_cons (pv 0) pa_nil))))), ?_⟩
    refine ⟨_, rfl, rfl, decide (v = .non), rfl, ?_⟩
    unfold okf at q
    cases h : decide (v = V.non) with
    | true =>
      rw [h] at q
      exact iteT q
    | false =>
      rw [h] at q
      exact iteF ⟨_, rfl, v, o, rfl, hv, q⟩
def ro (b e : V) : List (Str × V) := [("_beginner", b), ("_ender", e)]
/-- Row.__init__: the row's fields, or BadRow (its class at B) with the first wrong one -/
def spRowI (K : PySem.W.Frag) (R B : Addr) : Sp := fun vs H Q E => ∃ (H0 : Hp) (p dx : Addr) (v1 v2 : V) (o1 o2 : Option Int), vs = [.ref p, v1, v2] ∧ Same H0 H ∧ H0 p = none ∧ H p = some (.ins R dx []) ∧ NV K H v1 o1 ∧ NV K H v2 o2 ∧
  ((okf v1 o1 && okf v2 o2) = true → ∀ H', Same H0 H' → H' p = some (.ins R dx (ro v1 v2)) → Q .non H') ∧
  ((okf v1 o1 && okf v2 o2) = false → ∀ H' d, Same H0 H' → H0 d = none → H' d = some (.xd [("field", .str (if okf v1 o1 = true then "ender" else "beginner"))]) → E (.ref B) (some d) H')
structure RowT (P : Program) (w : World) (K : PySem.W.Frag) (mg : Str → Option Value) (base : Heap) (R B fF fI : Addr) (fdF fdI : FuncData) : Prop where
  cl : Cls K R
  nB : NoAttr K R "_beginner"
  nE : NoAttr K R "_ender"
  GF : FnOk P w K mg base CX0 4 fF fdF ["value"] (spField K)
  kF : PySem.W.keepIn K (.ref fF) = true
  bF : L2.Binds K fdF ["value"] []
  gF : mg "_is_field" = some (.ref fF)
  er : Err P w K mg base "BadRow" "field" B fI fdI (spErr K "field")
theorem ok_Row_init {f R B fF fI : Addr} {fd fdF fdI : FuncData} {dvs : List V} {kws : List (Str × V)} (F : FunD K "__init__" "Row.__init__" (defArgs s_Row_init) (defBody s_Row_init) (defScope s_Row_init) dvs kws f fd) (T : RowT P w K mg base R B fF fI fdF fdI) :
    FnOk P w K mg base (L2.CX P w) 5 f fd ["self", "beginner", "ender"] (spRowI K R B) := by
  refine F.ok sc_Row_init (fun vs H Q E h => ?_) (fun cdv A outer s H vs Q E hr h => ?_)
  · obtain ⟨H0, p, dx, v1, v2, o1, o2, rfl, _⟩ := h
    rfl
  · obtain ⟨H0, p, dx, v1, v2, o1, o2, rfl, s0, p0, hp, h1, h2, qg, qb⟩ := h
    have hr2 : Room 2 _ := hr.mono (by decide)
    refine ⟨_, pss_cons (ps_if (pt_not (pt_val (pe_call T.GF hr (by rfl) T.gF T.kF T.bF .nil pass0 (pa_cons (pv 1) pa_nil)))) (pss_one (ps_raise rfl (takes_of rfl rfl rfl rfl) (pmk_oex T.er.T T.er.iC T.er.tI T.er.F hr2 T.er.b .nil pass0 (by rfl) T.er.gC (pa_cons pe_str pa_nil)))) pss_nil)
      (pss_cons (ps_if (pt_not (pt_val (pe_call T.GF hr (by rfl) T.gF T.kF T.bF .nil pass0 (pa_cons (pv 2) pa_nil)))) (pss_one (ps_raise rfl (takes_of rfl rfl rfl rfl) (pmk_oex T.er.T T.er.iC T.er.tI T.er.F hr2 T.er.b .nil pass0 (by rfl) T.er.gC (pa_cons pe_str pa_nil)))) pss_nil)
      (pss_cons (ps_fld (pv 0) (pv 1) rfl) (pss_one (ps_fld (pv 0) (pv 2) rfl)))), ?_⟩
    refine ⟨_, rfl, v1, o1, rfl, h1, okf v1 o1, rfl, ?_⟩
    cases e1 : okf v1 o1 with
    | false =>
      rw [e1] at qb
      refine iteT ⟨by decide, fun a na => err_end T.er.T T.er.no na fun H' d sm nd hd => qb rfl H' d (s0.trans sm) (s0.free nd) hd⟩
    | true =>
      refine iteF ⟨_, rfl, v2, o2, rfl, h2, okf v2 o2, rfl, ?_⟩
      rw [e1] at qb qg
      cases e2 : okf v2 o2 with
      | false =>
        rw [e2] at qb
        refine iteT ⟨by decide, fun a na => err_end T.er.T T.er.no na fun H' d sm nd hd => qb rfl H' d (s0.trans sm) (s0.free nd) hd⟩
      | true =>
        rw [e2] at qg
        refine iteF ⟨_, rfl, _, rfl, p, R, dx, _, rfl, hp, T.cl, T.nB, (by show (0 : Nat) < 1000; decide), ?_⟩
        refine ⟨_, rfl, _, rfl, p, R, dx, _, rfl, upd_same, T.cl, T.nE, (by show (1 : Nat) < 1000; decide), ?_⟩
        refine qg rfl _ (fun b o e => ?_) upd_same
        rw [upd_ne (ne_of_none e p0), upd_ne (ne_of_none e p0)]
        exact s0 _ _ e
end
end Toy
set_option Elab.async false
set_option linter.all false
set_option maxRecDepth 100000
set_option maxHeartbeats 4000000
namespace Toy
open PySem PySem.Spec PyProof.Rows L2
def fv : Option Nat → V
  | none => .non
  | some k => vi k
def fok (o : Option Nat) : Prop := ∀ k, o = some k → k ≤ 30
theorem scal_fv (a b : Option Nat) : scal (fv a) (fv b) = true := by cases a <;> cases b <;> rfl
theorem fv_inj {a b : Option Nat} : fv a = fv b ↔ a = b := by
  constructor
  · intro h
    cases a with
    | none => cases b with
      | none => rfl
      | some k => cases h
    | some j => cases b with
      | none => cases h
      | some k =>
        have z : V.int (j : Int) = V.int (k : Int) := h
        injection z with z
        have : j = k := by omega
        rw [this]
  · intro h
    rw [h]
def nv : Option Nat → Option Int
  | none => none
  | some k => some (k : Int)
theorem NV.fv {K : PySem.W.Frag} {H : Hp} (o : Option Nat) : NV K H (Toy.fv o) (nv o) := by
  cases o with
  | none => exact NV.non
  | some k => exact NV.int _
theorem okf_fv {o : Option Nat} (h : fok o) : okf (Toy.fv o) (nv o) = true := by
  cases o with
  | none => rfl
  | some k =>
    have hk := h k rfl
    show (decide (vi k = V.non) || decide ((0 : Int) ≤ (k : Int) ∧ (k : Int) ≤ 30)) = true
    rw [decide_eq_true (show (0 : Int) ≤ (k : Int) ∧ (k : Int) ≤ 30 by omega), Bool.or_true]
def RowAt (R : Addr) (H : Hp) (p : Addr) (b e : V) : Prop := ∃ dx, H p = some (.ins R dx (ro b e))
theorem RowAt.same {R : Addr} {H H' : Hp} {p : Addr} {b e : V} (h : RowAt R H p b e) (s : Same H H') : RowAt R H' p b e := h.imp fun _ z => s _ _ z
section
variable {P : Program} {w : World} {K : PySem.W.Frag} {mg : Str → Option Value} {base : Heap} {C R B : Addr}
structure RowM (P : Program) (w : World) (K : PySem.W.Frag) (mg : Str → Option Value) (base : Heap) (R B fR : Addr) (fdR : FuncData) : Prop where
  mkR : Mk K R fR
  gR : mg "Row" = some (.ref R)
  F : FnOk P w K mg base (L2.CX P w) 5 fR fdR ["self", "beginner", "ender"] (spRowI K R B)
  b2 : L2.Binds K fdR ["self", "beginner", "ender"] []
  b1 : ∃ u, RelV .non u ∧ L2.Binds K fdR ["self", "beginner", "ender"] [u]
  b0 : ∃ u1 u2, RelV .non u1 ∧ RelV .non u2 ∧ L2.Binds K fdR ["self", "beginner", "ender"] [u1, u2]
/-- what a making of a row asks, where the fields are good -/
theorem row_good {H : Hp} {b e : V} {ob oe : Option Int} {Q : VK} {E : XK} (h1 : NV K H b ob) (h2 : NV K H e oe) (o1 : okf b ob = true) (o2 : okf e oe = true) (q : ∀ H' r, Same H H' → H r = none → RowAt R H' r b e → Q (.ref r) H') :
    ∀ x dx, H x = none → H dx = none → dx ≠ x → spRowI K R B [.ref x, b, e] (upd (upd H dx (.own x)) x (.ins R dx [])) (fun v H3 => v = .non ∧ Q (.ref x) H3) E := fun x dx nx nd ne => by
  have s : Same H (upd (upd H dx (.own x)) x (.ins R dx [])) := fun c o y => by
    rw [upd_ne (ne_of_none y nx), upd_ne (ne_of_none y nd)]
    exact y
  refine ⟨H, x, dx, b, e, ob, oe, rfl, s, nx, upd_same, h1.same s, h2.same s, fun _ H' s' e' => ⟨rfl, q H' x s' nx ⟨dx, e'⟩⟩, fun z => ?_⟩
  rw [o1, o2] at z
  cases z
def spRowEq (K : PySem.W.Frag) (R : Addr) : Sp := fun vs H Q _ => ∃ (p : Addr) (y : V) (b e : Option Nat), vs = [.ref p, y] ∧ RowAt R H p (fv b) (fv e) ∧
  ((∃ (r : Addr) (b' e' : Option Nat), y = .ref r ∧ RowAt R H r (fv b') (fv e') ∧ Q (.bl (decide (b = b' ∧ e = e'))) H) ∨ ∃ t, TyX K H y t ∧ PySem.W.kitOne K t (.ref R) = some false ∧ Q (.bl false) H)
structure RowC (K : PySem.W.Frag) (mg : Str → Option Value) (R : Addr) : Prop where
  cl : Cls K R
  cC : PySem.W.findIn K (.ref R) "__class__" = some (some (.builtin "object.__class__"))
  cG : PySem.W.specialIn K (.builtin "object.__class__") "__get__" = some (some (.builtin "getset_descriptor.__get__"))
  cT : PySem.W.takesIn K (.builtin "object.__class__") = some true
  cM : PySem.W.mroIn K R (.type "object") = some true
  kk : PySem.W.kitOne K (.ref R) (.ref R) = some true
theorem RowC.ty {p : Addr} {b e : V} {H : Hp} (T : RowC K mg R) (h : RowAt R H p b e) : TyX K H (.ref p) (.ref R) := by
  obtain ⟨dx, z⟩ := h
  exact .base (.ins z T.cl T.cC T.cG T.cT T.cM)
theorem dec_fv (a b : Option Nat) : decide (fv a = fv b) = decide (a = b) := by
  by_cases h : a = b
  · rw [decide_eq_true h, decide_eq_true (fv_inj.mpr h)]
  · rw [decide_eq_false h, decide_eq_false fun z => h (fv_inj.mp z)]
theorem ok_row_eq {f : Addr} {fd : FuncData} (F : Fun K "__eq__" "Row.__eq__" s_Row_eq f fd) (T : RowC K mg R) (gR : mg "Row" = some (.ref R)) (isi : mg "isinstance" = none) (nB : NoAttr K R "_beginner") (nE : NoAttr K R "_ender") : FnOk P w K mg base CX0 1 f fd ["self", "other"] (spRowEq K R) := by
  refine F.ok sc_Row_eq (fun vs H Q E h => ?_) (fun cdv A outer s H vs Q E hr h => ?_)
  · obtain ⟨p, y, b, e, rfl, _⟩ := h
    rfl
  · obtain ⟨p, y, b, e, rfl, hp, h⟩ := h
    refine ⟨_, pss_one (ps_ret (pe_and (pe_callB call_isi (by rfl) isi (by decide +kernel) (pa_cons (pv 1) (pa_cons (pe_glob (v := .ref R) (by rfl) gR rfl) pa_nil)))
      (pe_and (pe_cmpR op_eq (pe_fld (pv 0) rfl) (pe_fld (pv 1) rfl) (nomark _)) (pe_one (pe_cmpR op_eq (pe_fld (pv 0) rfl) (pe_fld (pv 1) rfl) (nomark _)))))), ?_⟩
    rcases h with ⟨r, b', e', rfl, hy, q⟩ | ⟨t, ty, k, q⟩
    · refine ⟨_, rfl, .ref r, .ref R, .ref R, .ref R, true, rfl, .own R, T.ty hy, T.kk, true, rfl, iteT ?_⟩
      obtain ⟨dx, hp⟩ := hp
      obtain ⟨dy, hy⟩ := hy
      refine ⟨_, rfl, p, R, dx, _, _, rfl, hp, T.cl, nB, rfl, _, rfl, r, R, dy, _, _, rfl, hy, T.cl, nB, rfl, scal_fv _ _, _, rfl, ?_⟩
      rw [dec_fv]
      by_cases h1 : b = b'
      · rw [decide_eq_true h1]
        refine iteT ⟨_, rfl, p, R, dx, _, _, rfl, hp, T.cl, nE, rfl, _, rfl, r, R, dy, _, _, rfl, hy, T.cl, nE, rfl, scal_fv _ _, ?_⟩
        rw [dec_fv]
        have e1 : decide (b = b' ∧ e = e') = decide (e = e') := by simp [h1]
        rw [e1] at q
        exact q
      · rw [decide_eq_false h1]
        have e1 : decide (b = b' ∧ e = e') = false := by simp [h1]
        rw [e1] at q
        exact iteF q
    · exact ⟨_, rfl, y, .ref R, t, .ref R, false, rfl, .own R, ty, k, false, rfl, iteF q⟩
end
end Toy
set_option Elab.async false
set_option linter.all false
set_option maxRecDepth 100000
set_option maxHeartbeats 4000000
namespace Toy
open PySem PySem.Spec PyProof.Rows L2
section
variable {P : Program} {w : World} {K : PySem.W.Frag} {mg : Str → Option Value} {base : Heap} {R B f : Addr} {fd : FuncData}
abbrev RowD (K : PySem.W.Frag) (f : Addr) (fd : FuncData) : Prop := FunD K "__init__" "Row.__init__" (defArgs s_Row_init) (defBody s_Row_init) (defScope s_Row_init) [.non, .non] [] f fd
theorem row_b2 (F : RowD K f fd) : L2.Binds K fd ["self", "beginner", "ender"] [] := by
  obtain ⟨ds, hv, hb⟩ := F.binds1 (ps := ["self", "beginner", "ender"]) 3 2 (by simp) rfl (fun T kV doc pm an cdv ct us its hu hi => match us, hu, its, hi with | [_, _, _], _, [_, _], _ => ⟨_, rfl, rfl⟩)
  cases hv
  exact hb
theorem row_b1 (F : RowD K f fd) : ∃ u, RelV .non u ∧ L2.Binds K fd ["self", "beginner", "ender"] [u] := by
  obtain ⟨ds, hv, hb⟩ := F.binds1 (ps := ["self", "beginner", "ender"]) 2 1 (by simp) rfl (fun T kV doc pm an cdv ct us its hu hi => match us, hu, its, hi with | [_, _], _, [_, _], _ => ⟨_, rfl, rfl⟩)
  cases hv with
  | cons r1 r2 =>
    cases r2
    exact ⟨_, r1, hb⟩
theorem row_b0 (F : RowD K f fd) : ∃ u1 u2, RelV .non u1 ∧ RelV .non u2 ∧ L2.Binds K fd ["self", "beginner", "ender"] [u1, u2] := by
  obtain ⟨ds, hv, hb⟩ := F.binds1 (ps := ["self", "beginner", "ender"]) 1 0 (by simp) rfl (fun T kV doc pm an cdv ct us its hu hi => match us, hu, its, hi with | [_], _, [_, _], _ => ⟨_, rfl, rfl⟩)
  cases hv with
  | cons r1 r2 =>
    cases r2 with
    | cons r2 r3 =>
      cases r3
      exact ⟨_, _, r1, r2, hb⟩
theorem row_k2 (F : RowD K f fd) : ∃ g, KBn K fd ["self", "beginner", "ender"] 2 ["ender"] g (fun vs zs => vs ++ zs) := by
  obtain ⟨its, kb⟩ := F.kbindsD (ps := ["self", "beginner", "ender"]) 2 ["ender"] (fun us _ ws => us ++ ws) (by simp) (fun r1 _ r3 => r1.append r3) (fun T kV doc pm an cdv ct us its ws hu hi hw => match us, hu, its, hi, ws, hw with | [_, _], _, [_, _], _, [_], _ => ⟨_, rfl, rfl⟩)
  exact ⟨_, kb⟩
theorem row_k1 (F : RowD K f fd) : ∃ g, KBn K fd ["self", "beginner", "ender"] 1 ["ender"] g (fun vs zs => vs ++ ([.non] ++ zs)) := by
  obtain ⟨its, kb⟩ := F.kbindsD (ps := ["self", "beginner", "ender"]) 1 ["ender"] (fun us ds ws => us ++ (ds.take 1 ++ ws)) (by simp) (fun r1 r2 r3 => r1.append ((r2.take 1).append r3)) (fun T kV doc pm an cdv ct us its ws hu hi hw => match us, hu, its, hi, ws, hw with | [_], _, [_, _], _, [_], _ => ⟨_, rfl, rfl⟩)
  exact ⟨_, kb⟩
abbrev PageD (K : PySem.W.Frag) (f : Addr) (fd : FuncData) (dvs : List V) : Prop := FunD K "__init__" "Page.__init__" (defArgs s_Page_init) (defBody s_Page_init) (defScope s_Page_init) dvs [] f fd
theorem page_b1 {t : Addr} (F : PageD K f fd [.ref t]) : L2.Binds K fd ["self", "rows"] [] := by
  obtain ⟨ds, hv, hb⟩ := F.binds1 (ps := ["self", "rows"]) 2 1 (by simp) rfl (fun T kV doc pm an cdv ct us its hu hi => match us, hu, its, hi with | [_, _], _, [_], _ => ⟨_, rfl, rfl⟩)
  cases hv
  exact hb
end
end Toy
set_option Elab.async false
set_option linter.all false
set_option maxRecDepth 100000
set_option maxHeartbeats 4000000
namespace Toy
open PySem PySem.Spec PyProof.Rows L2
/-- all but the objects of S stays -/
def KeepL (S : List Addr) (H H' : Hp) : Prop := ∀ b o, b ∉ S → H b = some o → H' b = some o
theorem KeepL.rfl' {S : List Addr} {H : Hp} : KeepL S H H := fun _ _ _ e => e
theorem KeepL.trans {S : List Addr} {H H1 H2 : Hp} (a : KeepL S H H1) (b : KeepL S H1 H2) : KeepL S H H2 := fun x o n e => b x o n (a x o n e)
theorem KeepL.same {S : List Addr} {H H' : Hp} (s : Same H H') : KeepL S H H' := fun b o _ e => s b o e
theorem KeepL.pot {S : List Addr} {p c : Addr} {H H' : Hp} (hp : p ∈ S) (hc : c ∈ S) (k : Kept p c H H') : KeepL S H H' := fun b o n e => k b o (fun z => n (by rw [z]; exact hp)) (fun z => n (by rw [z]; exact hc)) e
theorem KeepL.put {S : List Addr} {a : Addr} {o : HO} {H : Hp} (ha : a ∈ S) : KeepL S H (upd H a o) := fun b u n e => by
  rw [upd_ne fun z => n (by rw [z]; exact ha)]
  exact e
theorem off {H : Hp} {p c a : Addr} (P : Pot H p c) (n : H a = none) : a ≠ p ∧ a ≠ c := by
  obtain ⟨cs, at_, x, h1, h2, _⟩ := P
  exact ⟨(ne_of_none h1 n).symm, (ne_of_none h2 n).symm⟩
theorem Pot.put {H : Hp} {p c a : Addr} {o : HO} (P : Pot H p c) (h1 : a ≠ p) (h2 : a ≠ c) : Pot (upd H a o) p c := by
  obtain ⟨cs, at_, x, g1, g2, g3⟩ := P
  exact ⟨cs, at_, x, by rw [upd_ne h1.symm]; exact g1, by rw [upd_ne h2.symm]; exact g2, g3⟩
abbrev Fl := Option Nat × Option Nat
def fokP (q : Fl) : Prop := fok q.1 ∧ fok q.2
/-- objects with what they stand for -/
abbrev Obs (α : Type) := List (Addr × α)
def refs {α : Type} (L : Obs α) : List V := L.map fun x => V.ref x.1
theorem refs_append {α : Type} (L M : Obs α) : refs (L ++ M) = refs L ++ refs M := List.map_append
theorem refs_len {α : Type} (L : Obs α) : (refs L).length = L.length := List.length_map _
theorem refs_get {α : Type} {L : Obs α} {i : Nat} {x : V} (h : (refs L)[i]? = some x) : ∃ y, L[i]? = some y ∧ x = .ref y.1 := by
  unfold refs at h
  rw [List.getElem?_map] at h
  cases e : L[i]? with
  | none => rw [e] at h; cases h
  | some k => rw [e] at h; exact ⟨k, rfl, (Option.some.inj h).symm⟩
theorem refs_at {α : Type} {L : Obs α} {i : Nat} {y : Addr × α} (h : L[i]? = some y) : (refs L)[i]? = some (.ref y.1) := by
  unfold refs
  rw [List.getElem?_map, h]
  rfl
section
variable {P : Program} {w : World} {K : PySem.W.Frag} {mg : Str → Option Value} {base : Heap} {C R B : Addr}
structure Drw (P : Program) (w : World) (K : PySem.W.Frag) (mg : Str → Option Value) (base : Heap) (fD : Addr) (fdD : FuncData) : Prop where
  G : FnOk P w K mg base CX0 1 fD fdD ["pot", "many"] spDraw
  k : PySem.W.keepIn K (.ref fD) = true
  b : L2.Binds K fdD ["pot", "many"] []
  g : mg "_law_draw" = some (.ref fD)
/-! ### _law_writer -/
def spWtr : Sp := fun vs H Q _ => ∃ (p c : Addr), vs = [.ref p] ∧ Pot H p c ∧ ∀ H' o, Pot H' p c → Kept p c H H' → fok o → Q (fv o) H'
theorem ok_wtr {f fD : Addr} {fd fdD : FuncData} (F : Fun K "_law_writer" "_law_writer" s_law_writer f fd) (D : Drw P w K mg base fD fdD) : FnOk P w K mg base CX0 2 f fd ["pot"] spWtr := by
  refine F.ok sc_law_writer (fun vs H Q E h => ?_) (fun cdv A outer s H vs Q E hr h => ?_)
  · obtain ⟨p, c, rfl, _⟩ := h
    rfl
  · obtain ⟨p, c, rfl, hP, q⟩ := h
    refine ⟨_, pss_cons (ps_set (i := 1) sc_law_writer.nd rfl (Or.inl rfl) (pe_call D.G hr (by rfl) D.g D.k D.b .nil pass0 (pa_cons (pv 0) (pa_cons pe_int pa_nil))))
      (pss_one (ps_ret (pe_ifExp (pt_cmpR op_gt (pv 1) pe_int (nomark _)) pe_non (pv 1)))), ?_⟩
    refine ⟨_, rfl, p, c, 40, rfl, hP, by decide, by decide, fun H1 d P1 K1 d0 d1 => ⟨_, rfl, d, 30, rfl, rfl, _, rfl, ?_⟩⟩
    refine ite2 (fun h => q H1 none P1 K1 (fun k z => nomatch z)) (fun h => ⟨_, rfl, ?_⟩)
    have h30 : ¬ d > 30 := fun z => h (decide_eq_true z)
    obtain ⟨k, rfl⟩ := Int.eq_ofNat_of_zero_le d0
    refine q H1 (some k) P1 K1 (fun j z => ?_)
    cases z
    omega
theorem ok_BadPage_init {f D : Addr} {mc : Value} {fd : FuncData} (F : Fun K "__init__" "BadPage.__init__" s_BadPage_init f fd) (gD : mg "PagesError" = some (.ref D)) (U : Vx.UpC K D mc) : FnOk P w K mg base CX0 1 f fd ["self", "at"] (spErr K "at") := by
  refine F.ok sc_BadPage_init (fun vs H Q E h => ?_) (fun cdv A outer s H vs Q E hr h => ?_)
  · obtain ⟨a, C, v, rfl, _⟩ := h
    rfl
  · obtain ⟨a, C, v, rfl, T, no, ha, q⟩ := h
    refine ⟨_, pss_cons (ps_expr (Vx.pe_up (pe_glob (v := .ref D) (by rfl) gD rfl) U (pa_cons (pv 0) (pa_cons pe_str pa_nil)))) (pss_one (ps_ost (pv 0) (pv 1))), ?_⟩
    exact ⟨rfl, _, rfl, a, C, _, rfl, (by decide), T, ha, _, rfl, _, rfl, a, C, rfl, T, no, .inl ⟨ha, fun d nd ne => q d nd ne⟩⟩
/-! ### a page -/
theorem none_of {H H' : Hp} {a : Addr} (s : Same H H') (n : H' a = none) : H a = none := by
  cases e : H a with
  | none => rfl
  | some o => rw [s _ _ e] at n; cases n
def PageAt (PC : Addr) (H : Hp) (q : Addr) (L : Obs Fl) : Prop := ∃ dx l, H q = some (.ins PC dx [("_rows", .ref l)]) ∧ H l = some (.lst (refs L))
theorem PageAt.same {PC : Addr} {H H' : Hp} {q : Addr} {L : Obs Fl} (h : PageAt PC H q L) (s : Same H H') : PageAt PC H' q L := by
  obtain ⟨dx, l, h1, h2⟩ := h
  exact ⟨dx, l, s _ _ h1, s _ _ h2⟩
def RowsAt (R : Addr) (H : Hp) (L : Obs Fl) : Prop := ∀ x ∈ L, RowAt R H x.1 (fv x.2.1) (fv x.2.2) ∧ fokP x.2
theorem RowsAt.same {R : Addr} {H H' : Hp} {L : Obs Fl} (h : RowsAt R H L) (s : Same H H') : RowsAt R H' L := fun x hx => ⟨(h x hx).1.same s, (h x hx).2⟩
structure PgT (K : PySem.W.Frag) (mg : Str → Option Value) (PC : Addr) : Prop where
  cl : Cls K PC
  nR : NoAttr K PC "_rows"
  isi : mg "isinstance" = none
  list : mg "list" = none
  len : mg "len" = none
  all : mg "all" = none
  enum : mg "enumerate" = none
  m7 : ∃ t, mg "MOST_ROWS" = some (.int 7 t)
def spPageI (K : PySem.W.Frag) (PC R : Addr) : Sp := fun vs H Q _ => ∃ (H0 : Hp) (q dx a : Addr) (L : Obs Fl), vs = [.ref q, .ref a] ∧ Same H0 H ∧ H0 q = none ∧ H q = some (.ins PC dx []) ∧ SqL K H0 a (refs L) ∧ L.length ≤ 7 ∧ RowsAt R H0 L ∧ ∀ H' l, Same H0 H' → H0 l = none → H' q = some (.ins PC dx [("_rows", .ref l)]) → H' l = some (.lst (refs L)) → Q .non H'
theorem ok_page_init {f PC : Addr} {fd : FuncData} {dvs : List V} (F : FunD K "__init__" "Page.__init__" (defArgs s_Page_init) (defBody s_Page_init) (defScope s_Page_init) dvs [] f fd) (T : PgT K mg PC) (RC : RowC K mg R) (gR : mg "Row" = some (.ref R)) : FnOk P w K mg base CX0 1 f fd ["self", "rows"] (spPageI K PC R) := by
  obtain ⟨t7, g7⟩ := T.m7
  refine F.ok sc_Page_init (fun vs H Q E h => ?_) (fun cdv A outer s H vs Q E hr h => ?_)
  · obtain ⟨H0, q, dx, a, L, rfl, _⟩ := h
    rfl
  · obtain ⟨H0, q, dx, a, L, rfl, s0, q0, hq, ha, hL, hrows, k⟩ := h
    refine ⟨_, PSs.nox (pss_cons (ps_for PassesOwn.never rfl (pi_enum (by rfl) T.enum (pa_cons (pv 1) pa_nil)) (pg_tup rfl (pgs_cons (pg_name (i := 2) sc_Page_init.nd rfl (Or.inl rfl)) (pgs_cons (pg_name (i := 3) sc_Page_init.nd rfl (Or.inl rfl)) pgs_nil)))
        (pss_one (ps_if (PW.pt (pw_or (pt_cmpR op_eq (pv 2) (pe_glob (v := .int 7) (by rfl) g7 ⟨_, rfl⟩) (nomark _)) (pw_or1 (pt_not (pt_val (pe_callB call_isi (by rfl) T.isi (by decide +kernel) (pa_cons (pv 3) (pa_cons (pe_glob (v := .ref R) (by rfl) gR rfl) pa_nil)))))))) (pss_one ps_never) pss_nil)))
      (pss_one (ps_fld (pv 0) (pe_callTy call_list_of (by rfl) T.list (by decide +kernel) (pa_cons (pv 1) pa_nil)) rfl))), ?_⟩
    refine ⟨_, rfl, a, refs L, rfl, s0.seq ha, for_it (walk_enum (K := K) (a := a) (xs := refs L)) (fun i σ H' => ∃ x y, σ = [some (.ref q), some (.ref a), x, y] ∧ Same H H') ⟨none, none, rfl, Same.refl H⟩ (fun i σ H' _ z => ?_) ?_ ?_⟩
    · obtain ⟨_, _, _, s1⟩ := z
      exact (s0.trans s1).seq ha
    · rintro i x σ H' H2 hi ⟨x0, y0, rfl, s1⟩ ⟨t, u, v, rfl, nt, rfl, eu, ev⟩
      obtain ⟨y, hy, rfl⟩ := refs_get ev
      obtain rfl := (Option.some.inj eu).symm
      have s2 := s1.trans (same_upd (o := .tup [V.int (i : Nat), V.ref y.1]) nt)
      have hR := (hrows y (List.mem_of_getElem? hy)).1.same (s0.trans s2)
      refine ⟨t, _, rfl, SqT.of upd_same, rfl, _, _, rfl, _, _, rfl, rfl, ?_⟩
      refine ⟨_, rfl, rfl, _, rfl, ?_⟩
      have hi7 : i < 7 := Nat.lt_of_lt_of_le (by rw [refs_len] at hi; exact hi) hL
      have e7 : decide (V.int (i : Nat) = V.int 7) = false := decide_eq_false fun z => by
        injection z with z
        omega
      rw [e7]
      refine iteF ⟨_, rfl, .ref y.1, .ref R, .ref R, .ref R, true, rfl, .own R, RC.ty hR, RC.kk, true, rfl, iteF ⟨_, _, rfl, s2⟩⟩
    · rintro σ H' ⟨x0, y0, rfl, s1⟩
      have t1 := s0.trans s1
      refine ⟨_, rfl, a, _, rfl, .inl (t1.seq ha), fun l nl => ?_⟩
      have hq1 := s1 _ _ hq
      have qs : q ≠ l := ne_of_none hq1 nl
      refine ⟨_, rfl, q, PC, dx, _, rfl, by rw [upd_ne qs]; exact hq1, T.cl, T.nR, (by show (0 : Nat) < 1000; decide), ?_⟩
      refine k _ l (fun b o e => ?_) (none_of t1 nl) upd_same ?_
      · rw [upd_ne (ne_of_none e q0)]
        exact (t1.trans (same_upd nl)) _ _ e
      · rw [upd_ne qs.symm]
        exact upd_same
def spPgRows (PC : Addr) : Sp := fun vs H Q _ => ∃ (q : Addr) (L : Obs Fl), vs = [.ref q] ∧ PageAt PC H q L ∧ ∀ H' l, Same H H' → H l = none → H' l = some (.lst (refs L)) → Q (.ref l) H'
theorem ok_pg_rows {f PC : Addr} {fd : FuncData} (F : Fun K "rows" "Page.rows" s_Page_rows f fd) (T : PgT K mg PC) : FnOk P w K mg base CX0 1 f fd ["self"] (spPgRows PC) := by
  refine F.ok sc_Page_rows (fun vs H Q E h => ?_) (fun cdv A outer s H vs Q E hr h => ?_)
  · obtain ⟨q, L, rfl, _⟩ := h
    rfl
  · obtain ⟨q, L, rfl, ⟨dx, l, h1, h2⟩, k⟩ := h
    refine ⟨_, pss_one (ps_ret (pe_callTy call_list_of (by rfl) T.list (by decide +kernel) (pa_cons (pe_fld (pv 0) rfl) pa_nil))), ?_⟩
    exact ⟨_, rfl, q, PC, dx, _, _, rfl, h1, T.cl, T.nR, rfl, l, _, rfl, .inl (SqL.of h2), fun m nm => k _ m (same_upd nm) nm upd_same⟩
def spPgLen (PC : Addr) : Sp := fun vs H Q _ => ∃ (q : Addr) (L : Obs Fl), vs = [.ref q] ∧ PageAt PC H q L ∧ Q (.int (L.length : Nat)) H
theorem ok_pg_len {f PC : Addr} {fd : FuncData} (F : Fun K "__len__" "Page.__len__" s_Page_len f fd) (T : PgT K mg PC) : FnOk P w K mg base CX0 1 f fd ["self"] (spPgLen PC) := by
  refine F.ok sc_Page_len (fun vs H Q E h => ?_) (fun cdv A outer s H vs Q E hr h => ?_)
  · obtain ⟨q, L, rfl, _⟩ := h
    rfl
  · obtain ⟨q, L, rfl, ⟨dx, l, h1, h2⟩, k⟩ := h
    refine ⟨_, pss_one (ps_ret (pe_callB call_len_seq (by rfl) T.len PySem.boot_len (pa_cons (pe_fld (pv 0) rfl) pa_nil))), ?_⟩
    refine ⟨_, rfl, q, PC, dx, _, _, rfl, h1, T.cl, T.nR, rfl, l, _, rfl, .inl (SqL.of h2), ?_⟩
    rw [refs_len]
    exact k
end
end Toy
set_option Elab.async false
set_option linter.all false
set_option maxRecDepth 100000
set_option maxHeartbeats 4000000
namespace Toy
open PySem PySem.Spec PyProof.Rows L2
/-! ### bytes of numbers -/
def bA (ns : List Nat) : Array UInt8 := byteArr (ns.map fun (k : Nat) => (k : Int))
theorem bA_app (a b : List Nat) : bA a ++ bA b = bA (a ++ b) := by
  unfold bA
  rw [byteArr_app, List.map_append]
theorem bA_size (ns : List Nat) : (bA ns).size = ns.length := by
  unfold bA
  rw [byteArr_size, List.length_map]
theorem bA_bi {ns : List Nat} (h : ∀ k ∈ ns, k < 256) : bi (bA ns) = ns.map fun (k : Nat) => (k : Int) := bi_make fun n hn => by
  obtain ⟨k, hk, rfl⟩ := List.mem_map.mp hn
  have := h k hk
  omega
theorem bA_list {ns : List Nat} (h : ∀ k ∈ ns, k < 256) : (bi (bA ns)).map V.int = ns.map vi := by
  rw [bA_bi h, List.map_map]
  rfl
theorem bA_inj {a b : List Nat} (ha : ∀ k ∈ a, k < 256) (hb : ∀ k ∈ b, k < 256) (h : bA a = bA b) : a = b := by
  have := congrArg bi h
  rw [bA_bi ha, bA_bi hb] at this
  have e : ∀ l : List Nat, (l.map fun (k : Nat) => (k : Int)).map Int.toNat = l := fun l => by
    rw [List.map_map]
    conv => rhs; rw [← List.map_id l]
    exact List.map_congr_left fun k _ => Int.toNat_natCast k
  rw [← e a, this, e b]
theorem bA_mid (a c : Nat) (l : List Nat) : PySem.W.KBy.picked (bA (a :: l ++ [c])) (some 1) (some (-1)) = bA l := by
  rw [PySem.W.KBc.picked_eq]
  show (((bA (a :: l ++ [c])).toList.drop (clipAt (bA (a :: l ++ [c])).size ((1 : Nat) : Int))).take (clipAt (bA (a :: l ++ [c])).size (-1) - clipAt (bA (a :: l ++ [c])).size ((1 : Nat) : Int))).toArray = _
  have sz : (bA (a :: l ++ [c])).size = l.length + 2 := by rw [bA_size]; simp
  have n1 := clipAt_neg (bA (a :: l ++ [c])).size 1 (Nat.le_refl 1)
  have e1 : clipAt (bA (a :: l ++ [c])).size (-1) = l.length + 1 := by
    rw [sz] at n1 ⊢
    exact n1.trans (by omega)
  rw [e1, clipAt_nat, sz, Nat.min_eq_left (by omega)]
  unfold bA byteArr
  simp [List.drop_append, List.take_append]
/-! ### the bytes of rows -/
def fb : Option Nat → Nat
  | none => 0
  | some k => k + 1
theorem fb_lt {o : Option Nat} (h : fok o) : fb o ≤ 31 := by
  cases o with
  | none => exact Nat.zero_le _
  | some k => exact Nat.succ_le_succ (h k rfl)
theorem fb_inj {a b : Option Nat} (h : fb a = fb b) : a = b := by
  cases a <;> cases b <;> simp [fb] at h ⊢ <;> omega
def rb : List Fl → List Nat
  | [] => []
  | q :: r => fb q.1 :: fb q.2 :: rb r
theorem rb_app : ∀ a b : List Fl, rb (a ++ b) = rb a ++ rb b
  | [], _ => rfl
  | q :: r, b => by
    show fb q.1 :: fb q.2 :: rb (r ++ b) = _
    rw [rb_app r b]
    rfl
theorem rb_len : ∀ a : List Fl, (rb a).length = 2 * a.length
  | [] => rfl
  | q :: r => by
    show (rb r).length + 1 + 1 = 2 * (r.length + 1)
    rw [rb_len r]
    omega
theorem rb_take : ∀ (a : List Fl) (k : Nat), rb (a.take k) = (rb a).take (2 * k)
  | [], k => by simp [rb]
  | q :: r, 0 => rfl
  | q :: r, k + 1 => by
    show fb q.1 :: fb q.2 :: rb (r.take k) = _
    rw [rb_take r k]
    rfl
theorem rb_drop : ∀ (a : List Fl) (k : Nat), rb (a.drop k) = (rb a).drop (2 * k)
  | [], k => by simp [rb]
  | q :: r, 0 => rfl
  | q :: r, k + 1 => by
    show rb (r.drop k) = _
    rw [rb_drop r k]
    rfl
theorem rb_lt : ∀ {a : List Fl}, (∀ q ∈ a, fokP q) → ∀ k ∈ rb a, k ≤ 31
  | [], _, k, h => absurd h List.not_mem_nil
  | q :: r, hq, k, h => by
    have hh := hq q List.mem_cons_self
    rcases List.mem_cons.mp h with rfl | h
    · exact fb_lt hh.1
    · rcases List.mem_cons.mp h with rfl | h
      · exact fb_lt hh.2
      · exact rb_lt (fun y hy => hq y (List.mem_cons_of_mem _ hy)) k h
theorem rb_inj : ∀ {a b : List Fl}, rb a = rb b → a = b
  | [], [], _ => rfl
  | [], _ :: _, h => by cases h
  | _ :: _, [], h => by cases h
  | q :: r, p :: s, h => by
    have h : fb q.1 :: fb q.2 :: rb r = fb p.1 :: fb p.2 :: rb s := h
    injection h with h1 h
    injection h with h2 h3
    obtain ⟨a, b⟩ := q
    obtain ⟨c, d⟩ := p
    obtain rfl := fb_inj h1
    obtain rfl := fb_inj h2
    rw [rb_inj h3]
/-- all numbers of a page's bytes -/
def nums (qs : List Fl) : List Nat := (qs.length :: rb qs) ++ [(qs.length + (rb qs).sum) % 256]
theorem nums_lt {qs : List Fl} (h7 : qs.length ≤ 7) (h : ∀ q ∈ qs, fokP q) : ∀ k ∈ nums qs, k < 256 := by
  intro k hk
  unfold nums at hk
  simp only [List.cons_append, List.mem_cons, List.mem_append, List.not_mem_nil, or_false] at hk
  rcases hk with rfl | hk | rfl
  · omega
  · have := rb_lt h k hk; omega
  · exact Nat.mod_lt _ (by decide)
theorem rb_mid {qs : List Fl} {i j : Nat} : rb ((qs.take j).drop i) = ((rb qs).take (2 * j)).drop (2 * i) := by rw [rb_drop, rb_take]
theorem nums_mid {qs : List Fl} {i j : Nat} (hj : j ≤ qs.length) : ((nums qs).take (1 + 2 * j)).drop (1 + 2 * i) = rb ((qs.take j).drop i) := by
  rw [rb_mid]
  unfold nums
  have hz := rb_len qs
  rw [List.take_append_of_le_length (by simp; omega), show 1 + 2 * j = 2 * j + 1 by omega, List.take_succ_cons, show 1 + 2 * i = 2 * i + 1 by omega, List.drop_succ_cons]
theorem mid_join {α : Type} (xs : List α) {l m h : Nat} (h1 : l ≤ m) (h2 : m ≤ h) : (xs.take m).drop l ++ (xs.take h).drop m = (xs.take h).drop l := by
  have e : xs.take m = (xs.take h).take m := by rw [List.take_take, Nat.min_eq_left h2]
  rw [e]
  generalize xs.take h = ys
  by_cases hm : m ≤ ys.length
  · have z : ys.drop l = (ys.take m ++ ys.drop m).drop l := by rw [List.take_append_drop]
    rw [z, List.drop_append_of_le_length (by rw [List.length_take, Nat.min_eq_left hm]; exact h1)]
  · rw [List.take_of_length_le (by omega), List.drop_of_length_le (show ys.length ≤ m by omega), List.append_nil]
theorem cut_mid {xs : List V} {i j : Nat} : cutV xs (some (i : Int)) (some (j : Int)) = (xs.take j).drop i := by
  unfold cutV
  rw [HT.sIx_nat, HT.sIx_nat, List.drop_take]
  by_cases hi : i ≤ xs.length
  · rw [Nat.min_eq_left hi]
    by_cases hj : j ≤ xs.length
    · rw [Nat.min_eq_left hj]
    · rw [Nat.min_eq_right (by omega), List.take_of_length_le (by rw [List.length_drop]; exact Nat.le_refl _), List.take_of_length_le (by rw [List.length_drop]; omega)]
  · rw [Nat.min_eq_right (show xs.length ≤ i by omega), List.drop_of_length_le (Nat.le_refl _), List.drop_of_length_le (show xs.length ≤ i by omega), List.take_nil, List.take_nil]
end Toy
set_option Elab.async false
set_option linter.all false
set_option maxRecDepth 100000
set_option maxHeartbeats 4000000
namespace Vx
open PySem PySem.Spec PyProof.Rows L2
/-- a walk of n turns, whatever a turn does -/
theorem turns {J : It} {n : Nat} {S : Hp} {Qd : Hp → Prop} {Bd : (Hp → Prop) → V → Hp → Prop} (Pv : Nat → Hp → Prop) (h0 : Pv 0 S) (fin : ∀ H, Pv n H → J.stop n H ∧ Qd H) (go : ∀ i H, i < n → Pv i H → J.go i H ∧ ∀ x G, J.yld i H x G → Bd (Pv (i + 1)) x G) :
    ∃ W : Nat → Nat → Hp → Prop, (∃ m, W 0 m S) ∧ ∀ i m H, W i m H → (J.stop i H ∧ Qd H) ∨ (J.go i H ∧ ∃ Nx : Hp → Prop, (∀ H', Nx H' → ∃ m', m' < m ∧ W (i + 1) m' H') ∧ ∀ x H', J.yld i H x H' → Bd Nx x H') := by
  refine ⟨fun i m H => i + m = n ∧ Pv i H, ⟨n, Nat.zero_add n, h0⟩, fun i m H hw => ?_⟩
  obtain ⟨e, p⟩ := hw
  cases m with
  | zero =>
    have e : i = n := e
    subst e
    exact Or.inl (fin H p)
  | succ m =>
    obtain ⟨g1, g2⟩ := go i H (by omega) p
    exact Or.inr ⟨g1, Pv (i + 1), fun G pg => ⟨m, Nat.lt_succ_self m, by omega, pg⟩, g2⟩
end Vx
namespace Toy
open PySem PySem.Spec PyProof.Rows L2
section
variable {P : Program} {w : World} {K : PySem.W.Frag} {mg : Str → Option Value} {base : Heap} {R PC W : Addr}
structure Cal (P : Program) (w : World) (K : PySem.W.Frag) (mg : Str → Option Value) (base : Heap) (CX : CXT) (k : Nat) (f : Addr) (fd : FuncData) (x : Str) (ps : List Str) (sp : Sp) : Prop where
  G : FnOk P w K mg base CX k f fd ps sp
  k : PySem.W.keepIn K (.ref f) = true
  b : L2.Binds K fd ps []
  g : mg x = some (.ref f)
/-! ### _byte, _row_bytes -/
def spByte : Sp := fun vs H Q _ => ∃ o : Option Nat, vs = [fv o] ∧ Q (vi (fb o)) H
theorem ok_byte {f : Addr} {fd : FuncData} (F : Fun K "_byte" "_byte" s_byte f fd) : FnOk P w K mg base CX0 1 f fd ["writer"] spByte := by
  refine F.ok sc_byte (fun vs H Q E h => ?_) (fun cdv A outer s H vs Q E hr h => ?_)
  · obtain ⟨o, rfl, _⟩ := h
    rfl
  · obtain ⟨o, rfl, q⟩ := h
    refine ⟨_, pss_one (ps_ret (pe_ifExp (pt_cmpR op_isN (pv 0) pe_non (nomark _)) pe_int (pe_op op_add (pv 0) pe_int))), ?_⟩
    cases o with
    | none => exact ⟨_, rfl, rfl, true, rfl, iteT q⟩
    | some k => exact ⟨_, rfl, rfl, false, congrArg V.bl (decide_eq_false fun z => by cases z), iteF ⟨_, rfl, _, _, rfl, rfl, q⟩⟩
structure RowP (P : Program) (w : World) (K : PySem.W.Frag) (mg : Str → Option Value) (base : Heap) (R pB pE gB gE : Addr) (fdB fdE : FuncData) : Prop where
  cl : Cls K R
  prB : PropOf K R "beginner" pB gB
  FB : FnOk P w K mg base CX0 1 gB fdB ["self"] (getSp R "_beginner")
  bB : L2.Binds K fdB ["self"] []
  prE : PropOf K R "ender" pE gE
  FE : FnOk P w K mg base CX0 1 gE fdE ["self"] (getSp R "_ender")
  bE : L2.Binds K fdE ["self"] []
def spRB (K : PySem.W.Frag) (R : Addr) : Sp := fun vs H Q _ => ∃ (l : Addr) (L : Obs Fl), vs = [.ref l] ∧ H l = some (.lst (refs L)) ∧ L.length ≤ 7 ∧ RowsAt R H L ∧ ∀ H' m, Same H H' → H m = none → H' m = some (.lst ((rb (L.map Prod.snd)).map vi)) → Q (.ref m) H'
theorem ok_rb {f fB pB pE gB gE : Addr} {fd fdF fdB fdE : FuncData} (F : Fun K "_row_bytes" "_row_bytes" s_row_bytes f fd) (G : Cal P w K mg base CX0 1 fB fdF "_byte" ["writer"] spByte) (T : RowP P w K mg base R pB pE gB gE fdB fdE) : FnOk P w K mg base CX0 3 f fd ["rows"] (spRB K R) := by
  refine F.ok sc_row_bytes (fun vs H Q E h => ?_) (fun cdv A outer s H vs Q E hr h => ?_)
  · obtain ⟨l, L, rfl, _⟩ := h
    rfl
  · obtain ⟨l, L, rfl, hl, hz, hR, q⟩ := h
    have hr1 : Room 1 _ := hr.mono (by decide)
    have nd := sc_row_bytes.nd
    refine ⟨_, pss_one (ps_ret (pe_lc2 (own := [("row", 1), ("writer", 2)]) (vs1 := [2]) (g := gName 1) (g1 := gName 2) (tt := tYes) (tt1 := tYes) rfl nd (pi_list (pv 0))
      (blkOk_by (own := [("row", 1), ("writer", 2)]) (N := ["rows", "row", "writer"]) (sc := defScope s_row_bytes) (by decide +kernel)) (by decide) (fun _ _ _ _ _ => pg_name (i := 1) nd rfl (Or.inl rfl)) (fun _ _ _ _ _ => pts_nil)
      (fun _ _ _ _ _ => show PI _ _ _ (iTup K _) from pi_tup (pe_tup (pa_cons (pe_prop (pv 1) T.cl T.prB T.FB hr T.bB .nil pass0 rfl) (pa_cons (pe_prop (pv 1) T.cl T.prE T.FE hr T.bE .nil pass0 rfl) pa_nil))))
      (fun _ _ _ _ _ => pg_name (i := 2) nd rfl (Or.inl rfl)) (fun _ _ _ _ _ => pts_nil)
      (fun _ _ _ _ _ => pe_call G.G hr1 (by rfl) G.g G.k G.b .nil pass0 (pa_cons (pv 2) pa_nil)))), ?_⟩
    refine ⟨_, rfl, l, rfl, ⟨_, SqL.of hl⟩, fun D hD => ?_⟩
    have len3 : ∀ i : Nat, i ≤ L.length → (rb ((L.take i).map Prod.snd)).length ≤ 14 := fun i hi => by rw [rb_len, List.length_map, List.length_take]; omega
    refine Vx.turns (n := L.length) (fun i H' => Same H H' ∧ H' D = some (.lst ((rb ((L.take i).map Prod.snd)).map vi))) ⟨same_upd hD, upd_same⟩ (fun H' z => ?_) ?_
    · obtain ⟨s1, e1⟩ := z
      refine ⟨⟨refs L, SqL.of (s1 _ _ hl), by rw [refs_len]; exact Nat.le_refl _⟩, ?_⟩
      rw [List.take_length] at e1
      exact q H' D s1 hD e1
    · rintro i H' hi ⟨s1, e1⟩
      have hLi : L[i]? = some L[i] := List.getElem?_eq_getElem hi
      generalize L[i] = y at hLi
      obtain ⟨ya, yb, ye⟩ := y
      refine ⟨⟨refs L, .ref ya, SqL.of (s1 _ _ hl), refs_at hLi⟩, ?_⟩
      rintro x G ⟨rfl, hx⟩
      have ex := hx _ (SqL.of (s1 _ _ hl))
      rw [refs_at hLi] at ex
      cases ex
      have hy := hR (ya, yb, ye) (List.mem_of_getElem? hLi)
      obtain ⟨⟨dy, ey⟩, fy⟩ := hy
      have ey1 := s1 _ _ ey
      refine ⟨rfl, _, rfl, ya, dy, _, rfl, ey1, ya, dy, _, _, rfl, ey1, rfl, _, rfl, ya, dy, _, rfl, ey1, ya, dy, _, _, rfl, ey1, rfl, by show 2 ≤ sizeLine; decide, fun t nt => ?_⟩
      have s2 := same_upd (o := .tup [fv yb, fv ye]) nt
      have et : (upd G t (.tup [fv yb, fv ye])) t = some (.tup [fv yb, fv ye]) := upd_same
      refine ⟨t, rfl, ⟨_, SqT.of et⟩, ?_⟩
      have tk : L.take (i + 1) = L.take i ++ [(ya, yb, ye)] := by rw [List.take_add_one, hLi]; rfl
      have full : rb ((L.take (i + 1)).map Prod.snd) = rb ((L.take i).map Prod.snd) ++ [fb yb, fb ye] := by
        rw [tk, List.map_append, rb_app]
        rfl
      have tD : t ≠ D := (ne_of_none e1 nt).symm
      have part : ∀ (j : Nat) (o : Option Nat), [yb, ye][j]? = some o → ∀ G', Same H G' ∧ G' D = some (.lst ((rb ((L.take i).map Prod.snd) ++ [fb yb, fb ye].take j).map vi)) ∧ G' t = some (.tup [fv yb, fv ye]) → ∃ acc, G' D = some (.lst acc) ∧ acc.length < sizeLine ∧
          (Same H (upd G' D (.lst (acc ++ [vi (fb o)]))) ∧ (upd G' D (.lst (acc ++ [vi (fb o)]))) D = some (.lst ((rb ((L.take i).map Prod.snd) ++ [fb yb, fb ye].take (j + 1)).map vi)) ∧ (upd G' D (.lst (acc ++ [vi (fb o)]))) t = some (.tup [fv yb, fv ye])) := by
        rintro j o hj G' ⟨a1, a2, a3⟩
        refine ⟨_, a2, ?_, fun b u eb => ?_, ?_, ?_⟩
        · rw [List.length_map, List.length_append]
          have h1 := len3 i (Nat.le_of_lt hi)
          have h2 : ([fb yb, fb ye].take j).length ≤ 2 := Nat.le_trans (List.length_take_le' _ _) (Nat.le_refl _)
          exact Nat.lt_of_le_of_lt (show _ ≤ 16 by omega) (by decide)
        · rw [upd_ne (ne_of_none eb hD)]
          exact a1 _ _ eb
        · rw [upd_same]
          match j, hj with
          | 0, hj => cases hj; simp
          | 1, hj => cases hj; simp
          | j + 2, hj => cases hj
        · rw [upd_ne tD]
          exact a3
      refine Vx.turns (n := 2) (fun j G' => Same H G' ∧ G' D = some (.lst ((rb ((L.take i).map Prod.snd) ++ [fb yb, fb ye].take j).map vi)) ∧ G' t = some (.tup [fv yb, fv ye])) ⟨s1.trans s2, ?_, et⟩ (fun G' z => ?_) ?_
      · rw [upd_ne tD.symm, e1]
        simp
      · obtain ⟨a1, a2, a3⟩ := z
        refine ⟨⟨_, SqT.of a3, Nat.le_refl _⟩, a1, ?_⟩
        rw [full]
        exact a2
      · rintro j G' hj ⟨a1, a2, a3⟩
        match j, hj with
        | 0, _ =>
          refine ⟨⟨_, _, SqT.of a3, rfl⟩, ?_⟩
          rintro x G2 ⟨rfl, hx⟩
          have ex := hx _ (SqT.of a3)
          cases ex
          exact ⟨rfl, _, rfl, yb, rfl, part 0 yb rfl _ ⟨a1, a2, a3⟩⟩
        | 1, _ =>
          refine ⟨⟨_, _, SqT.of a3, rfl⟩, ?_⟩
          rintro x G2 ⟨rfl, hx⟩
          have ex := hx _ (SqT.of a3)
          cases ex
          exact ⟨rfl, _, rfl, ye, rfl, part 1 ye rfl _ ⟨a1, a2, a3⟩⟩
end
end Toy
set_option Elab.async false
set_option linter.all false
set_option maxRecDepth 100000
set_option maxHeartbeats 4000000
namespace Vx
open PySem PySem.SeqAt
open AutoSeq1 (wpAny_loadPart')
open MeetsSeq MeetsSeq2 MeetsSeq3 SeqRoads2
/-- c at k places from i on -/
def allC (c : Nat → Bool) : Nat → Nat → Bool
  | _, 0 => true
  | i, k + 1 => c i && allC c (i + 1) k
section
variable {prog : Program} {w : World} {A : Around} {R : Result → Shared → Prop}
def ListB (prog : Program) (w : World) (A : Around) (E : Value → Shared → Prop) (l b : Addr) (N : Nat) (J : Shared → Prop) (c : Nat → Bool) : Prop :=
  ∀ i s, J s → ∃ (items items2 : Array Value) (n n2 : Nat), s.heap.get? l = some { cls := .type "list", data := .seq items n } ∧ s.heap.get? b = some { cls := .type "list", data := .seq items2 n2 } ∧ items.size = N ∧ items2.size = N ∧
    ∀ (h1 : i < items.size) (h2 : i < items2.size), wpAny (model prog w) A.in1 (eqBool items[i] items2[i]) (fun r s' => r = c i ∧ J s') E s
theorem eq_loopB (l b : Addr) (N : Nat) (J : Shared → Prop) (c : Nat → Bool) (hl : ListB prog w A (fun e s' => R (.error e) s') l b N J c) (k : Nat) :
    ∀ i : Nat, N - i = k → i ≤ N → ∀ s, J s → (∀ s, J s → R (.ok (.ret (.bool (allC c i k)))) s) →
      wpAny (model prog w) A.in1 (Builtin.«list.__eq__.loop» ⟨[.ref l, .ref b, rawInt i, rawInt 2], []⟩) (GQ.FinOf prog w A R) (fun e s' => R (.error e) s') s := by
  induction k with
  | zero =>
    intro i hk hi s h fin
    obtain ⟨items, items2, n, n2, hl1, hb1, hs1, hs2, _⟩ := hl i _ h
    have hi' : i = N := by omega
    have hR : R (.ok (.ret (.bool true))) s := fin s h
    obtain ⟨hp, g, d, tk, os⟩ := s
    wp_walk using wpAny_loadPart' hl1, wpAny_loadPart' hb1
    have hi1 : items[((i : Nat) : Int).toNat]? = none := by simp; omega
    have hi2 : items2[((i : Nat) : Int).toNat]? = none := by simp; omega
    rw [hi1, hi2]
    wp_walk using wpAny_loadPart' hl1, wpAny_loadPart' hb1
    show R (.ok (.ret (.bool (items.size == items2.size)))) _
    rw [hs1, hs2]
    simpa using hR
  | succ k ih =>
    intro i hk hi s h fin
    obtain ⟨items, items2, n, n2, hl1, hb1, hs1, hs2, turn⟩ := hl i _ h
    have hlt : i < items.size := by omega
    have hlt2 : i < items2.size := by omega
    have ht := turn hlt hlt2
    obtain ⟨hp, g, d, tk, os⟩ := s
    wp_walk using wpAny_loadPart' hl1, wpAny_loadPart' hb1
    have hi1 : items[((i : Nat) : Int).toNat]? = some items[i] := by simp [hlt]
    have hi2 : items2[((i : Nat) : Int).toNat]? = some items2[i] := by simp [hlt2]
    have hc : ((i : Int) + 1) = ((i + 1 : Nat) : Int) := by omega
    rw [hi1, hi2]
    refine wpAny_bind (wpAny_mono ht (fun r s2 h2 => ?_) fun _ _ x => x)
    obtain ⟨hr, h2⟩ := h2
    cases hci : c i with
    | true =>
      rw [hci] at hr
      subst hr
      have hrec := ih (i + 1) (by omega) (by omega) s2 h2 (fun s hs => by
        have z := fin s hs
        unfold allC at z
        rw [hci, Bool.true_and] at z
        exact z)
      obtain ⟨hp2, g2, d2, tk2, os2⟩ := s2
      wp_walk
      rw [hc]
      exact ⟨plainId_quiet plain_eq_loop _, codeAny_builtin entry_eq_loop (by
        rw [Around.under_plainId plain_eq_loop _]
        exact hrec)⟩
    | false =>
      rw [hci] at hr
      subst hr
      have hR : R (.ok (.ret (.bool false))) s2 := by
        have z := fin s2 h2
        unfold allC at z
        rw [hci, Bool.false_and] at z
        exact z
      obtain ⟨jt, jt2, m, m2, hl3, hb3, hs3, hs4, _⟩ := hl i _ h2
      obtain ⟨hp2, g2, d2, tk2, os2⟩ := s2
      wp_walk using wpAny_loadPart' hl3, wpAny_loadPart' hb3
      have hj1 : jt[((i : Nat) : Int).toNat]? = some (jt[i]'(by omega)) := by simp
      have hj2 : jt2[((i : Nat) : Int).toNat]? = some (jt2[i]'(by omega)) := by simp
      rw [hj1, hj2]
      wp_walk
      exact hR
theorem list_eqB (l b : Addr) (N : Nat) (J : Shared → Prop) (c : Nat → Bool) (hl : ListB prog w A (fun e s' => R (.error e) s') l b N J c)
    (fin : ∀ s, J s → R (.ok (.ret (.bool (allC c 0 N)))) s) {s : Shared} (h : J s) :
    wpAny (model prog w) A.in1 (Builtin.«list.__eq__» ⟨[.ref l, .ref b], []⟩) (GQ.FinOf prog w A R) (fun e s' => R (.error e) s') s := by
  obtain ⟨items, items2, n, n2, hl1, hb1, hs1, hs2, _⟩ := hl 0 _ h
  have hrec := eq_loopB (A := A) (R := R) l b N J c hl N 0 rfl (Nat.zero_le _) s h fin
  obtain ⟨hp, g, d, tk, os⟩ := s
  have f3 := AutoSeq1.sub_list_list
  have hne : ¬ (items.size != items2.size) = true := by simp [hs1, hs2]
  wp_walk using wpAny_loadPart' hl1, wpAny_loadPart' hb1
  exact ⟨plainId_quiet plain_eq_loop _, codeAny_builtin entry_eq_loop (by
    rw [Around.under_plainId plain_eq_loop _]
    exact hrec)⟩
theorem list_eqN (l b : Addr) {items items2 : Array Value} {n n2 : Nat} {s : Shared} (hl1 : s.heap.get? l = some { cls := .type "list", data := .seq items n }) (hb1 : s.heap.get? b = some { cls := .type "list", data := .seq items2 n2 }) (hd : items.size ≠ items2.size)
    (fin : R (.ok (.ret (.bool false))) s) :
    wpAny (model prog w) A.in1 (Builtin.«list.__eq__» ⟨[.ref l, .ref b], []⟩) (GQ.FinOf prog w A R) (fun e s' => R (.error e) s') s := by
  obtain ⟨hp, g, d, tk, os⟩ := s
  have f3 := AutoSeq1.sub_list_list
  have hne : (items.size != items2.size) = true := by simp [hd]
  wp_walk using wpAny_loadPart' hl1, wpAny_loadPart' hb1
  exact fin
end
end Vx
namespace Vx
open PySem PySem.Spec PyProof.Rows L2
/-- == gives c for what D says, and makes nothing -/
def EqB (X : Cx) (n : Nat) (D : V → V → Hp → Bool → Prop) : Prop :=
  ∀ (A : Around) (pins : List (Addr × Obj)) (s : Shared) (σ : L2.St) (H : Hp) (x y : V) (u v : Value) (c : Bool), L2.Sub X n A → L2.Inv X pins σ H s → RelV x u → RelV y v → D x y H c →
    wpAny (model X.prog X.w) A (eqBool u v) (fun r s' => r = c ∧ L2.Inv X pins σ H s') X.xe s
def rEqL (D : V → V → Hp → Bool → Prop) : R2 := fun x y H Q => ∃ a b xs ys c, x = .ref a ∧ y = .ref b ∧ H a = some (.lst xs) ∧ H b = some (.lst ys) ∧
  (∀ i u v, xs[i]? = some u → ys[i]? = some v → D u v H (c i)) ∧ Q (.bl (decide (xs.length = ys.length) && allC c 0 xs.length)) H
section
variable {X : Cx} {n : Nat} {D : V → V → Hp → Bool → Prop}
theorem op_eqL (h : EqB X n D) (hr : Room (n + 1) X.A) : OpR X (compareOp .Eq) (rEqL D) := by
  intro pins s σ H x y v u Q I rx ry hq
  obtain ⟨a, b, xs, ys, c, rfl, rfl, ha, hb, hD, q⟩ := hq
  cases rx
  cases ry
  show wpAny (model X.prog X.w) X.A (richCompare .Eq (.ref a) (.ref b)) (EP X pins σ Q) X.xe s
  obtain ⟨z, its, k, r, e⟩ := I.hok a _ ha
  obtain ⟨z2, its2, k2, r2, e2⟩ := I.hok b _ hb
  have sb : L2.Sub X n X.A.in1 := (⟨hr, rfl⟩ : L2.Sub X (n + 1) X.A).in1
  refine wpAny_richCompare_same_room (op := .Eq) ⟨_, e, rfl⟩ ⟨_, e2, rfl⟩ F.slot_list_eq (GQ.call_here F.slot_list_eq ⟨_, e, rfl⟩ F.entry_list_eq (F.args_list_eq_2 _ _) ?_) hr.units0
  by_cases hl : xs.length = ys.length
  · rw [decide_eq_true hl, Bool.true_and] at q
    refine list_eqB (R := wants (fun v s' => v ≠ .notImplemented ∧ EP X pins σ Q v s') X.xe) a b xs.length (fun s' => L2.Inv X pins σ H s') c (fun i s' I1 => ?_) (fun s' I1 => ⟨(fun x => nomatch x), .bl _, H, I1, rfl, q⟩) I
    obtain ⟨z, its, k, r, e⟩ := I1.hok a _ ha
    obtain ⟨z2, its2, k2, r2, e2⟩ := I1.hok b _ hb
    refine ⟨its.toArray, its2.toArray, k, k2, e, e2, by rw [List.size_toArray, ← r.length], by rw [List.size_toArray, ← r2.length, ← hl], fun h1 h2 => ?_⟩
    have g1 : its[i]? = some its.toArray[i] := by
      have h1' : i < its.length := by simpa using h1
      rw [List.getElem?_eq_getElem h1'] <;> simp
    have g2 : its2[i]? = some its2.toArray[i] := by
      have h2' : i < its2.length := by simpa using h2
      rw [List.getElem?_eq_getElem h2'] <;> simp
    have k1 : i < xs.length := by rw [r.length]; simpa using h1
    have k2 : i < ys.length := by rw [r2.length]; simpa using h2
    obtain ⟨u, hu, ru⟩ := r.get (List.getElem?_eq_getElem k1)
    obtain ⟨v, hv, rv⟩ := r2.get (List.getElem?_eq_getElem k2)
    rw [g1] at hu
    rw [g2] at hv
    rw [Option.some.inj hu, Option.some.inj hv]
    exact h X.A.in1 pins s' σ H _ _ u v (c i) sb I1 ru rv (hD i _ _ (List.getElem?_eq_getElem k1) (List.getElem?_eq_getElem k2))
  · rw [decide_eq_false hl, Bool.false_and] at q
    exact list_eqN (R := wants (fun v s' => v ≠ .notImplemented ∧ EP X pins σ Q v s') X.xe) a b e e2 (by rw [List.size_toArray, List.size_toArray, ← r.length, ← r2.length]; exact hl) ⟨(fun x => nomatch x), .bl _, H, I, rfl, q⟩
/-- two instances by the own ==, which makes nothing -/
theorem eqB_ins {k : Nat} {C f : Addr} {sp : Sp} {E : XK} {CX : CXT} (nf : PySem.W.notFirst X.K C (.ref C) = true) (at_ : PySem.W.findIn X.K (.ref C) "__eq__" = some (some (.ref f))) (fn : PySem.W.isFn X.K (.ref f) = true) (F : FnR X.prog X.w X.K X.mg X.base CX k f sp) (hx : Passes CX X E)
    (hd : ∀ x y H c, D x y H c → ∃ a b dx dy fs gs, x = .ref a ∧ y = .ref b ∧ H a = some (.ins C dx fs) ∧ H b = some (.ins C dy gs) ∧ (a = b → c = true) ∧ ∀ Q : VK, Q (.bl c) H → sp [x, y] H Q E) : EqB X k D := by
  intro A pins s σ H x y u v c sb I rx ry d
  obtain ⟨a, b, dx, dy, fs, gs, rfl, rfl, ha, hb, hs, hq⟩ := hd _ _ _ _ d
  cases rx
  cases ry
  by_cases hab : a = b
  · subst hab
    have := hs rfl
    subst this
    exact SeqAt.EqAt.same (A := A) (s := s) (.ref a) X.prog X.w X.xe _ ⟨rfl, I⟩
  · refine GQ.eqBool_refG hab ?_
    obtain ⟨mA, J, _⟩ := ins_get I.hok ha
    obtain ⟨mB, J', _⟩ := ins_get I.hok hb
    obtain ⟨od, J, _⟩ := J.look
    obtain ⟨od', J', _⟩ := J'.look
    obtain ⟨m, hF⟩ := I.fr
    refine PySem.W.cmp_K (op := .Eq) (tb := .ref C) sb.room.units0 hF I.ok.mod.kin J J'.type nf at_ fn ?_
    refine wpAny_mono (wpAny_call (run_in (us := [.ref a, .ref b]) (vs := [V.ref a, V.ref b]) sb F hx I (.cons rfl (.cons rfl .nil)) (hq (fun v H' => v = .bl c ∧ H' = H) ⟨rfl, rfl⟩))) (fun w s' z => ?_) fun _ _ z => z
    obtain ⟨v', H', I', rv, ev, eh⟩ := z
    subst ev eh
    cases rv
    exact ⟨c, rfl, rfl, I'⟩
end
/-- x += y by the own __iadd__ -/
def tIOwn (C : Addr) (sp : Sp) (E : XK) : TIp := fun x y H Q => (∃ a dx fs, x = .ref a ∧ H a = some (.ins C dx fs)) ∧ sp [x, y] H Q E
section
variable {X : Cx} {CX : CXT} {k : Nat} {C f : Addr} {sp : Sp} {E : XK}
theorem pip_own {op : Operator} (sf : PySem.W.selfFirst X.K C = true) (at_ : PySem.W.findIn X.K (.ref C) (dunderI op.info.2) = some (some (.ref f))) (fn : PySem.W.isFn X.K (.ref f) = true) (F : FnR X.prog X.w X.K X.mg X.base CX k f sp) (hr : Room k X.A) (hx : Passes CX X E) : PIp X op (tIOwn C sp E) := by
  intro pins s σ H x y v u Q I rx ry hq
  obtain ⟨⟨a, dx, fs, rfl, ha⟩, hsp⟩ := hq
  have ev : v = Value.ref a := rx
  have cl := call_cmp F hr hx I (us := [v, u]) (vs := [V.ref a, y]) (.cons rx (.cons ry .nil)) hsp
  subst ev
  obtain ⟨mA, J, _⟩ := ins_get I.hok ha
  obtain ⟨od, J, _⟩ := J.look
  obtain ⟨m, hF⟩ := I.fr
  exact PySem.W.ksp_inplace hF I.ok.mod.kin J sf at_ fn cl
end
end Vx
set_option Elab.async false
set_option linter.all false
set_option maxRecDepth 100000
set_option maxHeartbeats 4000000
namespace Vx
open PySem
open AutoSeq1 (wpAny_loadPart')
theorem meets_enumerate_newT (t : Addr) (items : Array Value) :
    Meets (Builtin.«enumerate.__new__» ⟨[.type "enumerate", .ref t], []⟩) (fun _ R s => s.heap.IsTuple t items ∧
      R (.ok (.ret (.ref (s.heap.push { cls := .type "tuple_iterator", data := .fields #[.ref t, .int 0 0] }).objs.size)))
        { s with heap := (s.heap.push { cls := .type "tuple_iterator", data := .fields #[.ref t, .int 0 0] }).push { cls := .type "enumerate", data := .fields #[.none, .bool false, .ref s.heap.objs.size, rawInt 0, .none, .none] } }) :=
  .of_wp fun prog w A R s h => by
    obtain ⟨hp, g, d, tk, os⟩ := s; obtain ⟨hL, h⟩ := h
    have hsub := sub_enumerate
    wp_walk
    refine wpAny_stack_any fun st => wpAny_pure ?_
    split
    · rename_i c _ _ _ _ _
      cases (c == Value.type "enumerate")
      · wp_walk using wpAny_pyIter_tuple hL
        exact ⟨_, rfl, h⟩
      · wp_walk using wpAny_pyIter_tuple hL
        exact ⟨_, rfl, h⟩
    · wp_walk using wpAny_pyIter_tuple hL
      exact ⟨_, rfl, h⟩
section
variable {prog : Program} {w : World} {A : Around} {E : Value → Shared → Prop} {s : Shared}
theorem call_enumerate_tuple {t : Addr} {items : Array Value} {Q : Value → Shared → Prop} (hL : s.heap.IsTuple t items)
    (h : ∀ h', IsEnum h' (s.heap.objs.size + 1) s.heap.objs.size 0 .none → h'.IsTupleIter s.heap.objs.size t 0 → h'.objs.size = s.heap.objs.size + 2 →
      (∀ b o, s.heap.get? b = some o → h'.get? b = some o) → Q (.ref (s.heap.objs.size + 1)) { s with heap := h' }) :
    wpAny (model prog w) A (call (.type "enumerate") [.ref t]) Q E s := by
  refine callType_new F.called_enumerate (by decide) (F.typeCall_enumerate_1 _) (F.newCall_enumerate_1 _) (fun obj => F.args_object_init_2 obj _) F.entry_enumerate_new
    (meets_enumerate_newT t items) ⟨hL, ?_⟩
  have hz : (s.heap.push { cls := .type "tuple_iterator", data := .fields #[.ref t, .int 0 0] }).objs.size = s.heap.objs.size + 1 := Heap.size_push ..
  show _ ∧ _
  rw [hz]
  have he : IsEnum ((s.heap.push { cls := .type "tuple_iterator", data := .fields #[.ref t, .int 0 0] }).push
      { cls := .type "enumerate", data := .fields #[.none, .bool false, .ref s.heap.objs.size, rawInt 0, .none, .none] }) (s.heap.objs.size + 1) s.heap.objs.size 0 .none := by
    have := Heap.get?_push_size (s.heap.push { cls := .type "tuple_iterator", data := .fields #[.ref t, .int 0 0] })
      (o := { cls := .type "enumerate", data := .fields #[.none, .bool false, .ref s.heap.objs.size, rawInt 0, .none, .none] }) rfl
    rw [hz] at this; exact this
  refine ⟨⟨_, he, rfl⟩, h _ he ⟨_, Heap.get?_push_of_some _ (Heap.get?_push_size _ rfl), rfl, rfl⟩ (by rw [Heap.size_push, hz]) fun b o x => Heap.get?_push_of_some _ (Heap.get?_push_of_some _ x)⟩
end
end Vx
namespace Vx
open PySem PySem.Spec PyProof.Rows L2
/-- enumerate of the empty tuple at a -/
def Ite0 (K : PySem.W.Frag) (a : Addr) : It := ⟨fun _ _ => False, fun _ _ _ _ => False, fun i H => i = 0 ∧ SqT K H a []⟩
theorem turn_enum0 {P : Program} {w : World} {K : PySem.W.Frag} {elts : List Expr} {kk : Nat} {tpos : Pos} (a e it : Addr) (hai : a ≠ it) :
    Turn P w K (.Tuple elts kk tpos) (Ite0 K a) [e, it] e (fun i h => (∃ old, IsEnum h e it ((i : Nat) : Int) old) ∧ h.IsTupleIter it a i ∧ e ≠ it) where
  mem := by simp
  obj := fun i h st b hb => by
    obtain ⟨⟨old, he⟩, ⟨o, ho, hc, hd⟩, _⟩ := st
    have e' : b = e ∨ b = it := by simpa using hb
    rcases e' with z | z
    · rw [z]; exact ⟨_, he, fun v q => nomatch q⟩
    · rw [z]; exact ⟨o, ho, fun v q => by rw [hd] at q; cases q⟩
  keep := fun i h h' st k => let ⟨⟨old, he⟩, hi, hne⟩ := st; ⟨⟨old, k e (by simp) _ he⟩, hi.at fun o q => k it (by simp) o q, hne⟩
  item := by
    intro X hP hw hK hc i pins s σ H E I hf st hg
    exact hg.elim
  done := by
    intro X hP hw hK hc i pins s σ H E I hf st hg
    subst hP hw hK
    obtain ⟨⟨old, he⟩, hit, hne⟩ := st
    obtain ⟨rfl, hq⟩ := hg
    obtain ⟨its, rv, p, hz⟩ := I.tuple hq
    obtain ⟨f0, f1, f2, f3, f4, f5⟩ := hf it (by simp)
    cases rv
    exact wpAny_pyNext_enum_endD (Draws.tuple (A := X.A.in1) (I.ok.hd hc) it a hai #[]) he ⟨hit, p⟩ fun h' eb => ⟨rfl, I.turned (t' := s.toks) (fun b o hb q => eb b o hb q) f0 f1 f3 f4 f5⟩
  self := fun A i s Q E st h => let ⟨⟨_, he⟩, _⟩ := st; wpAny_pyIter_enum he h
def iEnum0 (K : PySem.W.Frag) (ta : TA) : TI := fun σ H R => ta σ H fun vs H1 => ∃ a, vs = [.ref a] ∧ SqT K H1 a [] ∧ R (Ite0 K a) H1
theorem pi_enum0 {X : Cx} {e : Expr} {ta : TA} {p pos tpos : Pos} {elts : List Expr} {kk : Nat} (hg : Gl X "enumerate") (hm : X.mg "enumerate" = none) (ha : PA X [e] ta) (hs : starEach [e] X.env = [(false, eval e X.env)] := by rfl) :
    PI X (.Tuple elts kk tpos) (.Call (.Name "enumerate" p) [e] [] pos) (iEnum0 X.K ta) := by
  refine ⟨fun pins s σ H R I h => ?_⟩
  refine Call_ (ld_blt I hg hm boot_enumerate (PyProof.Rows.callWith_type1 (thn (ha.run pos pins s σ H _ I h) fun us s1 ⟨vs, H1, I1, r1, q1⟩ => ?_) hs rfl))
  obtain ⟨a, ex, hq, q⟩ := q1
  subst ex
  cases r1 with
  | cons r rr =>
    cases rr
    cases r
    obtain ⟨its, rv, p', hz⟩ := I1.tuple hq
    have hal : a < s1.heap.objs.size := by
      obtain ⟨o, q, _⟩ := p'
      exact Heap.lt_size q
    refine call_enumerate_tuple p' fun h' he hit hsz hk => wpAny_pyIter_enum he ?_
    have I2 : Inv X pins σ H1 { s1 with heap := h' } := I1.kept (t' := s1.toks) hk
    refine ⟨s1.heap.objs.size + 1, [s1.heap.objs.size + 1, s1.heap.objs.size], _, _, H1, rfl, I2, turn_enum0 a (s1.heap.objs.size + 1) s1.heap.objs.size (Nat.ne_of_lt hal), ⟨⟨.none, he⟩, hit, Nat.succ_ne_self _⟩, fun b hb => ?_, q⟩
    have e' : b = s1.heap.objs.size + 1 ∨ b = s1.heap.objs.size := by simpa using hb
    have hle : s1.heap.objs.size ≤ b := by
      rcases e' with z | z
      · rw [z]; exact Nat.le_add_right _ _
      · rw [z]; exact Nat.le_refl _
    exact I1.fpOk hle (I1.hok.fresh hle)
end Vx
namespace Toy
open PySem PySem.Spec PyProof.Rows L2
section
variable {P : Program} {w : World} {K : PySem.W.Frag} {mg : Str → Option Value} {base : Heap} {R B PC W : Addr}
/-! ### Page(), len, rows ==, += -/
def spPage0 (K : PySem.W.Frag) (PC : Addr) : Sp := fun vs H Q _ => ∃ (H0 : Hp) (q dx a : Addr), vs = [.ref q, .ref a] ∧ Same H0 H ∧ H0 q = none ∧ H q = some (.ins PC dx []) ∧ SqT K H a [] ∧ ∀ H' l, Same H0 H' → H0 l = none → l ≠ q → H' q = some (.ins PC dx [("_rows", .ref l)]) → H' l = some (.lst []) → Q .non H'
theorem ok_page_init0 {f PC : Addr} {fd : FuncData} {dvs : List V} (F : FunD K "__init__" "Page.__init__" (defArgs s_Page_init) (defBody s_Page_init) (defScope s_Page_init) dvs [] f fd) (T : PgT K mg PC) (RC : RowC K mg R) (gR : mg "Row" = some (.ref R)) : FnOk P w K mg base CX0 1 f fd ["self", "rows"] (spPage0 K PC) := by
  obtain ⟨t7, g7⟩ := T.m7
  refine F.ok sc_Page_init (fun vs H Q E h => ?_) (fun cdv A outer s H vs Q E hr h => ?_)
  · obtain ⟨H0, q, dx, a, rfl, _⟩ := h
    rfl
  · obtain ⟨H0, q, dx, a, rfl, s0, q0, hq, ha, k⟩ := h
    refine ⟨_, PSs.nox (pss_cons (ps_for PassesOwn.never rfl (Vx.pi_enum0 (by rfl) T.enum (pa_cons (pv 1) pa_nil)) (pg_tup rfl (pgs_cons (pg_name (i := 2) sc_Page_init.nd rfl (Or.inl rfl)) (pgs_cons (pg_name (i := 3) sc_Page_init.nd rfl (Or.inl rfl)) pgs_nil)))
        (pss_one (ps_if (PW.pt (pw_or (pt_cmpR op_eq (pv 2) (pe_glob (v := .int 7) (by rfl) g7 ⟨_, rfl⟩) (nomark _)) (pw_or1 (pt_not (pt_val (pe_callB call_isi (by rfl) T.isi (by decide +kernel) (pa_cons (pv 3) (pa_cons (pe_glob (v := .ref R) (by rfl) gR rfl) pa_nil)))))))) (pss_one ps_never) pss_nil)))
      (pss_one (ps_fld (pv 0) (pe_callTy call_list_of (by rfl) T.list (by decide +kernel) (pa_cons (pv 1) pa_nil)) rfl))), ?_⟩
    refine ⟨_, rfl, a, rfl, ha, fun i m σ H' => i = 0 ∧ σ = [some (.ref q), some (.ref a), none, none] ∧ H' = H, ⟨0, rfl, rfl, rfl⟩, ?_⟩
    rintro i m σ H' ⟨rfl, rfl, rfl⟩
    refine Or.inl ⟨⟨rfl, ha⟩, ?_⟩
    refine ⟨_, rfl, a, _, rfl, .inr ha, fun l nl => ?_⟩
    have qs : q ≠ l := ne_of_none hq nl
    refine ⟨_, rfl, q, PC, dx, _, rfl, by rw [upd_ne qs]; exact hq, T.cl, T.nR, (by show (0 : Nat) < 1000; decide), ?_⟩
    refine k _ l (fun b o e => ?_) (none_of s0 nl) qs.symm upd_same ?_
    · rw [upd_ne (ne_of_none e q0)]
      exact (s0.trans (same_upd nl)) _ _ e
    · rw [upd_ne qs.symm]
      exact upd_same
theorem page_b0 {t : Addr} (F : PageD K f fd [.ref t]) : ∃ u, RelV (.ref t) u ∧ L2.Binds K fd ["self", "rows"] [u] := by
  obtain ⟨ds, hv, hb⟩ := F.binds1 (ps := ["self", "rows"]) 1 0 (by simp) rfl (fun T kV doc pm an cdv ct us its hu hi => match us, hu, its, hi with | [_], _, [_], _ => ⟨_, rfl, rfl⟩)
  cases hv with
  | cons r1 r2 =>
    cases r2
    exact ⟨_, r1, hb⟩
end
end Toy
set_option Elab.async false
set_option linter.all false
set_option maxRecDepth 100000
set_option maxHeartbeats 4000000
namespace Toy
open PySem PySem.Spec PyProof.Rows L2
theorem and_255 (n : Nat) : Builtin.bitAnd (n : Int) 255 = ((n % 256 : Nat) : Int) := by
  have e : Builtin.bitAnd (n : Int) ((255 : Nat) : Int) = ((n &&& 255 : Nat) : Int) := by rw [bitAnd_pp (Int.natCast_nonneg _) (Int.natCast_nonneg _), Int.toNat_natCast, Int.toNat_natCast]
  have e2 : n &&& 255 = n % 256 := Nat.and_two_pow_sub_one_eq_mod n 8
  rw [← e2]
  exact e
theorem sum_vi (l : List Nat) : (l.map fun (k : Nat) => (k : Int)).sum = ((l.sum : Nat) : Int) := by
  induction l with
  | nil => rfl
  | cons a r ih => rw [List.map_cons, List.sum_cons, List.sum_cons, ih, Int.natCast_add]
theorem map_int_vi (l : List Nat) : (l.map fun (k : Nat) => (k : Int)).map V.int = l.map vi := by
  rw [List.map_map]
  rfl
section
variable {P : Program} {w : World} {K : PySem.W.Frag} {mg : Str → Option Value} {base : Heap} {R PC W : Addr}
/-! ### raw, piece -/
def spRaw (PC R : Addr) : Sp := fun vs H Q _ => ∃ (pg : Addr) (L : Obs Fl), vs = [.ref pg] ∧ PageAt PC H pg L ∧ RowsAt R H L ∧ L.length ≤ 7 ∧ ∀ H', Same H H' → Q (.byt (bA (nums (L.map Prod.snd)))) H'
theorem ok_raw {f fR : Addr} {fd fdR : FuncData} (F : Fun K "raw" "Page.raw" s_Page_raw f fd) (T : PgT K mg PC) (G : Cal P w K mg base CX0 3 fR fdR "_row_bytes" ["rows"] (spRB K R)) (ms : mg "sum" = none) (mb : mg "bytes" = none) : FnOk P w K mg base CX0 4 f fd ["self"] (spRaw PC R) := by
  refine F.ok sc_Page_raw (fun vs H Q E h => ?_) (fun cdv A outer s H vs Q E hr h => ?_)
  · obtain ⟨pg, L, rfl, _⟩ := h
    rfl
  · obtain ⟨pg, L, rfl, ⟨dx, l, h1, h2⟩, hR, hz, q⟩ := h
    have nd := sc_Page_raw.nd
    refine ⟨_, pss_cons (ps_set (i := 1) nd rfl (Or.inl rfl) (pe_op op_cat (pe_lst (pa_cons (pe_callB call_len_seq (by rfl) T.len PySem.boot_len (pa_cons (pe_fld (pv 0) rfl) pa_nil)) pa_nil)) (pe_call G.G hr (by rfl) G.g G.k G.b .nil pass0 (pa_cons (pe_fld (pv 0) rfl) pa_nil))))
      (pss_one (ps_ret (pe_callTy (call_bytes_list rfl) (by rfl) mb (by decide +kernel) (pa_cons (pe_op op_cat (pv 1) (pe_lst (pa_cons (pe_op op_and (pe_callB (cr_sum rfl) (by rfl) ms (by decide +kernel) (pa_cons (pv 1) pa_nil)) pe_int) pa_nil))) pa_nil)))), ?_⟩
    refine ⟨_, rfl, pg, PC, dx, _, _, rfl, h1, T.cl, T.nR, rfl, l, _, rfl, .inl (SqL.of h2), by show 1 ≤ sizeLine; decide, fun a na => ?_⟩
    rw [refs_len]
    have sa := same_upd (o := .lst [V.int (L.length : Nat)]) na
    refine ⟨_, rfl, pg, PC, dx, _, _, rfl, sa _ _ h1, T.cl, T.nR, rfl, l, L, rfl, sa _ _ h2, hz, hR.same sa, fun H2 m s2 nm em => ?_⟩
    have ea2 := s2 _ _ (show (upd H a (.lst [V.int (L.length : Nat)])) a = some (.lst [V.int (L.length : Nat)]) from upd_same)
    have zl : (rb (L.map Prod.snd)).length ≤ 14 := by rw [rb_len, List.length_map]; omega
    refine ⟨a, m, _, _, rfl, rfl, ea2, em, ?_, fun b nb => ?_⟩
    · rw [List.length_map]
      exact Nat.le_trans (show 1 + _ ≤ 15 by omega) (by decide)
    generalize hH3 : upd H2 b (HO.lst ([V.int (L.length : Nat)] ++ (rb (L.map Prod.snd)).map vi)) = H3
    have s3 : Same H2 H3 := by rw [← hH3]; exact same_upd nb
    have eb : H3 b = some (.lst ((L.length :: rb (L.map Prod.snd)).map vi)) := by rw [← hH3]; exact upd_same
    have hs : (((L.length :: rb (L.map Prod.snd)).map fun (k : Nat) => (k : Int)).sum) = ((L.length + (rb (L.map Prod.snd)).sum : Nat) : Int) := by rw [sum_vi, List.sum_cons]
    refine ⟨_, rfl, _, rfl, b, (L.length :: rb (L.map Prod.snd)).map fun (k : Nat) => (k : Int), rfl, SqL.of (by rw [map_int_vi]; exact eb), _, _, rfl, rfl, by show 1 ≤ sizeLine; decide, fun c nc => ?_⟩
    rw [hs]
    have e255 : (fun (i j : Int) => V.int (Builtin.bitAnd i j)) ((L.length + (rb (L.map Prod.snd)).sum : Nat) : Int) 255 = V.int (((L.length + (rb (L.map Prod.snd)).sum) % 256 : Nat) : Int) := congrArg V.int (and_255 _)
    rw [e255]
    have s4 := same_upd (o := .lst [V.int (((L.length + (rb (L.map Prod.snd)).sum) % 256 : Nat) : Int)]) nc
    refine ⟨b, c, _, _, rfl, rfl, s4 _ _ eb, upd_same, ?_, fun d nd => ?_⟩
    · rw [List.length_map, List.length_cons]
      exact Nat.le_trans (show _ + 1 + 1 ≤ 16 by omega) (by decide)
    have s5 := same_upd (o := .lst ((L.length :: rb (L.map Prod.snd)).map vi ++ [V.int (((L.length + (rb (L.map Prod.snd)).sum) % 256 : Nat) : Int)])) nd
    have en : (nums (L.map Prod.snd)).map vi = (L.length :: rb (L.map Prod.snd)).map vi ++ [V.int (((L.length + (rb (L.map Prod.snd)).sum) % 256 : Nat) : Int)] := by
      unfold nums
      rw [List.length_map, List.map_append]
      rfl
    refine ⟨d, (nums (L.map Prod.snd)).map fun (k : Nat) => (k : Int), rfl, SqL.of (by rw [map_int_vi, en]; exact upd_same), ?_, q _ ((sa.trans s2).trans ((s3.trans s4).trans s5))⟩
    intro n hn
    obtain ⟨k, hk, rfl⟩ := List.mem_map.mp hn
    have := nums_lt (qs := L.map Prod.snd) (by rw [List.length_map]; exact hz) (fun y hy => by
      obtain ⟨x, hx, rfl⟩ := List.mem_map.mp hy
      exact (hR x hx).2) k hk
    omega
end
end Toy
set_option Elab.async false
set_option linter.all false
set_option maxRecDepth 100000
set_option maxHeartbeats 4000000
namespace Gd
open PySem PySem.Spec PyProof.Rows L2
mutual
theorem dp_same {K : PySem.W.Frag} {H H' : Hp} (s : Same H H') : ∀ {v : V} {d : PyData}, Dp K H v d → Dp K H' v d
  | _, _, .non => .non
  | _, _, .bl b => .bl b
  | _, _, .int i => .int i
  | _, _, .str x => .str x
  | _, _, .lst h r => .lst (s.seq h) (dp_sameAll s r)
  | _, _, .tup h r => .tup (SqT.ext h s) (dp_sameAll s r)
theorem dp_sameAll {K : PySem.W.Frag} {H H' : Hp} (s : Same H H') : ∀ {vs : List V} {ds : List PyData}, DpAll K H vs ds → DpAll K H' vs ds
  | _, _, .nil => .nil
  | _, _, .cons h r => .cons (dp_same s h) (dp_sameAll s r)
end
end Gd
namespace Toy
open PySem PySem.Spec PyProof.Rows L2
def dk (k : Nat) : PyData := .int k
theorem dpAll_vi {K : PySem.W.Frag} {H : Hp} : ∀ ws : List Nat, DpAll K H (ws.map vi) (ws.map dk)
  | [] => .nil
  | k :: r => .cons (.int _) (dpAll_vi r)
theorem dp_vi {K : PySem.W.Frag} {H : Hp} {a : Addr} {ws : List Nat} (h : H a = some (.lst (ws.map vi))) : Dp K H (.ref a) (.list (ws.map dk)) := .lst (SqL.of h) (dpAll_vi ws)
theorem can_dk : ∀ ws : List Nat, PyData.canLayAll0 (ws.map dk) = true
  | [] => rfl
  | k :: r => by
    rw [List.map_cons]
    show (PyData.canLay0 (.int k) && PyData.canLayAll0 (r.map dk)) = true
    rw [can_dk r]
    rfl
theorem dep_dk : ∀ ws : List Nat, PyData.depthAll (ws.map dk) ≤ 1
  | [] => by decide
  | k :: r => by
    have ih := dep_dk r
    rw [List.map_cons]
    have e : PyData.depthAll (dk k :: r.map dk) = max (PyData.depth (dk k)) (PyData.depthAll (r.map dk)) := rfl
    have e2 : PyData.depth (dk k) ≤ 1 := by first | exact Nat.zero_le _ | exact Nat.le_refl _ | (show (0 : Nat) ≤ 1; decide) | (show (1 : Nat) ≤ 1; decide)
    rw [e]
    omega
theorem shp_dk (ws : List Nat) : SeqAt.shaped (.list (ws.map dk)) = true := by
  have h1 := can_dk ws
  have h2 := dep_dk ws
  unfold SeqAt.shaped
  rw [Bool.and_eq_true]
  refine ⟨h1, decide_eq_true ?_⟩
  have e : PyData.depth (.list (ws.map dk)) = PyData.depthAll (ws.map dk) + 1 := rfl
  omega
theorem eqv_dk : ∀ ws us : List Nat, PyData.eqvAll (ws.map dk) (us.map dk) = decide (ws = us)
  | [], [] => rfl
  | [], _ :: _ => rfl
  | _ :: _, [] => rfl
  | a :: r, b :: t => by
    show ((((a : Nat) : Int) == ((b : Nat) : Int)) && PyData.eqvAll (r.map dk) (t.map dk)) = _
    rw [eqv_dk r t]
    by_cases h : a = b
    · subst h
      simp
    · have h1 : (((a : Nat) : Int) == ((b : Nat) : Int)) = false := by simp; omega
      rw [h1]
      simp [h]
theorem strOk_of (s : String) : PyData.strOk (Str.ofString s) = true := by
  rw [Str.ofString_eq_toList]
  unfold PyData.strOk
  simp only [List.all_toArray, List.all_map, List.all_eq_true, Function.comp, decide_eq_true_eq]
  intro c _
  have := c.valid
  show c.val.toNat < 1114112
  rcases this with h | h
  · exact Nat.lt_trans h (by decide)
  · exact h.2
theorem can_dkl (ws : List Nat) : PyData.canLay0 (.list (ws.map dk)) = true := can_dk ws
/-- what a piece tells, as data -/
def outD (qs : List Fl) (o1 o2 : Option Int) (d1 d2 : PyData) : PyData :=
  if btw o1 0 (qs.length : Nat) = false then .tuple [.str d1.shown, .bool true, .bool false]
  else if btw o2 (o1.getD 0) (qs.length : Nat) = false then .tuple [.str d2.shown, .bool true, .bool false]
  else .list ((rb ((qs.take (o2.getD 0).toNat).drop (o1.getD 0).toNat)).map dk)
theorem out_can {qs : List Fl} {o1 o2 : Option Int} {d1 d2 : PyData} (h1 : PyData.strOk d1.shown = true) (h2 : PyData.strOk d2.shown = true) : PyData.canLay0 (outD qs o1 o2 d1 d2) = true := by
  unfold outD
  split
  · show (PyData.strOk d1.shown && (true && (true && true))) = true
    rw [h1]; rfl
  · split
    · show (PyData.strOk d2.shown && (true && (true && true))) = true
      rw [h2]; rfl
    · exact can_dkl _
theorem out_shp {qs : List Fl} {o1 o2 : Option Int} {d1 d2 : PyData} (h1 : PyData.strOk d1.shown = true) (h2 : PyData.strOk d2.shown = true) : SeqAt.shaped (outD qs o1 o2 d1 d2) = true := by
  have c := out_can (qs := qs) (o1 := o1) (o2 := o2) h1 h2
  unfold SeqAt.shaped
  rw [Bool.and_eq_true]
  refine ⟨c, decide_eq_true ?_⟩
  unfold outD
  split
  · simp [PyData.depth, PyData.depthAll]
  · split
    · simp [PyData.depth, PyData.depthAll]
    · have e := dep_dk (rb ((qs.take (o2.getD 0).toNat).drop (o1.getD 0).toNat))
      have e2 : PyData.depth (.list ((rb ((qs.take (o2.getD 0).toNat).drop (o1.getD 0).toNat)).map dk)) = PyData.depthAll ((rb ((qs.take (o2.getD 0).toNat).drop (o1.getD 0).toNat)).map dk) + 1 := rfl
      omega
theorem out_a {qs : List Fl} {o1 o2 : Option Int} {d1 d2 : PyData} (h : btw o1 0 (qs.length : Nat) = false) : outD qs o1 o2 d1 d2 = .tuple [.str d1.shown, .bool true, .bool false] := if_pos h
theorem out_b {qs : List Fl} {o2 : Option Int} {d1 d2 : PyData} {i : Nat} (hi : i ≤ qs.length) (h : btw o2 (i : Int) (qs.length : Nat) = false) : outD qs (some (i : Int)) o2 d1 d2 = .tuple [.str d2.shown, .bool true, .bool false] := by
  unfold outD
  rw [if_neg (by rw [show btw (some (i : Int)) 0 (qs.length : Nat) = true from decide_eq_true ⟨by omega, by omega⟩]; simp)]
  exact if_pos h
theorem out_c {qs : List Fl} {d1 d2 : PyData} {i j : Nat} (hij : i ≤ j) (hj : j ≤ qs.length) : outD qs (some (i : Int)) (some (j : Int)) d1 d2 = .list ((rb ((qs.take j).drop i)).map dk) := by
  unfold outD
  rw [if_neg (by rw [show btw (some (i : Int)) 0 (qs.length : Nat) = true from decide_eq_true ⟨by omega, by omega⟩]; simp)]
  have h : ¬ btw (some (j : Int)) (i : Int) (qs.length : Nat) = false := by
    rw [show btw (some (j : Int)) (i : Int) (qs.length : Nat) = true from decide_eq_true ⟨by omega, by omega⟩]; simp
  exact if_neg h
theorem nv_vi {K : PySem.W.Frag} {H : Hp} {i : Int} {o : Option Int} (h : NV K H (.int i) o) : o = some i := by
  cases h with
  | int _ => rfl
  | oth _ _ _ n => exact (n i rfl).elim
theorem dp_bad {K : PySem.W.Frag} {H : Hp} {t : Addr} {x : Str} (h : H t = some (.tup [.str x, .bl true, .bl false])) : Dp K H (.ref t) (.tuple [.str x, .bool true, .bool false]) := .tup (SqT.of h) (.cons (.str _) (.cons (.bl _) (.cons (.bl _) .nil)))
section
variable {P : Program} {w : World} {K : PySem.W.Frag} {mg : Str → Option Value} {base : Heap} {R PC W : Addr}
def FieldsAt (H : Hp) (lf : Addr) (L : Obs Fl) : Prop := H lf = some (.lst (refs L)) ∧ ∀ x ∈ L, H x.1 = some (.tup [fv x.2.1, fv x.2.2]) ∧ fokP x.2
theorem FieldsAt.same {H H' : Hp} {lf : Addr} {L : Obs Fl} (h : FieldsAt H lf L) (s : Same H H') : FieldsAt H' lf L := ⟨s _ _ h.1, fun x hx => ⟨s _ _ (h.2 x hx).1, (h.2 x hx).2⟩⟩
theorem if_fb {K : PySem.W.Frag} {σ : L2.St} {H : Hp} {R : VK} {t : Addr} {xs : List V} {j : Int} {o : Option Nat} (hs : σ[2]? = some (some (V.ref t))) (ht : H t = some (.tup xs)) (hx : atI xs j = some (fv o)) (q : R (vi (fb o)) H) :
    tIf (tTest (tOp (fun x y H Q => y = V.non ∧ Q (V.bl (decide (x = V.non))) H) (tOp (rIxT K) (tVar 2) (tC (V.int j))) (tC V.non))) (tC (V.int 0)) (tOp (rI0 fun i j => V.int (i + j)) (tOp (rIxT K) (tVar 2) (tC (V.int j))) (tC (V.int 1))) σ H R := by
  cases o with
  | none => exact ⟨_, hs, t, xs, j, _, rfl, rfl, SqT.of ht, hx, rfl, true, rfl, iteT q⟩
  | some k => exact ⟨_, hs, t, xs, j, _, rfl, rfl, SqT.of ht, hx, rfl, false, congrArg V.bl (decide_eq_false fun z => by cases z), iteF ⟨_, hs, t, xs, j, _, rfl, rfl, SqT.of ht, hx, _, _, rfl, rfl, q⟩⟩
theorem fmod_256 (n : Nat) : (n : Int).fmod 256 = ((n % 256 : Nat) : Int) := by
  rw [Int.fmod_eq_emod_of_nonneg _ (by decide)]
  rfl
def spNums : Sp := fun vs H Q _ => ∃ (lf : Addr) (L : Obs Fl), vs = [.ref lf] ∧ FieldsAt H lf L ∧ L.length ≤ 8 ∧ ∀ H' m, Same H H' → H m = none → H' m = some (.lst ((nums (L.map Prod.snd)).map vi)) → Q (.ref m) H'
theorem ok_nums {f : Addr} {fd : FuncData} (F : Fun K "_law_numbers" "_law_numbers" s_law_numbers f fd) (ml : mg "len" = none) (mi : mg "int" = none) (ms : mg "sum" = none) : FnOk P w K mg base CX0 1 f fd ["fields"] spNums := by
  refine F.ok sc_law_numbers (fun vs H Q E h => ?_) (fun cdv A outer s H vs Q E hr h => ?_)
  · obtain ⟨lf, L, rfl, _⟩ := h
    rfl
  · obtain ⟨lf, L, rfl, hL, hz, q⟩ := h
    have nd := sc_law_numbers.nd
    refine ⟨_, pss_cons (ps_set (i := 1) nd rfl (Or.inl rfl) (pe_lst (pa_cons (pe_callB call_len_seq (by rfl) ml PySem.boot_len (pa_cons (pv 0) pa_nil)) pa_nil)))
      (pss_cons (ps_for PassesOwn.never rfl (pi_list (pv 0)) (pg_name (i := 2) nd rfl (Or.inl rfl))
        (pss_one (ps_set (i := 1) nd rfl (Or.inl rfl) (pe_op op_cat (pv 1) (pe_lst (pa_cons (pe_ifExp (pt_cmpR op_isN (pe_ix ix_tup (pv 2) pe_int (fun _ _ => rfl)) pe_non (nomark _)) pe_int (pe_op op_add (pe_ix ix_tup (pv 2) pe_int (fun _ _ => rfl)) pe_int))
          (pa_cons (pe_ifExp (pt_cmpR op_isN (pe_ix ix_tup (pv 2) pe_int (fun _ _ => rfl)) pe_non (nomark _)) pe_int (pe_op op_add (pe_ix ix_tup (pv 2) pe_int (fun _ _ => rfl)) pe_int)) pa_nil))))))
      )
      (pss_one (ps_ret (pe_op op_cat (pv 1) (pe_lst (pa_cons (pe_op op_modN (pe_callTy call_int1 (by rfl) mi (by decide +kernel) (pa_cons (pe_callB (cr_sum rfl) (by rfl) ms (by decide +kernel) (pa_cons (pv 1) pa_nil)) pa_nil)) pe_int) pa_nil)))))), ?_⟩
    refine ⟨_, rfl, lf, _, rfl, .inl (SqL.of hL.1), by show 1 ≤ sizeLine; decide, fun a na => ?_⟩
    rw [refs_len]
    have sa := same_upd (o := .lst [V.int (L.length : Nat)]) na
    refine ⟨_, rfl, lf, rfl, ⟨_, SqL.of (sa _ _ hL.1)⟩, ?_⟩
    refine for_list (K := K) (a := lf) (xs := refs L) (fun i σ H' => ∃ (m : Addr) (v2 : Option V), σ = [some (.ref lf), some (.ref m), v2] ∧ Same H H' ∧ H m = none ∧ H' m = some (.lst ((L.length :: rb ((L.take i).map Prod.snd)).map vi))) ⟨a, none, rfl, sa, na, upd_same⟩ (fun i σ H' _ z => ?_) ?_ ?_
    · obtain ⟨_, _, _, s1, _⟩ := z
      exact SqL.of (s1 _ _ hL.1)
    · rintro i x σ H' hx ⟨m, v2, rfl, s1, nm, em⟩
      obtain ⟨y, hy, rfl⟩ := refs_get hx
      obtain ⟨ya, yb, ye⟩ := y
      have ey := s1 _ _ (hL.2 _ (List.mem_of_getElem? hy)).1
      have hi : i < L.length := (List.getElem?_eq_some_iff.mp hy).1
      have len3 : (rb ((L.take i).map Prod.snd)).length ≤ 16 := by rw [rb_len, List.length_map, List.length_take]; omega
      refine ⟨_, rfl, if_fb (K := K) rfl ey rfl (if_fb (K := K) rfl ey rfl ⟨by show 2 ≤ sizeLine; decide, fun a2 na2 => ?_⟩)⟩
      have s2 := same_upd (o := .lst [vi (fb yb), vi (fb ye)]) na2
      refine ⟨m, a2, _, _, rfl, rfl, s2 _ _ em, upd_same, ?_, fun b nb => ?_⟩
      · rw [List.length_map, List.length_cons]
        exact Nat.le_trans (show _ + 1 + 2 ≤ 19 by omega) (by decide)
      · refine ⟨b, some (.ref ya), rfl, (s1.trans s2).trans (same_upd nb), (s1.trans s2).free nb, ?_⟩
        have tk : L.take (i + 1) = L.take i ++ [(ya, yb, ye)] := by rw [List.take_add_one, hy]; rfl
        rw [upd_same, tk, List.map_append, rb_app, List.map_cons, List.map_cons, List.map_append]
        rfl
    · rintro σ H' ⟨m, v2, rfl, s1, nm, em⟩
      rw [refs_len, List.take_length] at em
      have zl : (rb (L.map Prod.snd)).length ≤ 16 := by rw [rb_len, List.length_map]; omega
      have hs : (((L.length :: rb (L.map Prod.snd)).map fun (k : Nat) => (k : Int)).sum) = ((L.length + (rb (L.map Prod.snd)).sum : Nat) : Int) := by rw [sum_vi, List.sum_cons]
      refine ⟨_, rfl, _, rfl, m, (L.length :: rb (L.map Prod.snd)).map fun (k : Nat) => (k : Int), rfl, SqL.of (by rw [map_int_vi]; exact em), .inl ⟨_, rfl, _, _, rfl, rfl, (show (256 : Int) ≠ 0 by decide), by show 1 ≤ sizeLine; decide, fun c nc => ?_⟩⟩
      rw [hs]
      have e256 : (fun (i j : Int) => V.int (i.fmod j)) ((L.length + (rb (L.map Prod.snd)).sum : Nat) : Int) 256 = V.int (((L.length + (rb (L.map Prod.snd)).sum) % 256 : Nat) : Int) := congrArg V.int (fmod_256 _)
      rw [e256]
      have s4 := same_upd (o := .lst [V.int (((L.length + (rb (L.map Prod.snd)).sum) % 256 : Nat) : Int)]) nc
      refine ⟨m, c, _, _, rfl, rfl, s4 _ _ em, upd_same, ?_, fun b nb => q _ b ((s1.trans s4).trans (same_upd nb)) ((s1.trans s4).free nb) ?_⟩
      · rw [List.length_map, List.length_cons]
        exact Nat.le_trans (show _ + 1 + 1 ≤ 18 by omega) (by decide)
      · rw [upd_same]
        unfold nums
        rw [List.length_map, List.map_append]
        rfl
/-! ### _law_due -/
end
end Toy
set_option Elab.async false
set_option linter.all false
set_option maxRecDepth 100000
set_option maxHeartbeats 4000000
namespace Vx
theorem allC_iff (c : Nat → Bool) : ∀ (k i : Nat), allC c i k = true ↔ ∀ j, i ≤ j → j < i + k → c j = true
  | 0, i => ⟨fun _ j h1 h2 => by omega, fun _ => rfl⟩
  | k + 1, i => by
    unfold allC
    rw [Bool.and_eq_true, allC_iff c k (i + 1)]
    refine ⟨fun h j h1 h2 => ?_, fun h => ⟨h i (Nat.le_refl _) (by omega), fun j h1 h2 => h j (by omega) (by omega)⟩⟩
    rcases Nat.eq_or_lt_of_le h1 with e | e
    · exact e ▸ h.1
    · exact h.2 j e (by omega)
theorem all_eq {α : Type} [DecidableEq α] (xs ys : List α) : (decide (xs.length = ys.length) && allC (fun i => decide (xs[i]? = ys[i]?)) 0 xs.length) = decide (xs = ys) := by
  rw [Bool.eq_iff_iff, Bool.and_eq_true, allC_iff, decide_eq_true_iff, decide_eq_true_iff]
  refine ⟨fun ⟨hl, h⟩ => List.ext_getElem? fun i => ?_, fun e => ⟨congrArg _ e, fun j _ _ => by rw [e]; exact decide_eq_true rfl⟩⟩
  by_cases hi : i < xs.length
  · exact of_decide_eq_true (h i (Nat.zero_le _) (by omega))
  · rw [List.getElem?_eq_none (by omega), List.getElem?_eq_none (by omega)]
end Vx
namespace Toy
open PySem PySem.Spec PyProof.Rows L2
section
variable {P : Program} {w : World} {K : PySem.W.Frag} {mg : Str → Option Value} {base : Heap} {R B PC W : Addr}
def DRow (R : Addr) : V → V → Hp → Bool → Prop := fun x y H c => ∃ (p q : Addr) (b e b' e' : Option Nat), x = .ref p ∧ y = .ref q ∧ RowAt R H p (fv b) (fv e) ∧ RowAt R H q (fv b') (fv e') ∧ c = decide (b = b' ∧ e = e')
theorem row_inj {H : Hp} {p : Addr} {b e b' e' : V} (h : RowAt R H p b e) (g : RowAt R H p b' e') : b = b' ∧ e = e' := by
  obtain ⟨d1, h⟩ := h
  obtain ⟨d2, g⟩ := g
  have z := Option.some.inj (h.symm.trans g)
  injection z with _ _ z
  injection z with z1 z2
  injection z2 with z2 _
  injection z1 with _ z1
  injection z2 with _ z2
  exact ⟨z1, z2⟩
theorem rows_eqv {L M : Obs Fl} {H : Hp} (hL : RowsAt R H L) (hM : RowsAt R H M) (i : Nat) (u v : V) (h1 : (refs L)[i]? = some u) (h2 : (refs M)[i]? = some v) : DRow R u v H (decide ((L.map Prod.snd)[i]? = (M.map Prod.snd)[i]?)) := by
  obtain ⟨y, hy, rfl⟩ := refs_get h1
  obtain ⟨z, hz, rfl⟩ := refs_get h2
  refine ⟨y.1, z.1, y.2.1, y.2.2, z.2.1, z.2.2, rfl, rfl, (hL y (List.mem_of_getElem? hy)).1, (hM z (List.mem_of_getElem? hz)).1, ?_⟩
  rw [List.getElem?_map, List.getElem?_map, hy, hz]
  refine decide_eq_decide.mpr ⟨fun h => ?_, fun h => congrArg some (Prod.ext h.1 h.2)⟩
  have h := Option.some.inj h
  exact ⟨congrArg Prod.fst h, congrArg Prod.snd h⟩
def spPgEq (K : PySem.W.Frag) (PC R : Addr) : Sp := fun vs H Q _ => ∃ (p q : Addr) (L M : Obs Fl), vs = [.ref p, .ref q] ∧ PageAt PC H p L ∧ PageAt PC H q M ∧ RowsAt R H L ∧ RowsAt R H M ∧ Q (.bl (decide (L.map Prod.snd = M.map Prod.snd))) H
theorem ok_pg_eq {f fE : Addr} {fd : FuncData} (F : Fun K "__eq__" "Page.__eq__" s_Page_eq f fd) (T : RowC K mg PC) (gP : mg "Page" = some (.ref PC)) (isi : mg "isinstance" = none) (nR : NoAttr K PC "_rows")
    (nf : PySem.W.notFirst K R (.ref R) = true) (at_ : PySem.W.findIn K (.ref R) "__eq__" = some (some (.ref fE))) (fn : PySem.W.isFn K (.ref fE) = true) (FE : FnR P w K mg base CX0 1 fE (spRowEq K R)) : FnOk P w K mg base CX0 3 f fd ["self", "other"] (spPgEq K PC R) := by
  refine F.ok sc_Page_eq (fun vs H Q E h => ?_) (fun cdv A outer s H vs Q E hr h => ?_)
  · obtain ⟨p, q, L, M, rfl, _⟩ := h
    rfl
  · obtain ⟨p, q, L, M, rfl, ⟨dx, l, h1, h2⟩, ⟨dy, m, g1, g2⟩, hL, hM, k⟩ := h
    have hr2 : Room 2 _ := hr.mono (by decide)
    refine ⟨_, pss_one (ps_ret (pe_and (pe_callB call_isi (by rfl) isi (by decide +kernel) (pa_cons (pv 1) (pa_cons (pe_glob (v := .ref PC) (by rfl) gP rfl) pa_nil)))
      (pe_one (pe_cmpR (Vx.op_eqL (n := 1) (D := DRow R) (Vx.eqB_ins (C := R) (E := E0) nf at_ fn FE pass0 fun x y H c d => by
        obtain ⟨a, b, b1, e1, b2, e2, rfl, rfl, ha, hb, rfl⟩ := d
        obtain ⟨d1, ea⟩ := id ha
        obtain ⟨d2, eb⟩ := id hb
        refine ⟨a, b, d1, d2, _, _, rfl, rfl, ea, eb, fun z => ?_, fun Q hq => ⟨a, _, b1, e1, rfl, ha, .inl ⟨b, b2, e2, rfl, hb, hq⟩⟩⟩
        subst z
        have z := row_inj ha hb
        exact decide_eq_true ⟨fv_inj.mp z.1, fv_inj.mp z.2⟩) hr2) (pe_fld (pv 0) rfl) (pe_fld (pv 1) rfl) (nomark _))))), ?_⟩
    refine ⟨_, rfl, .ref q, .ref PC, .ref PC, .ref PC, true, rfl, .own PC, .base (.ins g1 T.cl T.cC T.cG T.cT T.cM), T.kk, true, rfl, iteT ?_⟩
    refine ⟨_, rfl, p, PC, dx, _, _, rfl, h1, T.cl, nR, rfl, _, rfl, q, PC, dy, _, _, rfl, g1, T.cl, nR, rfl, l, m, _, _, _, rfl, rfl, h2, g2, rows_eqv hL hM, ?_⟩
    rw [refs_len, refs_len]
    have z := Vx.all_eq (L.map Prod.snd) (M.map Prod.snd)
    rw [List.length_map, List.length_map] at z
    rw [z]
    exact k
/-! ### += -/
def spIadd (PC R : Addr) : Sp := fun vs H Q _ => ∃ (pg r dx l : Addr) (L : Obs Fl) (b e : V), vs = [.ref pg, .ref r] ∧ H pg = some (.ins PC dx [("_rows", .ref l)]) ∧ H l = some (.lst (refs L)) ∧ L.length < 7 ∧ RowAt R H r b e ∧ Q (.ref pg) (upd H l (.lst (refs L ++ [.ref r])))
theorem ok_iadd {f : Addr} {fd : FuncData} (F : Fun K "__iadd__" "Page.__iadd__" s_Page_iadd f fd) (T : PgT K mg PC) (RC : RowC K mg R) (gR : mg "Row" = some (.ref R)) : FnOk P w K mg base CX0 1 f fd ["self", "row"] (spIadd PC R) := by
  obtain ⟨t7, g7⟩ := T.m7
  refine F.ok sc_Page_iadd (fun vs H Q E h => ?_) (fun cdv A outer s H vs Q E hr h => ?_)
  · obtain ⟨pg, r, dx, l, L, b, e, rfl, _⟩ := h
    rfl
  · obtain ⟨pg, r, dx, l, L, b, e, rfl, h1, h2, hz, hR, q⟩ := h
    refine ⟨_, pss_cons (ps_if (pt_not (pt_val (pe_callB call_isi (by rfl) T.isi (by decide +kernel) (pa_cons (pv 1) (pa_cons (pe_glob (v := .ref R) (by rfl) gR rfl) pa_nil))))) (pss_one ps_never) pss_nil)
      (pss_cons (ps_if (pt_cmpR op_eq (pe_callB call_len_seq (by rfl) T.len PySem.boot_len (pa_cons (pe_fld (pv 0) rfl) pa_nil)) (pe_glob (v := .int 7) (by rfl) g7 ⟨_, rfl⟩) (nomark _)) (pss_one ps_never) pss_nil)
      (pss_cons (ps_expr (pe_bm PySem.F.plainAttrs_list PySem.F.slot_list_append PySem.F.type_list_append mt_append (pe_fld (pv 0) rfl) (pa_cons (pv 1) pa_nil)))
      (pss_one (ps_ret (pv 0))))), ?_⟩
    refine ⟨_, rfl, .ref r, .ref R, .ref R, .ref R, true, rfl, .own R, RC.ty hR, RC.kk, true, rfl, iteF ?_⟩
    refine ⟨_, rfl, pg, PC, dx, _, _, rfl, h1, T.cl, T.nR, rfl, l, _, rfl, .inl (SqL.of h2), rfl, false, ?_, iteF ?_⟩
    · rw [refs_len]
      refine congrArg V.bl (decide_eq_false fun z => ?_)
      injection z with z
      omega
    refine ⟨_, rfl, pg, PC, dx, _, _, rfl, h1, T.cl, T.nR, rfl, ?_⟩
    refine ⟨Or.inl ⟨rfl, _, SqL.of h2⟩, _, rfl, l, _, _, rfl, rfl, h2, ?_, _, rfl, q⟩
    rw [refs_len]
    exact Nat.lt_trans hz (by decide)
end
end Toy
set_option Elab.async false
set_option linter.all false
set_option maxRecDepth 100000
set_option maxHeartbeats 4000000
namespace Toy
open PySem PySem.Spec PyProof.Rows L2
/-! ### a page made within -/
def PageNew (PC R : Addr) (H H' : Hp) (pg l : Addr) (M : Obs Fl) : Prop := Same H H' ∧ H pg = none ∧ H l = none ∧ l ≠ pg ∧ (∃ dx, H' pg = some (.ins PC dx [("_rows", .ref l)])) ∧ H' l = some (.lst (refs M)) ∧ RowsAt R H' M
theorem PageNew.at_ {PC R : Addr} {H H' : Hp} {pg l : Addr} {M : Obs Fl} (h : PageNew PC R H H' pg l M) : PageAt PC H' pg M := by
  obtain ⟨_, _, _, _, ⟨dx, e⟩, f, _⟩ := h
  exact ⟨dx, l, e, f⟩
theorem PageNew.same {PC R : Addr} {H H' H2 : Hp} {pg l : Addr} {M : Obs Fl} (h : PageNew PC R H H' pg l M) (s : Same H' H2) : PageNew PC R H H2 pg l M := by
  obtain ⟨a, b, c, n, ⟨dx, e⟩, f, g⟩ := h
  exact ⟨a.trans s, b, c, n, ⟨dx, s _ _ e⟩, s _ _ f, g.same s⟩
theorem PageNew.base {PC R : Addr} {H0 H H' : Hp} {pg l : Addr} {M : Obs Fl} (h : PageNew PC R H H' pg l M) (s : Same H0 H) : PageNew PC R H0 H' pg l M := by
  obtain ⟨a, b, c, n, e, f, g⟩ := h
  exact ⟨s.trans a, none_of s b, none_of s c, n, e, f, g⟩
theorem row_up {R : Addr} {H : Hp} {z l : Addr} {u v : V} {xs ys : List V} (hl : H l = some (.lst xs)) (h : RowAt R H z u v) : RowAt R (upd H l (.lst ys)) z u v := by
  obtain ⟨dz, gz⟩ := h
  exact ⟨dz, by rw [upd_ne (ne_of gz hl (by intro z; cases z))]; exact gz⟩
theorem ins_lstN {H : Hp} {a b C dx : Addr} {fs : List (Str × V)} {ys : List V} (h : H a = some (.ins C dx fs)) (g : H b = some (.lst ys)) : a ≠ b := ne_of h g (by intro z; cases z)
/-- a row put behind -/
theorem PageNew.put {PC R : Addr} {H H' : Hp} {pg l r : Addr} {M : Obs Fl} {q : Fl} (h : PageNew PC R H H' pg l M) (hr : RowAt R H' r (fv q.1) (fv q.2)) (hq : fokP q) : PageNew PC R H (upd H' l (.lst (refs M ++ [.ref r]))) pg l (M ++ [(r, q)]) := by
  obtain ⟨a, b, c, n, ⟨dx, e⟩, f, g⟩ := h
  refine ⟨fun z o ez => ?_, b, c, n, ⟨dx, ?_⟩, ?_, fun x hx => ?_⟩
  · rw [upd_ne (ne_of_none ez c)]
    exact a _ _ ez
  · rw [upd_ne n.symm]
    exact e
  · rw [upd_same, refs_append]
    rfl
  · rcases List.mem_append.mp hx with z | z
    · exact ⟨row_up f (g x z).1, (g x z).2⟩
    · rw [List.mem_singleton.mp z]
      exact ⟨row_up f hr, hq⟩
theorem row_goodP {R B : Addr} {K : PySem.W.Frag} {H : Hp} {b e : V} {ob oe : Option Int} {G : Hp → Prop} {E : XK} {x dx : Addr} (h1 : NV K H b ob) (h2 : NV K H e oe) (o1 : okf b ob = true) (o2 : okf e oe = true) (nx : H x = none) (nd : H dx = none) (q : ∀ H', Same H H' → RowAt R H' x b e → G H') :
    spRowI K R B [.ref x, b, e] (upd (upd H dx (.own x)) x (.ins R dx [])) (fun v H3 => v = .non ∧ G H3) E := by
  have s : Same H (upd (upd H dx (.own x)) x (.ins R dx [])) := fun c o y => by
    rw [upd_ne (ne_of_none y nx), upd_ne (ne_of_none y nd)]
    exact y
  refine ⟨H, x, dx, b, e, ob, oe, rfl, s, nx, upd_same, h1.same s, h2.same s, fun _ H' s' e' => ⟨rfl, q H' s' ⟨dx, e'⟩⟩, fun z => ?_⟩
  rw [o1, o2] at z
  cases z
theorem made_same {H : Hp} {x dx : Addr} {C : Addr} (nx : H x = none) (nd : H dx = none) : Same H (upd (upd H dx (.own x)) x (.ins C dx [])) := fun c o y => by
  rw [upd_ne (ne_of_none y nx), upd_ne (ne_of_none y nd)]
  exact y
theorem map_snd_len {α β : Type} {L : List (α × β)} {M : List (α × β)} (h : M.map Prod.snd = L.map Prod.snd) : M.length = L.length := by
  have := congrArg List.length h
  rwa [List.length_map, List.length_map] at this
section
variable {P : Program} {w : World} {K : PySem.W.Frag} {mg : Str → Option Value} {base : Heap} {R B PC W : Addr}
structure PgM (P : Program) (w : World) (K : PySem.W.Frag) (mg : Str → Option Value) (base : Heap) (R PC t f fA : Addr) (fd fdA : FuncData) : Prop where
  mkP : Mk K PC f
  g : mg "Page" = some (.ref PC)
  F : FnOk P w K mg base CX0 1 f fd ["self", "rows"] (spPageI K PC R)
  b1 : L2.Binds K fd ["self", "rows"] []
  F0 : FnOk P w K mg base CX0 1 f fd ["self", "rows"] (spPage0 K PC)
  b0 : ∃ u, RelV (.ref t) u ∧ L2.Binds K fd ["self", "rows"] [u]
  t0 : ∀ H, SqT K H t []
  cl : Cls K PC
  sf : PySem.W.selfFirst K PC = true
  ia : PySem.W.findIn K (.ref PC) "__iadd__" = some (some (.ref fA))
  fnA : PySem.W.isFn K (.ref fA) = true
  FA : FnOk P w K mg base CX0 1 fA fdA ["self", "row"] (spIadd PC R)
  bA : L2.Binds K fdA ["self", "row"] []
def spLawPage (PC R : Addr) : Sp := fun vs H Q _ => ∃ (lf : Addr) (L : Obs Fl), vs = [.ref lf] ∧ FieldsAt H lf L ∧ L.length ≤ 7 ∧ ∀ H' pg l M, PageNew PC R H H' pg l M → M.map Prod.snd = L.map Prod.snd → Q (.ref pg) H'
theorem ok_law_page {f fR fP fA t : Addr} {fd fdR fdP fdA : FuncData} (F : Fun K "_law_page" "_law_page" s_law_page f fd) (Z : RowM P w K mg base R B fR fdR) (N : PgM P w K mg base R PC t fP fA fdP fdA) : FnOk P w K mg base CX0 7 f fd ["fields"] (spLawPage PC R) := by
  refine F.ok sc_law_page (fun vs H Q E h => ?_) (fun cdv A outer s H vs Q E hr h => ?_)
  · obtain ⟨lf, L, rfl, _⟩ := h
    rfl
  · obtain ⟨lf, L, rfl, hF, hz, q⟩ := h
    have nd := sc_law_page.nd
    have hr1 : Room 1 _ := hr.mono (by decide)
    have hr2 : Room 2 _ := hr.mono (by decide)
    obtain ⟨u0, ru, b0⟩ := N.b0
    refine ⟨_, pss_cons (ps_set (i := 1) nd rfl (Or.inl rfl) (pe_make0 N.mkP N.F0 hr2 (by rfl) N.g b0 (.cons ru .nil) pass0))
      (pss_cons (ps_for PassesOwn.never rfl (pi_list (pv 0)) (pg_name (i := 2) nd rfl (Or.inl rfl))
        (pss_one (ps_aug (i := 1) nd rfl (Or.inl rfl) (pe_make Z.mkR Z.F hr (by rfl) Z.gR Z.b2 .nil passL (pa_cons (pe_ix ix_tup (pv 2) pe_int (fun _ _ => rfl)) (pa_cons (pe_ix ix_tup (pv 2) pe_int (fun _ _ => rfl)) pa_nil))) (Vx.pip_own (E := E0) N.sf N.ia N.fnA (Vx.fnR N.FA N.bA) hr1 pass0))))
      (pss_one (ps_ret (pv 1)))), ?_⟩
    intro pg dpg npg ndpg nepg
    refine ⟨H, pg, dpg, t, rfl, made_same npg ndpg, npg, upd_same, N.t0 _, fun H1 l s1 nl nlp e1 el => ⟨rfl, ?_⟩⟩
    refine ⟨_, rfl, lf, rfl, ⟨_, SqL.of (s1 _ _ hF.1)⟩, for_it (walk_list (K := K) (a := lf) (xs := refs L)) (fun i σ H' => ∃ (v : Option V) (M : Obs Fl), σ = [some (.ref lf), some (.ref pg), v] ∧ PageNew PC R H H' pg l M ∧ M.map Prod.snd = (L.take i).map Prod.snd) ⟨none, [], rfl, ⟨s1, npg, nl, nlp, ⟨dpg, e1⟩, el, fun x h => absurd h List.not_mem_nil⟩, rfl⟩ (fun i σ H' _ z => ?_) ?_ ?_⟩
    · obtain ⟨_, _, _, z, _⟩ := z
      exact SqL.of (z.1 _ _ hF.1)
    · rintro i x σ H' H2 hi ⟨v, M, rfl, hN, hM⟩ ⟨rfl, hx⟩
      obtain ⟨y, hy, rfl⟩ := refs_get hx
      have fy := hF.2 y (List.mem_of_getElem? hy)
      have ey := hN.1 _ _ fy.1
      refine ⟨_, rfl, _, rfl, y.1, _, _, _, rfl, rfl, SqT.of ey, rfl, _, rfl, y.1, _, _, _, rfl, rfl, SqT.of ey, rfl, ?_⟩
      intro r dr nr ndr ner
      refine row_goodP (NV.fv y.2.1) (NV.fv y.2.2) (okf_fv fy.2.1) (okf_fv fy.2.2) nr ndr fun H6 s6 h6 => ?_
      have hN6 := hN.same s6
      obtain ⟨_, _, _, _, ⟨dx, e6⟩, l6, _⟩ := id hN6
      have hi : i < L.length := (List.getElem?_eq_some_iff.mp hy).1
      have hMl : M.length = i := by
        have := congrArg List.length hM
        rw [List.length_map, List.length_map, List.length_take] at this
        omega
      refine ⟨⟨pg, dx, _, rfl, e6⟩, pg, r, dx, l, M, _, _, rfl, e6, l6, by omega, h6, ?_⟩
      refine ⟨_, M ++ [(r, y.2)], rfl, hN6.put h6 fy.2, ?_⟩
      rw [List.map_append, hM, List.take_add_one, hy, List.map_append]
      rfl
    · rintro σ H' ⟨v, M, rfl, hN, hM⟩
      rw [refs_len, List.take_length] at hM
      exact ⟨_, rfl, q _ _ _ _ hN hM⟩
end
end Toy
set_option Elab.async false
set_option linter.all false
set_option maxRecDepth 100000
set_option maxHeartbeats 4000000
namespace Toy
open PySem PySem.Spec PyProof.Rows L2
theorem rb_get : ∀ {qs : List Fl} {i : Nat} {q : Fl}, qs[i]? = some q → (rb qs)[2 * i]? = some (fb q.1) ∧ (rb qs)[2 * i + 1]? = some (fb q.2)
  | [], _, _, h => by simp at h
  | a :: r, 0, q, h => by
    simp at h
    subst h
    exact ⟨rfl, rfl⟩
  | a :: r, i + 1, q, h => by
    have z := rb_get (qs := r) (i := i) (q := q) (by simpa using h)
    have e1 : 2 * (i + 1) = (2 * i) + 1 + 1 := by omega
    unfold rb
    rw [e1]
    exact ⟨by simpa using z.1, by simpa using z.2⟩
theorem nums_len (qs : List Fl) : (nums qs).length = 2 * qs.length + 2 := by
  unfold nums
  rw [List.length_append, List.length_cons, rb_len]
  rfl
theorem nums_get {qs : List Fl} {j : Nat} (h : j < 2 * qs.length) : (nums qs)[1 + j]? = (rb qs)[j]? := by
  unfold nums
  rw [List.getElem?_append_left (by rw [List.length_cons, rb_len]; omega), Nat.add_comm, List.getElem?_cons_succ]
theorem nums_end (qs : List Fl) : (nums qs)[2 * qs.length + 1]? = some ((qs.length + (rb qs).sum) % 256) := by
  unfold nums
  rw [List.getElem?_append_right (by rw [List.length_cons, rb_len]; omega), List.length_cons, rb_len, Nat.sub_self]
  rfl
theorem nums_take (qs : List Fl) : (nums qs).take (2 * qs.length + 1) = qs.length :: rb qs := by
  unfold nums
  rw [List.take_append_of_le_length (by rw [List.length_cons, rb_len]; omega), List.take_of_length_le (by rw [List.length_cons, rb_len]; omega)]
/-- reading one byte of data -/
theorem rd_item {Q : VK} {H : Hp} {ns : List Nat} {i k : Nat} (hz : ns.length ≤ 16) (h : ns[i]? = some k) (hk : k < 256) (q : Q (vi k) H) :
    ∃ (z : List UInt8) (j : Int), V.byt (bA ns) = .byt z.toArray ∧ vi i = .int j ∧ z.length ≤ sizeLine ∧ 0 ≤ j ∧ j < z.length ∧ Q (.int ((z.getD j.toNat 0).toNat : Nat)) H := by
  have hi : i < ns.length := (List.getElem?_eq_some_iff.mp h).1
  refine ⟨(ns.map fun (k : Nat) => (k : Int)).map fun n => n.toNat.toUInt8, i, rfl, rfl, ?_, Int.natCast_nonneg _, ?_, ?_⟩
  · rw [List.length_map, List.length_map]
    exact Nat.le_trans hz (by decide)
  · rw [List.length_map, List.length_map]
    exact Int.ofNat_lt.mpr hi
  · rw [Int.toNat_natCast, List.getD_eq_getElem?_getD, List.getElem?_map, List.getElem?_map, h]
    show Q (.int ((((k : Int)).toNat.toUInt8.toNat : Nat) : Int)) H
    rw [Int.toNat_natCast, show k.toUInt8.toNat = k from by show k % 256 = k; omega]
    exact q
theorem rd_at {ns : List Nat} {i k : Nat} (hz : ns.length ≤ 16) (h : ns[i]? = some k) (hk : k < 256) :
    ∃ (z : List UInt8) (j : Int), V.byt (bA ns) = .byt z.toArray ∧ vi i = .int j ∧ z.length ≤ sizeLine ∧ 0 ≤ j ∧ j < z.length ∧ V.int ((z.getD j.toNat 0).toNat : Nat) = vi k :=
  rd_item (H := fun _ => none) (Q := fun v _ => v = vi k) hz h hk rfl
theorem rg_step : ∀ n : Nat, n ≤ 7 → RgC 1 ((2 * n + 1 : Nat) : Int) 2 n
  | 0, _ => ⟨by decide, by decide, by decide, by decide⟩
  | 1, _ => ⟨by decide, by decide, by decide, by decide⟩
  | 2, _ => ⟨by decide, by decide, by decide, by decide⟩
  | 3, _ => ⟨by decide, by decide, by decide, by decide⟩
  | 4, _ => ⟨by decide, by decide, by decide, by decide⟩
  | 5, _ => ⟨by decide, by decide, by decide, by decide⟩
  | 6, _ => ⟨by decide, by decide, by decide, by decide⟩
  | 7, _ => ⟨by decide, by decide, by decide, by decide⟩
  | _ + 8, h => by omega
theorem bA_upto {ns : List Nat} {k : Nat} (h : k ≤ ns.length) : PySem.W.KBy.picked (bA ns) none (some (k : Int)) = bA (ns.take k) := by
  unfold bA
  rw [byteArr_upto (by rw [List.length_map]; exact h), List.map_take]
theorem neF {x y : V} (h : x = y) : V.bl (!decide (x = y)) = V.bl false := by rw [decide_eq_true h]; rfl
section
variable {P : Program} {w : World} {K : PySem.W.Frag} {mg : Str → Option Value} {base : Heap} {R B PC W : Addr}
def spWr : Sp := fun vs H Q _ => ∃ o : Option Nat, vs = [vi (fb o)] ∧ Q (fv o) H
theorem ok_wr {f : Addr} {fd : FuncData} (F : Fun K "_writer" "_writer" s_writer f fd) : FnOk P w K mg base CX0 1 f fd ["byte"] spWr := by
  refine F.ok sc_writer (fun vs H Q E h => ?_) (fun cdv A outer s H vs Q E hr h => ?_)
  · obtain ⟨o, rfl, _⟩ := h
    rfl
  · obtain ⟨o, rfl, q⟩ := h
    refine ⟨_, pss_one (ps_ret (pe_ifExp (pt_cmpR op_eq (pv 0) pe_int (nomark _)) pe_non (pe_op op_sub (pv 0) pe_int))), ?_⟩
    cases o with
    | none => exact ⟨_, rfl, rfl, true, rfl, iteT q⟩
    | some k =>
      refine ⟨_, rfl, rfl, false, congrArg V.bl (decide_eq_false fun z => ?_), iteF ⟨_, rfl, _, _, rfl, rfl, ?_⟩⟩
      · injection z with z
        have z : ((k + 1 : Nat) : Int) = 0 := z
        omega
      · show Q (.int (((k + 1 : Nat) : Int) - 1)) H
        rw [show ((k + 1 : Nat) : Int) - 1 = (k : Int) by omega]
        exact q
def spRead (PC R : Addr) : Sp := fun vs H Q _ => ∃ qs : List Fl, vs = [.byt (bA (nums qs))] ∧ qs.length ≤ 7 ∧ (∀ q ∈ qs, fokP q) ∧ ∀ H' pg l M, PageNew PC R H H' pg l M → M.map Prod.snd = qs → Q (.ref pg) H'
structure RdT (mg : Str → Option Value) : Prop where
  bytes : mg "bytes" = none
  range : mg "range" = none
  sum : mg "sum" = none
  lw : ∃ t, mg "LAST_WRITER" = some (.int 30 t)
theorem ok_read {f fR fP fA fW t : Addr} {fd fdR fdP fdA fdW : FuncData} (F : Fun K "read" "Page.read" s_Page_read f fd) (T : PgT K mg PC) (D : RdT mg) (Z : RowM P w K mg base R B fR fdR) (N : PgM P w K mg base R PC t fP fA fdP fdA) (Wc : Cal P w K mg base CX0 1 fW fdW "_writer" ["byte"] spWr) : FnOk P w K mg base CX0 7 f fd ["data"] (spRead PC R) := by
  obtain ⟨t7, g7⟩ := T.m7
  obtain ⟨tw, gw⟩ := D.lw
  refine F.ok sc_Page_read (fun vs H Q E h => ?_) (fun cdv A outer s H vs Q E hr h => ?_)
  · obtain ⟨qs, rfl, _⟩ := h
    rfl
  · obtain ⟨qs, rfl, hz, hq, q⟩ := h
    have nd := sc_Page_read.nd
    have hr1 : Room 1 _ := hr.mono (by decide)
    have hr2 : Room 2 _ := hr.mono (by decide)
    refine ⟨_, pss_cons (ps_if (pt_not (pt_val (pe_callB call_isi_byt (by rfl) T.isi (by decide +kernel) (pa_cons (pv 0) (pa_cons (pe_bltn (v := .ty "bytes") (by rfl) D.bytes (by decide +kernel) rfl) pa_nil))))) (pss_one ps_never) pss_nil)
      (pss_cons (ps_if (PW.pt (pw_or (pt_cmpR op_eq (pe_callB call_len (by rfl) T.len PySem.boot_len (pa_cons (pv 0) pa_nil)) pe_int (nomark _)) (pw_or (pt_cmpR op_gt (pe_item_byt (pv 0) pe_int (fun _ _ => rfl)) (pe_glob (v := .int 7) (by rfl) g7 ⟨_, rfl⟩) (nomark _))
        (pw_or1 (pt_cmpR op_ne (pe_callB call_len (by rfl) T.len PySem.boot_len (pa_cons (pv 0) pa_nil)) (pe_op op_add (pe_op op_mul pe_int (pe_item_byt (pv 0) pe_int (fun _ _ => rfl))) pe_int) (nomark _)))))) (pss_one ps_never) pss_nil)
      (pss_cons (ps_set (i := 1) nd rfl (Or.inl rfl) (pe_op op_sub (pe_callB call_len (by rfl) T.len PySem.boot_len (pa_cons (pv 0) pa_nil)) pe_int))
      (pss_cons (ps_for PassesOwn.never rfl (pi_range2 (by rfl) D.range (pa_cons pe_int (pa_cons (pv 1) pa_nil))) (pg_name (i := 2) nd rfl (Or.inl rfl))
        (pss_one (ps_if (pt_cmpR op_gt (pe_item_byt (pv 0) (pv 2) (fun _ _ => rfl)) (pe_op op_add (pe_glob (v := .int 30) (by rfl) gw ⟨_, rfl⟩) pe_int) (nomark _)) (pss_one ps_never) pss_nil)))
      (pss_cons (ps_if (pt_cmpR op_ne (pe_item_byt (pv 0) (pv 1) (fun _ _ => rfl)) (pe_op op_and (pe_callB (cr_sum rfl) (by rfl) D.sum (by decide +kernel) (pa_cons (pe_listOfB rfl (by rfl) T.list (pe_slice sl_byt (pv 0) po_none (po_some (pv 1)))) pa_nil)) pe_int) (nomark _)) (pss_one ps_never) pss_nil)
      (pss_one (ps_ret (pe_make N.mkP N.F hr2 (by rfl) N.g N.b1 .nil pass0 (pa_cons (pe_lc (own := [("at", 2)]) (g := gName 2) (tt := tYes) rfl nd (pi_range3 (by rfl) D.range (pa_cons pe_int (pa_cons (pv 1) (pa_cons pe_int pa_nil))))
        (blkOk_by (own := [("at", 2)]) (N := ["data", "last", "at"]) (sc := defScope s_Page_read) (by decide +kernel)) (fun _ _ _ _ _ => pg_name (i := 2) nd rfl (Or.inl rfl)) (fun _ _ _ _ _ => pts_nil)
        (fun _ _ _ _ _ => pe_make Z.mkR Z.F hr (by rfl) Z.gR Z.b2 .nil passL (pa_cons (pe_call Wc.G hr1 (by rfl) Wc.g Wc.k Wc.b .nil pass0 (pa_cons (pe_item_byt (pv 0) (pv 2) (fun _ _ => rfl)) pa_nil)) (pa_cons (pe_call Wc.G hr1 (by rfl) Wc.g Wc.k Wc.b .nil pass0 (pa_cons (pe_item_byt (pv 0) (pe_op op_add (pv 2) pe_int) (fun _ _ => rfl)) pa_nil)) pa_nil)))) pa_nil)))))))), ?_⟩
    have zn : (nums qs).length ≤ 16 := by rw [nums_len]; omega
    have hsz : (bA (nums qs)).size = 2 * qs.length + 2 := by rw [bA_size, nums_len]
    have hsl : (bA (nums qs)).size ≤ sizeLine := by rw [hsz]; exact Nat.le_trans (show _ ≤ 16 by omega) (by decide)
    have r31 := rb_lt hq
    have i0 : (nums qs)[0]? = some qs.length := rfl
    obtain ⟨z0, j0, a1, a2, a3, a4, a5, a6⟩ := rd_at zn i0 (by omega)
    refine ⟨_, rfl, _, rfl, true, rfl, iteF ?_⟩
    refine ⟨_, rfl, _, 2 * qs.length + 2, rfl, ⟨hsl, hsz.symm⟩, rfl, false, ?_, iteF ?_⟩
    · refine congrArg V.bl (decide_eq_false fun z => ?_)
      injection z with z
      omega
    refine ⟨_, rfl, z0, j0, a1, a2, a3, a4, a5, ?_⟩
    rw [a6]
    refine ⟨_, _, rfl, rfl, false, ?_, iteF ?_⟩
    · exact congrArg V.bl (decide_eq_false (by omega))
    refine ⟨_, rfl, _, 2 * qs.length + 2, rfl, ⟨hsl, hsz.symm⟩, _, rfl, z0, j0, a1, a2, a3, a4, a5, ?_⟩
    rw [a6]
    refine ⟨_, _, rfl, rfl, Or.inl ⟨by decide, by decide⟩, _, _, rfl, rfl, rfl, false, ?_, iteF ?_⟩
    · refine neF ?_
      refine congrArg V.int ?_
      omega
    refine ⟨_, rfl, _, 2 * qs.length + 2, rfl, ⟨hsl, hsz.symm⟩, _, _, rfl, rfl, ?_⟩
    have el : (fun (i j : Int) => V.int (i - j)) ((2 * qs.length + 2 : Nat) : Int) 1 = vi (2 * qs.length + 1) := congrArg V.int (by omega)
    rw [el]
    refine ⟨_, rfl, 1, ((2 * qs.length + 1 : Nat) : Int), rfl, ⟨by decide, by decide, by omega, by omega⟩, ?_⟩
    have en : (((2 * qs.length + 1 : Nat) : Int) - 1).toNat = 2 * qs.length := by omega
    rw [en]
    refine for_range (lo := 1) (n := 2 * qs.length) (fun i σ H' => ∃ v : Option V, σ = [some (.byt (bA (nums qs))), some (vi (2 * qs.length + 1)), v] ∧ H' = H) ⟨none, rfl, rfl⟩ ?_ ?_
    · rintro i σ H' hi ⟨v, rfl, rfl⟩
      have hrb : i < (rb qs).length := by rw [rb_len]; exact hi
      have hk := r31 _ (List.getElem_mem hrb)
      obtain ⟨z, j, b1, b2, b3, b4, b5, b6⟩ := rd_at zn ((nums_get hi).trans (List.getElem?_eq_getElem hrb)) (by omega)
      have b2 : V.int (1 + (i : Int)) = .int j := by rw [← b2]; exact congrArg V.int (by omega)
      refine ⟨_, rfl, _, rfl, z, j, b1, b2, b3, b4, b5, ?_⟩
      rw [b6]
      refine ⟨_, _, rfl, rfl, _, _, rfl, rfl, false, ?_, iteF ⟨_, rfl, rfl⟩⟩
      exact congrArg V.bl (decide_eq_false (by omega))
    rintro σ H0 ⟨v, rfl, rfl⟩
    obtain ⟨zl, jl, c1, c2, c3, c4, c5, c6⟩ := rd_at zn (nums_end qs) (Nat.mod_lt _ (by decide))
    refine ⟨_, rfl, _, rfl, zl, jl, c1, c2, c3, c4, c5, ?_⟩
    rw [c6]
    refine ⟨_, rfl, _, rfl, _, rfl, _, rfl, hsl, ?_⟩
    have ep : PySem.W.KBy.picked (bA (nums qs)) none (some ((2 * qs.length + 1 : Nat) : Int)) = bA (qs.length :: rb qs) := by rw [bA_upto (by rw [nums_len]; omega), nums_take]
    rw [ep]
    have zb : (bA (qs.length :: rb qs)).size ≤ sizeLine := by
      rw [bA_size, List.length_cons, rb_len]
      exact Nat.le_trans (show _ ≤ 16 by omega) (by decide)
    refine ⟨_, rfl, zb, fun m nm => ?_⟩
    have hb256 : ∀ k ∈ qs.length :: rb qs, k < 256 := fun k hk => by
      rcases List.mem_cons.mp hk with e | e
      · omega
      · have := r31 k e
        omega
    refine ⟨m, (qs.length :: rb qs).map fun (k : Nat) => (k : Int), rfl, SqL.of (by rw [map_int_vi, bA_list hb256]; exact upd_same), _, _, rfl, rfl, rfl, false, ?_, iteF ?_⟩
    · refine neF ?_
      rw [sum_vi, List.sum_cons]
      exact (congrArg V.int (and_255 _)).symm
    have s1 := same_upd (o := .lst ((bi (bA (qs.length :: rb qs))).map V.int)) nm
    refine ⟨_, rfl, _, _, _, qs.length, rfl, rg_step _ hz, fun lr nlr => ?_⟩
    refine lc_it (walk_rangeC (lo := 1) (c := 2) (n := qs.length)) (fun i H' => Same H0 H' ∧ ∃ M : Obs Fl, H' lr = some (.lst (refs M)) ∧ M.map Prod.snd = qs.take i ∧ RowsAt R H' M) ⟨s1.trans (same_upd nlr), [], upd_same, rfl, fun x h => absurd h List.not_mem_nil⟩ (fun _ _ _ _ => trivial) ?_ ?_
    · rintro i x H' H2 hi ⟨s5, M, e5, hM, rM⟩ ⟨rfl, rfl⟩
      have hqi : qs[i]? = some qs[i] := List.getElem?_eq_getElem hi
      have fq := hq _ (List.getElem_mem hi)
      obtain ⟨g1, g2⟩ := rb_get hqi
      have w1 := (fb_lt fq.1)
      have w2 := (fb_lt fq.2)
      obtain ⟨z, j, b1, b2, b3, b4, b5, b6⟩ := rd_at zn ((nums_get (by omega)).trans g1) (by omega)
      obtain ⟨z', j', d1, d2, d3, d4, d5, d6⟩ := rd_at zn ((nums_get (by omega)).trans g2) (by omega)
      have b2 : V.int (1 + (i : Int) * 2) = .int j := by rw [← b2]; exact congrArg V.int (by omega)
      have d2 : V.int (1 + (i : Int) * 2 + 1) = .int j' := by rw [← d2]; exact congrArg V.int (by omega)
      refine ⟨rfl, _, rfl, _, rfl, z, j, b1, b2, b3, b4, b5, ?_⟩
      rw [b6]
      refine ⟨_, rfl, _, rfl, _, rfl, _, _, rfl, rfl, z', j', d1, d2, d3, d4, d5, ?_⟩
      rw [d6]
      refine ⟨_, rfl, ?_⟩
      intro r dr nr ndr ner
      refine row_goodP (NV.fv qs[i].1) (NV.fv qs[i].2) (okf_fv fq.1) (okf_fv fq.2) nr ndr fun H6 s6 h6 => ?_
      have e6 := s6 _ _ e5
      refine ⟨_, e6, ?_, fun b o eb => ?_, M ++ [(r, qs[i])], ?_, ?_, ?_⟩
      · rw [refs_len]
        have := congrArg List.length hM
        rw [List.length_map, List.length_take] at this
        exact Nat.lt_of_le_of_lt (show M.length ≤ 7 by omega) (by decide)
      · rw [upd_ne (ne_of_none eb (none_of s1 nlr))]
        exact s6 _ _ (s5 _ _ eb)
      · rw [upd_same, refs_append]
        rfl
      · rw [List.map_append, hM, List.take_add_one, hqi]
        rfl
      · intro x hx
        rcases List.mem_append.mp hx with h | h
        · exact ⟨row_up e6 ((rM x h).1.same s6), (rM x h).2⟩
        · rw [List.mem_singleton.mp h]
          exact ⟨row_up e6 h6, fq⟩
    rintro H5 ⟨s5, M, e5, hM, rM⟩
    rw [List.take_length] at hM
    have hM7 : M.length ≤ 7 := by
      have := congrArg List.length hM
      rw [List.length_map] at this
      omega
    intro pg dpg npg ndpg nepg
    refine ⟨H5, pg, dpg, lr, M, rfl, made_same npg ndpg, npg, upd_same, SqL.of e5, hM7, rM, fun H6 lp s6 nlp pg6 elp => ⟨rfl, q _ pg lp M ⟨s5.trans s6, none_of s5 npg, none_of s5 nlp, (ins_lstN pg6 elp).symm, ⟨dpg, pg6⟩, elp, rM.same s6⟩ hM⟩⟩
end
end Toy
set_option Elab.async false
set_option linter.all false
set_option maxRecDepth 100000
set_option maxHeartbeats 4000000
namespace Toy
open PySem PySem.Spec PyProof.Rows L2
/-! ### lists of fields as data -/
def oD : Option Nat → PyData
  | none => .none
  | some k => .int (k : Int)
def fD (q : Fl) : PyData := .tuple [oD q.1, oD q.2]
theorem oD_eqv (a b : Option Nat) : PyData.eqv (oD a) (oD b) = decide (a = b) := by
  cases a with
  | none =>
    cases b with
    | none => rfl
    | some k => rfl
  | some j =>
    cases b with
    | none => rfl
    | some k =>
      show (((j : Nat) : Int) == ((k : Nat) : Int)) = _
      by_cases h : j = k
      · subst h; simp
      · have h1 : (((j : Nat) : Int) == ((k : Nat) : Int)) = false := by simp; omega
        rw [h1]
        simp [h]
theorem fD_eqv (a b : Fl) : PyData.eqv (fD a) (fD b) = decide (a = b) := by
  show (PyData.eqv (oD a.1) (oD b.1) && (PyData.eqv (oD a.2) (oD b.2) && true)) = _
  rw [oD_eqv, oD_eqv, Bool.and_true, ← Bool.decide_and]
  exact decide_eq_decide.mpr ⟨fun h => Prod.ext h.1 h.2, fun h => ⟨congrArg Prod.fst h, congrArg Prod.snd h⟩⟩
theorem fDs_eqv : ∀ ws us : List Fl, PyData.eqvAll (ws.map fD) (us.map fD) = decide (ws = us)
  | [], [] => rfl
  | [], _ :: _ => rfl
  | _ :: _, [] => rfl
  | a :: r, b :: t => by
    show (PyData.eqv (fD a) (fD b) && PyData.eqvAll (r.map fD) (t.map fD)) = _
    rw [fDs_eqv r t, fD_eqv, ← Bool.decide_and]
    exact decide_eq_decide.mpr ⟨fun h => by rw [h.1, h.2], fun h => by injection h with h1 h2; exact ⟨h1, h2⟩⟩
def lD (qs : List Fl) : PyData := .list (qs.map fD)
theorem lD_eqv (ws us : List Fl) : PyData.eqv (lD ws) (lD us) = decide (ws = us) := fDs_eqv ws us
theorem oD_can (a : Option Nat) : PyData.canLay0 (oD a) = true := by cases a <;> rfl
theorem oD_dep (a : Option Nat) : PyData.depth (oD a) ≤ 1 := by cases a <;> first | exact Nat.zero_le _ | exact Nat.le_refl _
theorem fD_can : ∀ ws : List Fl, PyData.canLayAll0 (ws.map fD) = true
  | [] => rfl
  | a :: r => by
    show (PyData.canLay0 (fD a) && PyData.canLayAll0 (r.map fD)) = true
    rw [fD_can r, Bool.and_true]
    show (PyData.canLay0 (oD a.1) && (PyData.canLay0 (oD a.2) && true)) = true
    rw [oD_can, oD_can]
    rfl
theorem fD_dep : ∀ ws : List Fl, PyData.depthAll (ws.map fD) ≤ 2
  | [] => by decide
  | a :: r => by
    have ih := fD_dep r
    have e : PyData.depthAll (fD a :: r.map fD) = max (PyData.depth (fD a)) (PyData.depthAll (r.map fD)) := rfl
    have e2 : PyData.depth (fD a) = max (PyData.depth (oD a.1)) (max (PyData.depth (oD a.2)) 0) + 1 := rfl
    have h1 := oD_dep a.1
    have h2 := oD_dep a.2
    rw [List.map_cons, e, e2]
    omega
theorem lD_shp (ws : List Fl) : SeqAt.shaped (lD ws) = true := by
  have h1 := fD_can ws
  have h2 := fD_dep ws
  unfold SeqAt.shaped
  rw [Bool.and_eq_true]
  refine ⟨h1, decide_eq_true ?_⟩
  have e : PyData.depth (.list (ws.map fD)) = PyData.depthAll (ws.map fD) + 1 := rfl
  show PyData.depth (.list (ws.map fD)) ≤ 64
  omega
theorem dp_fv {K : PySem.W.Frag} {H : Hp} (o : Option Nat) : Dp K H (fv o) (oD o) := by
  cases o with
  | none => exact .non
  | some k => exact .int _
theorem dp_all {K : PySem.W.Frag} {H : Hp} : ∀ L : Obs Fl, (∀ x ∈ L, H x.1 = some (.tup [fv x.2.1, fv x.2.2])) → DpAll K H (refs L) ((L.map Prod.snd).map fD)
  | [], _ => .nil
  | x :: r, h => .cons (.tup (SqT.of (h x List.mem_cons_self)) (.cons (dp_fv _) (.cons (dp_fv _) .nil))) (dp_all r fun y hy => h y (List.mem_cons_of_mem _ hy))
theorem dp_flds {K : PySem.W.Frag} {H : Hp} {lf : Addr} {L : Obs Fl} (h : FieldsAt H lf L) : Dp K H (.ref lf) (lD (L.map Prod.snd)) := .lst (SqL.of h.1) (dp_all L fun x hx => (h.2 x hx).1)
theorem eqv_dkl (ws us : List Nat) : PyData.eqv (.list (ws.map dk)) (.list (us.map dk)) = decide (ws = us) := eqv_dk ws us
theorem rb_inj7 {a b : List Fl} (h : nums a = nums b) : a = b := by
  unfold nums at h
  have z := congrArg (fun l => l.dropLast) h
  simp only [List.dropLast_concat] at z
  injection z with _ z
  exact rb_inj z
end Toy
set_option Elab.async false
set_option linter.all false
set_option maxRecDepth 100000
set_option maxHeartbeats 4000000
namespace Vx
open PySem PySem.Spec PyProof.Rows L2
section
variable {X : Cx} {CX : CXT} {k : Nat} {C f : Addr} {sp : Sp} {E : XK}
/-- len(o) of an own class -/
def rLenOwn (C : Addr) (sp : Sp) (E : XK) : List V → Hp → VK → Prop := fun xs H Q => (∃ a dx fs, xs = [.ref a] ∧ H a = some (.ins C dx fs)) ∧ sp xs H (fun v H' => ∃ n : Nat, v = .int n ∧ n < 1000000 ∧ Q (.int n) H') E
theorem call_lenOwn (at_ : PySem.W.findIn X.K (.ref C) "__len__" = some (some (.ref f))) (fn : PySem.W.isFn X.K (.ref f) = true) (F : FnR X.prog X.w X.K X.mg X.base CX k f sp) (hr : Room (k + 1) X.A) (hx : Passes CX X E) : CallR X (.builtin "len") (rLenOwn C sp E) := by
  intro pins s σ H xs us Q I r h
  obtain ⟨⟨a, dx, fs, rfl, ha⟩, hsp⟩ := h
  obtain ⟨u, rfl, rx⟩ := vals1 r
  cases rx
  have sb : Sub X k X.A.in1 := (⟨hr, rfl⟩ : Sub X (k + 1) X.A).in1
  obtain ⟨mA, J, _⟩ := ins_get I.hok ha
  obtain ⟨od, J, _⟩ := J.look
  obtain ⟨m, hF⟩ := I.fr
  refine PySem.W.len_K hF I.ok.mod.kin J at_ fn (wpAny_mono (wpAny_call (run_in (us := [.ref a]) (vs := [V.ref a]) sb F hx I (.cons rfl .nil) hsp)) (fun v s' hv => ?_) fun _ _ z => z)
  obtain ⟨v', H', I', rv, n, rfl, hn, q⟩ := hv
  obtain ⟨t, rfl⟩ := rv
  exact ⟨⟨by omega, by omega⟩, .int n, H', I'.tok _, ⟨_, rfl⟩, q⟩
end
end Vx
namespace Toy
open PySem PySem.Spec PyProof.Rows L2
theorem fok1 : fok (some 1) := by simp [fok]
theorem fok2 : fok (some 2) := by simp [fok]
def FT (p c : Addr) (H : Hp) (x : Addr × Fl) : Prop := H x.1 = some (.tup [fv x.2.1, fv x.2.2]) ∧ fokP x.2 ∧ x.1 ≠ p ∧ x.1 ≠ c
theorem FT.kept {p c : Addr} {H H' : Hp} {x : Addr × Fl} (h : FT p c H x) (k : Kept p c H H') : FT p c H' x := ⟨k _ _ h.2.2.1 h.2.2.2 h.1, h.2⟩
theorem FT.same {p c : Addr} {H H' : Hp} {x : Addr × Fl} (h : FT p c H x) (s : Same H H') : FT p c H' x := h.kept (Kept.of_same s)
theorem FT.put {p c a : Addr} {H : Hp} {o : HO} {x : Addr × Fl} (h : FT p c H x) (n : x.1 ≠ a) : FT p c (upd H a o) x := ⟨by rw [upd_ne n]; exact h.1, h.2⟩
theorem tup_lst {H : Hp} {a b : Addr} {xs ys : List V} (h : H a = some (.tup xs)) (g : H b = some (.lst ys)) : a ≠ b := ne_of h g (by intro z; cases z)
section
variable {P : Program} {w : World} {K : PySem.W.Frag} {mg : Str → Option Value} {base : Heap} {R B PC W : Addr}
def spLaw (K : PySem.W.Frag) : Sp := fun vs H Q _ => ∃ (a : Addr) (ns : List Int), vs = [.ref a] ∧ SqL K H a (ns.map V.int) ∧ ns.length ≤ 63 ∧ ∀ H', Q (.bl true) H'
structure Calls (P : Program) (w : World) (K : PySem.W.Frag) (mg : Str → Option Value) (base : Heap) (R B PC t pB pE gB gE fP fD fW fN fLP fR fPI fA fPL fPR fPW pRd fRd fEq : Addr) (mc : Value) (fdP fdD fdW fdN fdLP fdR fdPI fdA fdPR fdPW fdB fdE : FuncData) : Prop where
  pot : Cal P w K mg base CX0 1 fP fdP "_law_pot" ["script"] (spPot K)
  draw : Cal P w K mg base CX0 1 fD fdD "_law_draw" ["pot", "many"] spDraw
  wtr : Cal P w K mg base CX0 2 fW fdW "_law_writer" ["pot"] spWtr
  nums : Cal P w K mg base CX0 1 fN fdN "_law_numbers" ["fields"] spNums
  lp : Cal P w K mg base CX0 7 fLP fdLP "_law_page" ["fields"] (spLawPage PC R)
  len : mg "len" = none
  range : mg "range" = none
  list : mg "list" = none
  Z : RowM P w K mg base R B fR fdR
  N : PgM P w K mg base R PC t fPI fA fdPI fdA
  mR : Meth K PC "raw" fPR
  FR : FnOk P w K mg base CX0 4 fPR fdPR ["self"] (spRaw PC R)
  bR : L2.Binds K fdPR ["self"] []
  mW : Meth K PC "rows" fPW
  FW : FnOk P w K mg base CX0 1 fPW fdPW ["self"] (spPgRows PC)
  bW : L2.Binds K fdPW ["self"] []
  lnA : PySem.W.findIn K (.ref PC) "__len__" = some (some (.ref fPL))
  lnF : PySem.W.isFn K (.ref fPL) = true
  FL : FnR P w K mg base CX0 1 fPL (spPgLen PC)
  rd : ClX.CRead K PC mc
  sm : Vx.SMet K PC mc "read" pRd fRd
  FRd : FnR P w K mg base CX0 7 fRd (spRead PC R)
  nf : PySem.W.notFirst K PC (.ref PC) = true
  eqA : PySem.W.findIn K (.ref PC) "__eq__" = some (some (.ref fEq))
  eqF : PySem.W.isFn K (.ref fEq) = true
  FE : FnR P w K mg base CX0 3 fEq (spPgEq K PC R)
  RP : RowP P w K mg base R pB pE gB gE fdB fdE
abbrev nL : List Str := ["script", "pot", "fields", "other", "at", "page", "mate", "data", "back", "k", "row"]
theorem ok_law {f t pB pE gB gE fP fD fW fN fLP fR fPI fA fPL fPR fPW pRd fRd fEq : Addr} {mc : Value} {fd fdP fdD fdW fdN fdLP fdR fdPI fdA fdPR fdPW fdB fdE : FuncData} (F : Fun K "law" "law" s_law f fd) (Z : Calls P w K mg base R B PC t pB pE gB gE fP fD fW fN fLP fR fPI fA fPL fPR fPW pRd fRd fEq mc fdP fdD fdW fdN fdLP fdR fdPI fdA fdPR fdPW fdB fdE) : FnOk P w K mg base CX0 9 f fd ["script"] (spLaw K) := by
  refine F.ok sc_law (fun vs H Q E h => ?_) (fun cdv A outer s H vs Q E hr h => ?_)
  · obtain ⟨a, ns, rfl, _⟩ := h
    rfl
  · obtain ⟨a, ns, rfl, hS, hlen, q⟩ := h
    have hr1 : Room 1 _ := hr.mono (by decide)
    have hr2 : Room 2 _ := hr.mono (by decide)
    have hr3 : Room 3 _ := hr.mono (by decide)
    have hr4 : Room 4 _ := hr.mono (by decide)
    have hr6 : Room 6 _ := hr.mono (by decide)
    have hr7 : Room 7 _ := hr.mono (by decide)
    have nd := sc_law.nd
    refine ⟨_, pss_cons (ps_set (i := 1) nd rfl (Or.inr rfl) (pe_call Z.pot.G hr1 (by rfl) Z.pot.g Z.pot.k Z.pot.b .nil pass0 (pa_cons (pv 0) pa_nil)))
      (pss_cons (ps_setLc (i := 2) (own := [("k", 9)]) (g := gName 9) (tt := tYes) rfl nd rfl rfl (sw_true rfl rfl rfl (by decide +kernel)) (pi_range1 (by rfl) Z.range (pa_cons (pe_call Z.draw.G hr1 (by rfl) Z.draw.g Z.draw.k Z.draw.b .nil pass0 (pa_cons (pv 1) (pa_cons pe_int pa_nil))) pa_nil))
        (blkOk_by (own := [("k", 9)]) (N := nL) (sc := defScope s_law) (by decide +kernel)) (fun _ _ _ _ _ => pg_name (i := 9) nd rfl (Or.inl rfl)) (fun _ _ _ _ _ => pts_nil)
        (fun _ _ _ _ _ => pe_tup (pa_cons (pe_call Z.wtr.G hr2 (by rfl) Z.wtr.g Z.wtr.k Z.wtr.b .nil pass0 (pa_cons (pv 1) pa_nil)) (pa_cons (pe_call Z.wtr.G hr2 (by rfl) Z.wtr.g Z.wtr.k Z.wtr.b .nil pass0 (pa_cons (pv 1) pa_nil)) pa_nil))))
      (pss_cons (ps_set (i := 3) nd rfl (Or.inl rfl) (pe_callTy call_list_of (by rfl) Z.list (by decide +kernel) (pa_cons (pv 2) pa_nil)))
      (C8.pss_cut (ps_if (PW.pt (pw_and (pt_cmpR (op_neD hr.units) (pv 3) (pe_lst pa_nil) (nomark _)) (pw_and1 (pt_cmpR op_gt (pe_call Z.draw.G hr1 (by rfl) Z.draw.g Z.draw.k Z.draw.b .nil pass0 (pa_cons (pv 1) (pa_cons pe_int pa_nil))) pe_int (nomark _)))))
        (pss_cons (ps_set (i := 4) nd rfl (Or.inl rfl) (pe_call Z.draw.G hr1 (by rfl) Z.draw.g Z.draw.k Z.draw.b .nil pass0 (pa_cons (pv 1) (pa_cons (pe_callB call_len_seq (by rfl) Z.len PySem.boot_len (pa_cons (pv 3) pa_nil)) pa_nil))))
        (pss_one (ps_asg (pe_ifExp (pt_cmpR op_eq (pe_call Z.draw.G hr1 (by rfl) Z.draw.g Z.draw.k Z.draw.b .nil pass0 (pa_cons (pv 1) (pa_cons pe_int pa_nil))) pe_int (nomark _))
            (pe_tup (pa_cons (pe_call Z.wtr.G hr2 (by rfl) Z.wtr.g Z.wtr.k Z.wtr.b .nil pass0 (pa_cons (pv 1) pa_nil)) (pa_cons (pe_ix ix_tup (pe_ix ix_list (pv 3) (pv 4) (fun _ _ => rfl)) pe_int (fun _ _ => rfl)) pa_nil)))
            (pe_tup (pa_cons (pe_ix ix_tup (pe_ix ix_list (pv 3) (pv 4) (fun _ _ => rfl)) pe_int (fun _ _ => rfl)) (pa_cons (pe_call Z.wtr.G hr2 (by rfl) Z.wtr.g Z.wtr.k Z.wtr.b .nil pass0 (pa_cons (pv 1) pa_nil)) pa_nil)))) (pg_sub (pv 3) (pv 4) set_list)))) pss_nil)
      (pss_cons (ps_set (i := 5) nd rfl (Or.inl rfl) (pe_call Z.lp.G hr7 (by rfl) Z.lp.g Z.lp.k Z.lp.b .nil pass0 (pa_cons (pv 2) pa_nil)))
      (pss_cons (ps_set (i := 6) nd rfl (Or.inl rfl) (pe_call Z.lp.G hr7 (by rfl) Z.lp.g Z.lp.k Z.lp.b .nil pass0 (pa_cons (pv 3) pa_nil)))
      (pss_cons (ps_set (i := 7) nd rfl (Or.inl rfl) (pe_meth0 (pv 5) Z.N.cl Z.mR Z.FR hr4 Z.bR .nil pass0))
      (pss_cons (ps_if (PW.pt (pw_or (pt_cmpR (op_neD hr.units) (pe_listOfB rfl (by rfl) Z.list (pv 7)) (pe_call Z.nums.G hr1 (by rfl) Z.nums.g Z.nums.k Z.nums.b .nil pass0 (pa_cons (pv 2) pa_nil)) (nomark _))
        (pw_or1 (pt_cmpR op_ne (pe_callB call_len (by rfl) Z.len PySem.boot_len (pa_cons (pv 7) pa_nil)) (pe_op op_add (pe_op op_mul pe_int (pe_callB call_len_seq (by rfl) Z.len PySem.boot_len (pa_cons (pv 2) pa_nil))) pe_int) (nomark _))))) (pss_one ps_never) pss_nil)
      (pss_cons (ps_set (i := 8) nd rfl (Or.inl rfl) (Vx.pe_smeth (pe_glob (v := .ref PC) (by rfl) Z.N.g rfl) Z.rd Z.sm Z.FRd hr7 pass0 (pa_cons (pv 7) pa_nil)))
      (pss_cons (ps_if (PW.pt (pw_or (pt_not (pt_cmpR (Vx.op_cmpOwn (op := .Eq) (E := E0) (fun _ _ => rfl) Z.nf Z.eqA Z.eqF Z.FE hr3 pass0) (pv 8) (pv 5) (nomark _)))
        (pw_or1 (pt_cmpR (op_neD hr.units) (pe_lc (own := [("row", 10)]) (g := gName 10) (tt := tYes) rfl nd (pi_list (pe_meth0 (pv 8) Z.N.cl Z.mW Z.FW hr1 Z.bW .nil pass0))
          (blkOk_by (own := [("row", 10)]) (N := nL) (sc := defScope s_law) (by decide +kernel)) (fun _ _ _ _ _ => pg_name (i := 10) nd rfl (Or.inl rfl)) (fun _ _ _ _ _ => pts_nil)
          (fun _ _ _ _ _ => pe_tup (pa_cons (pe_prop (pv 10) Z.RP.cl Z.RP.prB Z.RP.FB hr2 Z.RP.bB .nil pass0 rfl) (pa_cons (pe_prop (pv 10) Z.RP.cl Z.RP.prE Z.RP.FE hr2 Z.RP.bE .nil pass0 rfl) pa_nil)))) (pv 2) (nomark _))))) (pss_one ps_never) pss_nil)
      (pss_cons (ps_if (PW.pt (pw_or (pt_cmpR op_ne (pe_cmpR op_eq (pe_meth0 (pv 6) Z.N.cl Z.mR Z.FR hr4 Z.bR .nil pass0) (pv 7) (nomark _)) (pe_cmpR (op_eqD hr.units) (pv 2) (pv 3) (nomark _)) (nomark _))
        (pw_or1 (pt_cmpR op_ne (pe_cmpR (Vx.op_cmpOwn (op := .Eq) (E := E0) (fun _ _ => rfl) Z.nf Z.eqA Z.eqF Z.FE hr3 pass0) (pv 6) (pv 5) (nomark _)) (pe_cmpR (op_eqD hr.units) (pv 2) (pv 3) (nomark _)) (nomark _))))) (pss_one ps_never) pss_nil)
      (C8.pss_cut (ps_if (pt_cmpR op_lt (pe_callB (Vx.call_lenOwn Z.lnA Z.lnF Z.FL hr2 pass0) (by rfl) Z.len PySem.boot_len (pa_cons (pv 8) pa_nil)) pe_int (nomark _))
        (pss_cons (ps_aug (i := 8) nd rfl (Or.inl rfl) (pe_make Z.Z.mkR Z.Z.F hr6 (by rfl) Z.Z.gR Z.Z.b2 .nil passL (pa_cons pe_int (pa_cons pe_int pa_nil))) (Vx.pip_own (E := E0) Z.N.sf Z.N.ia Z.N.fnA (Vx.fnR Z.N.FA Z.N.bA) hr1 pass0))
        (pss_one (ps_if (PW.pt (pw_or (pt_cmpR (Vx.op_cmpOwn (op := .Eq) (E := E0) (fun _ _ => rfl) Z.nf Z.eqA Z.eqF Z.FE hr3 pass0) (pv 8) (pv 5) (nomark _))
          (pw_or1 (pt_cmpR (op_neD hr.units) (pe_listOfB rfl (by rfl) Z.list (pe_meth0 (pv 8) Z.N.cl Z.mR Z.FR hr4 Z.bR .nil pass0)) (pe_call Z.nums.G hr1 (by rfl) Z.nums.g Z.nums.k Z.nums.b .nil pass0 (pa_cons (pe_op op_cat (pv 2) (pe_lst (pa_cons (pe_tup (pa_cons pe_int (pa_cons pe_int pa_nil))) pa_nil))) pa_nil)) (nomark _))))) (pss_one ps_never) pss_nil))) pss_nil)
      (pss_one (ps_ret (pe_and (pe_cmpR (op_eqD hr.units) (pe_listOfB rfl (by rfl) Z.list (pe_meth0 (pv 5) Z.N.cl Z.mR Z.FR hr4 Z.bR .nil pass0)) (pe_call Z.nums.G hr1 (by rfl) Z.nums.g Z.nums.k Z.nums.b .nil pass0 (pa_cons (pv 2) pa_nil)) (nomark _))
        (pe_and (pe_cmpR op_eq (pe_meth0 (pv 5) Z.N.cl Z.mR Z.FR hr4 Z.bR .nil pass0) (pv 7) (nomark _))
        (pe_one (pe_cmpR (Vx.op_cmpOwn (op := .Eq) (E := E0) (fun _ _ => rfl) Z.nf Z.eqA Z.eqF Z.FE hr3 pass0) (Vx.pe_smeth (pe_glob (v := .ref PC) (by rfl) Z.N.g rfl) Z.rd Z.sm Z.FRd hr7 pass0 (pa_cons (pe_meth0 (pv 5) Z.N.cl Z.mR Z.FR hr4 Z.bR .nil pass0) pa_nil)) (pv 5) (nomark _)))))))))))))))))), ?_⟩
    refine ⟨_, rfl, a, ns, rfl, hS, hlen, fun H1 p c s1 p0 c0 P1 => ?_⟩
    refine ⟨_, rfl, p, c, 8, rfl, P1, by decide, by decide, fun H2 d P2 K2 d0 d1 => ?_⟩
    refine ⟨d, rfl, by omega, by omega, fun lf nlf => ?_⟩
    have olf := off P2 nlf
    refine lc_range (lo := 0) (n := d.toNat) (fun i H' => ∃ L : Obs Fl, L.length = i ∧ Pot H' p c ∧ H' lf = some (.lst (refs L)) ∧ ∀ x ∈ L, FT p c H' x) ⟨[], rfl, P2.same (same_upd nlf), upd_same, fun x h => absurd h List.not_mem_nil⟩ ?_ ?_
    · rintro i H' hi ⟨L, hl, P', e', hL⟩
      refine ⟨rfl, _, rfl, p, c, rfl, P', fun H3 b P3 K3 hb => ⟨_, rfl, p, c, rfl, P3, fun H4 e P4 K4 he => ⟨by show 2 ≤ sizeLine; decide, fun t nt => ?_⟩⟩⟩
      have K34 := K3.trans K4
      have e4 := K34 _ _ olf.1 olf.2 e'
      have ot := off P4 nt
      have ltf : lf ≠ t := ne_of_none e4 nt
      refine ⟨refs L, by rw [upd_ne ltf]; exact e4, ?_, L ++ [(t, (b, e))], ?_, (P4.put ot.1 ot.2).put olf.1 olf.2, ?_, ?_⟩
      · rw [refs_len, hl]
        exact Nat.lt_of_lt_of_le hi (Nat.le_trans (show d.toNat ≤ 8 by omega) (by decide))
      · rw [List.length_append, hl]
        rfl
      · rw [upd_same, refs_append]
        rfl
      · intro x hx
        rcases List.mem_append.mp hx with h | h
        · have hx4 := (hL x h).kept K34
          exact (hx4.put (ne_of_none hx4.1 nt)).put (tup_lst hx4.1 e4)
        · rw [List.mem_singleton.mp h]
          exact ⟨by show (upd (upd H4 t _) lf _) t = _; rw [upd_ne ltf.symm, upd_same], ⟨hb, he⟩, ot⟩
    rintro H4 ⟨L, hl, P4, e4, hL⟩
    have hL7 : L.length ≤ 7 := by omega
    clear hl
    refine ⟨_, rfl, lf, _, rfl, .inl (SqL.of e4), fun lo nlo => ?_⟩
    have olo := off P4 nlo
    have s5 := same_upd (o := .lst (refs L)) nlo
    have e5 : (upd H4 lo (.lst (refs L))) lo = some (.lst (refs L)) := upd_same
    generalize upd H4 lo (HO.lst (refs L)) = H5 at s5 e5
    have nfo : lf ≠ lo := ne_of_none e4 nlo
    have P5 := P4.same s5
    have f5 := s5 _ _ e4
    have hL5 : ∀ x ∈ L, FT p c H5 x := fun x hx => (hL x hx).same s5
    have lon : ∀ {H' : Hp}, Kept p c H5 H' → H' lf = some (.lst (refs L)) ∧ H' lo = some (.lst (refs L)) ∧ ∀ x ∈ L, FT p c H' x := fun {H'} k => ⟨k _ _ olf.1 olf.2 f5, k _ _ olo.1 olo.2 e5, fun x hx => (hL5 x hx).kept k⟩
    have fin : ∀ (H' : Hp) (t : Addr) (q' : Fl), Pot H' p c → Kept p c H5 H' → H' t = none → ∀ i, i < L.length → fokP q' →
        gSub (tVar 3) (tVar 4) rSetL (.ref t) [some (.ref a), some (.ref p), some (.ref lf), some (.ref lo), some (.int (i : Nat)), none, none, none, none, none, none] (upd H' t (.tup [fv q'.1, fv q'.2])) (fun σ H' => ∃ (v4 : Option V) (L' : Obs Fl), σ = [some (.ref a), some (.ref p), some (.ref lf), some (.ref lo), v4, none, none, none, none, none, none] ∧ H' lf = some (.lst (refs L)) ∧ H' lo = some (.lst (refs L')) ∧ (∀ x ∈ L, FT p c H' x) ∧ (∀ x ∈ L', FT p c H' x) ∧ L'.length = L.length) := fun H' t q' P' k' nt i hi hq => by
      obtain ⟨x1, x2, x3⟩ := lon k'
      have ot := off P' nt
      have n1 : lf ≠ t := ne_of_none x1 nt
      have n2 : lo ≠ t := ne_of_none x2 nt
      have y2 : (upd H' t (HO.tup [fv q'.1, fv q'.2])) lo = some (.lst (refs L)) := by rw [upd_ne n2]; exact x2
      have x4 : ∀ x ∈ L, FT p c (upd (upd H' t (HO.tup [fv q'.1, fv q'.2])) lo (.lst ((refs L).set i (.ref t)))) x := fun x hx => ((x3 x hx).put (ne_of_none (x3 x hx).1 nt)).put (tup_lst (x3 x hx).1 x2)
      refine ⟨_, rfl, _, rfl, lo, refs L, _, i, rfl, rfl, y2, ixN_nat (by rw [refs_len]; exact hi), _, L.set i (t, q'), rfl, ?_, ?_, x4, ?_, List.length_set⟩
      · rw [upd_ne nfo, upd_ne n1]
        exact x1
      · rw [upd_same]
        unfold refs
        rw [List.map_set]
      · intro x hx
        rcases List.mem_or_eq_of_mem_set hx with h | h
        · exact x4 x h
        · rw [h]
          exact ⟨by show (upd (upd H' t _) lo _) t = _; rw [upd_ne n2.symm, upd_same], hq, ot⟩
    refine ⟨fun σ H' => ∃ (v4 : Option V) (L' : Obs Fl), σ = [some (.ref a), some (.ref p), some (.ref lf), some (.ref lo), v4, none, none, none, none, none, none] ∧ H' lf = some (.lst (refs L)) ∧ H' lo = some (.lst (refs L')) ∧ (∀ x ∈ L, FT p c H' x) ∧ (∀ x ∈ L', FT p c H' x) ∧ L'.length = L.length, ?_, ?_⟩
    · refine ⟨_, rfl, by show 0 ≤ sizeLine; decide, fun z nz => ?_⟩
      have s6 := same_upd (o := .lst []) nz
      refine ⟨lD (L.map Prod.snd), lD [], dp_flds ⟨s6 _ _ e5, fun x hx => ⟨s6 _ _ (hL5 x hx).1, (hL5 x hx).2.1⟩⟩, .lst (SqL.of upd_same) .nil, lD_shp _, lD_shp _, _, rfl, ?_⟩
      generalize upd H5 z (HO.lst []) = H6 at s6
      rw [lD_eqv]
      have k6 : Kept p c H5 H6 := Kept.of_same s6
      have P6 := P5.same s6
      refine ite2 (fun hne => ?_) (fun _ => ⟨_, L, rfl, (lon k6).1, (lon k6).2.1, (lon k6).2.2, (lon k6).2.2, rfl⟩)
      have h0 : 0 < L.length := by
        cases L with
        | nil => simp at hne
        | cons => simp
      refine ⟨_, rfl, p, c, 3, rfl, P6, by decide, by decide, fun H7 d3 P7 K7 _ _ => ⟨_, _, rfl, rfl, _, rfl, ?_⟩⟩
      have k7 := k6.trans K7
      refine ite2 (fun _ => ?_) (fun _ => ⟨_, L, rfl, (lon k7).1, (lon k7).2.1, (lon k7).2.2, (lon k7).2.2, rfl⟩)
      have hrl := refs_len L
      refine ⟨_, rfl, _, rfl, lo, _, rfl, .inl (SqL.of (lon k7).2.1), p, c, _, rfl, P7, by omega, by omega, fun H8 r P8 K8 r0 r1 => ?_⟩
      obtain ⟨i, rfl⟩ := Int.eq_ofNat_of_zero_le r0
      have hi : i < L.length := by omega
      have k8 := k7.trans K8
      refine ⟨_, rfl, p, c, 2, rfl, P8, by decide, by decide, fun H9 d9 P9 K9 _ _ => ⟨rfl, _, rfl, ?_⟩⟩
      have k9 := k8.trans K9
      have hv : (refs L)[i]? = some (V.ref L[i].1) := refs_at (List.getElem?_eq_getElem hi)
      have hm := List.getElem_mem hi
      refine ite2 (fun _ => ?_) (fun _ => ?_)
      · refine ⟨_, rfl, p, c, rfl, P9, fun H10 b P10 K10 hb => ?_⟩
        obtain ⟨_, o10, t10⟩ := lon (k9.trans K10)
        refine ⟨_, rfl, _, rfl, lo, _, _, _, rfl, rfl, SqL.of o10, atI_nat hv, L[i].1, _, _, _, rfl, rfl, SqT.of (t10 _ hm).1, rfl, by show 2 ≤ sizeLine; decide, fun t nt => ?_⟩
        exact fin H10 t (b, L[i].2.2) P10 (k9.trans K10) nt i hi ⟨hb, (t10 _ hm).2.1.2⟩
      · obtain ⟨_, o9, t9⟩ := lon k9
        refine ⟨_, rfl, _, rfl, lo, _, _, _, rfl, rfl, SqL.of o9, atI_nat hv, L[i].1, _, _, _, rfl, rfl, SqT.of (t9 _ hm).1, rfl, _, rfl, p, c, rfl, P9, fun H10 b P10 K10 hb => ?_⟩
        refine ⟨by show 2 ≤ sizeLine; decide, fun t nt => ?_⟩
        exact fin H10 t (L[i].2.1, b) P10 (k9.trans K10) nt i hi ⟨(t9 _ hm).2.1.1, hb⟩
    rintro σ H6 ⟨v4, L', rfl, e6, e6o, hL6, hL6', hl'⟩
    have F6 : FieldsAt H6 lf L := ⟨e6, fun x hx => ⟨(hL6 x hx).1, (hL6 x hx).2.1⟩⟩
    have G6 : FieldsAt H6 lo L' := ⟨e6o, fun x hx => ⟨(hL6' x hx).1, (hL6' x hx).2.1⟩⟩
    have hq : ∀ y ∈ L.map Prod.snd, fokP y := fun y hy => by
      obtain ⟨x, hx, rfl⟩ := List.mem_map.mp hy
      exact (F6.2 x hx).2
    have hq' : ∀ y ∈ L'.map Prod.snd, fokP y := fun y hy => by
      obtain ⟨x, hx, rfl⟩ := List.mem_map.mp hy
      exact (G6.2 x hx).2
    have zq : (L.map Prod.snd).length ≤ 7 := by rw [List.length_map]; exact hL7
    have zq' : (L'.map Prod.snd).length ≤ 7 := by rw [List.length_map]; omega
    have q256 := nums_lt zq hq
    have q256' := nums_lt zq' hq'
    have nsz : (bA (nums (L.map Prod.snd))).size = 2 * L.length + 2 := by rw [bA_size, nums_len, List.length_map]
    have nsl : (bA (nums (L.map Prod.snd))).size ≤ sizeLine := by rw [nsz]; exact Nat.le_trans (show _ ≤ 16 by omega) (by decide)
    refine ⟨_, rfl, lf, L, rfl, F6, hL7, fun H7 pg lp M N7 hM => ?_⟩
    refine ⟨_, rfl, lo, L', rfl, G6.same N7.1, by omega, fun H8 mt lm M' N8 hM' => ?_⟩
    have hML := map_snd_len hM
    have hML' := map_snd_len hM'
    have N7 := N7.same N8.1
    obtain ⟨dpg, epg⟩ := N7.2.2.2.2.1
    obtain ⟨dmt, emt⟩ := N8.2.2.2.2.1
    refine ⟨_, rfl, pg, dpg, _, rfl, epg, rfl, pg, M, rfl, N7.at_, N7.2.2.2.2.2.2, by omega, fun H9 s9 => ?_⟩
    rw [hM]
    -- the bytes, as numbers
    refine ⟨_, rfl, _, rfl, nsl, fun m nm => ?_⟩
    rw [bA_list q256]
    have s10 := same_upd (o := .lst ((nums (L.map Prod.snd)).map vi)) nm
    have e10 : (upd H9 m (.lst ((nums (L.map Prod.snd)).map vi))) m = some (.lst ((nums (L.map Prod.snd)).map vi)) := upd_same
    generalize upd H9 m (HO.lst ((nums (L.map Prod.snd)).map vi)) = H10 at s10 e10
    have s60 := N7.1.trans (s9.trans s10)
    refine ⟨_, rfl, lf, L, rfl, F6.same s60, by omega, fun H11 n s11 nn en => ?_⟩
    refine ⟨_, _, dp_vi (s11 _ _ e10), dp_vi en, shp_dk _, shp_dk _, false, by rw [SeqAt.eqv_refl _ (can_dkl _)]; rfl, iteF ?_⟩
    have t9 := s9.trans (s10.trans s11)
    have F11 := F6.same (N7.1.trans t9)
    refine ⟨_, rfl, _, 2 * L.length + 2, rfl, ⟨nsl, nsz.symm⟩, _, rfl, lf, _, rfl, .inl (SqL.of F11.1), _, _, rfl, rfl, Or.inl ⟨by decide, by decide⟩, _, _, rfl, rfl, rfl, false, ?_, iteF ?_⟩
    · refine neF (congrArg V.int ?_)
      rw [refs_len]
      omega
    refine ⟨rfl, _, rfl, L.map Prod.snd, rfl, zq, hq, fun H12 bk lb Mb N12 hMb => ?_⟩
    have hMbl := map_snd_len hMb
    have t12 := t9.trans N12.1
    have P12 := N7.same t12
    have M12 := N8.same t12
    obtain ⟨dbk, ebk⟩ := N12.2.2.2.2.1
    have epg12 := t12 _ _ epg
    refine ⟨_, rfl, _, rfl, ⟨bk, dbk, _, rfl, ebk⟩, ⟨pg, dpg, _, rfl, epg12⟩, bk, pg, Mb, M, rfl, N12.at_, P12.at_, N12.2.2.2.2.2.2, P12.2.2.2.2.2.2, true, congrArg V.bl (decide_eq_true (hMb.trans hM.symm)), iteF ?_⟩
    refine ⟨_, rfl, bk, dbk, _, rfl, ebk, rfl, bk, Mb, rfl, N12.at_, fun H13 lr s13 nlr elr => ⟨lr, rfl, ⟨_, SqL.of elr⟩, fun ld nld => ?_⟩⟩
    have R13 := N12.2.2.2.2.2.2.same s13
    refine lc_list (K := K) (a := lr) (xs := refs Mb) (fun i H' => Same H13 H' ∧ ∃ T : Obs Fl, H' ld = some (.lst (refs T)) ∧ T.map Prod.snd = (Mb.take i).map Prod.snd ∧ ∀ x ∈ T, H' x.1 = some (.tup [fv x.2.1, fv x.2.2]) ∧ fokP x.2) ⟨same_upd nld, [], upd_same, rfl, fun x h => absurd h List.not_mem_nil⟩ (fun i H' _ z => SqL.of (z.1 _ _ elr)) ?_ ?_
    · rintro i x H' hx ⟨s14, T, e14, hT, rT⟩
      obtain ⟨y, hy, rfl⟩ := refs_get hx
      obtain ⟨⟨dy, ey⟩, fy⟩ := R13 y (List.mem_of_getElem? hy)
      have ey := s14 _ _ ey
      refine ⟨rfl, _, rfl, y.1, dy, _, rfl, ey, y.1, dy, _, _, rfl, ey, rfl, _, rfl, y.1, dy, _, rfl, ey, y.1, dy, _, _, rfl, ey, rfl, by show 2 ≤ sizeLine; decide, fun t nt => ?_⟩
      have s15 := same_upd (o := .tup [fv y.2.1, fv y.2.2]) nt
      have et : (upd H' t (HO.tup [fv y.2.1, fv y.2.2])) t = some (.tup [fv y.2.1, fv y.2.2]) := upd_same
      generalize upd H' t (HO.tup [fv y.2.1, fv y.2.2]) = H15 at s15 et
      have e15 := s15 _ _ e14
      have hi : i < Mb.length := (List.getElem?_eq_some_iff.mp hy).1
      refine ⟨_, e15, ?_, fun b o eb => ?_, T ++ [(t, y.2)], ?_, ?_, ?_⟩
      · rw [refs_len]
        have := congrArg List.length hT
        rw [List.length_map, List.length_map, List.length_take] at this
        exact Nat.lt_of_le_of_lt (show T.length ≤ 7 by omega) (by decide)
      · rw [upd_ne (ne_of_none eb nld)]
        exact s15 _ _ (s14 _ _ eb)
      · rw [upd_same, refs_append]
        rfl
      · rw [List.map_append, hT, List.take_add_one, hy, List.map_append]
        rfl
      · intro x hx
        rcases List.mem_append.mp hx with h | h
        · have z := s15 _ _ (rT x h).1
          exact ⟨by rw [upd_ne (tup_lst z e15)]; exact z, (rT x h).2⟩
        · rw [List.mem_singleton.mp h]
          exact ⟨by show (upd H15 ld _) t = _; rw [upd_ne (tup_lst et e15)]; exact et, fy⟩
    rintro H16 ⟨s16, T, e16, hT, rT⟩
    rw [refs_len, List.take_length, hMb] at hT
    have F16 : FieldsAt H16 lf L := F11.same (N12.1.trans (s13.trans s16))
    refine ⟨_, rfl, _, _, dp_flds ⟨e16, rT⟩, dp_flds F16, lD_shp _, lD_shp _, false, ?_, iteF ?_⟩
    · rw [lD_eqv, decide_eq_true hT]
      rfl
    have t16 := s13.trans s16
    have P16 := P12.same t16
    have M16 := M12.same t16
    have B16 := N12.same t16
    have emt16 := t16 _ _ (t12 _ _ emt)
    have epg16 := t16 _ _ epg12
    have G16 : FieldsAt H16 lo L' := G6.same (P16.1)
    refine ⟨_, rfl, mt, dmt, _, rfl, emt16, rfl, mt, M', rfl, M16.at_, M16.2.2.2.2.2.2, by omega, fun H17 s17 => ?_⟩
    rw [hM']
    have F17 := F16.same s17
    have G17 := G16.same s17
    refine ⟨_, rfl, rfl, _, rfl, _, rfl, _, _, dp_flds F17, dp_flds G17, lD_shp _, lD_shp _, rfl, false, ?_, iteF ?_⟩
    · rw [lD_eqv]
      refine neF (congrArg V.bl ?_)
      refine decide_eq_decide.mpr ⟨fun z => ?_, fun z => by rw [z]⟩
      injection z with z
      exact (rb_inj7 (bA_inj q256' q256 z)).symm
    have P17 := P16.same s17
    have M17 := M16.same s17
    have B17 := B16.same s17
    refine ⟨_, rfl, _, rfl, ⟨mt, dmt, _, rfl, s17 _ _ emt16⟩, ⟨pg, dpg, _, rfl, s17 _ _ epg16⟩, mt, pg, M', M, rfl, M17.at_, P17.at_, M17.2.2.2.2.2.2, P17.2.2.2.2.2.2, ?_⟩
    refine ⟨_, rfl, _, rfl, _, _, dp_flds F17, dp_flds G17, lD_shp _, lD_shp _, rfl, false, ?_, iteF ?_⟩
    · rw [lD_eqv, hM, hM']
      exact neF (congrArg V.bl (decide_eq_decide.mpr ⟨fun z => z.symm, fun z => z.symm⟩))
    refine ⟨fun σ H' => σ = [some (.ref a), some (.ref p), some (.ref lf), some (.ref lo), v4, some (.ref pg), some (.ref mt), some (.byt (bA (nums (L.map Prod.snd)))), some (.ref bk), none, none] ∧ FieldsAt H' lf L ∧ PageAt PC H' pg M ∧ RowsAt R H' M, ?_, ?_⟩
    · have ebk17 := s17 _ _ (t16 _ _ ebk)
      refine ⟨_, rfl, ⟨bk, dbk, _, rfl, ebk17⟩, bk, Mb, rfl, B17.at_, Mb.length, rfl, Nat.lt_of_le_of_lt (show _ ≤ 7 by omega) (by decide), _, _, rfl, rfl, _, rfl, ?_⟩
      refine ite2 (fun hb7 => ?_) (fun _ => ⟨rfl, F17, P17.at_, P17.2.2.2.2.2.2⟩)
      have hb7 : Mb.length < 7 := by
        have z := of_decide_eq_true hb7
        omega
      refine ⟨_, rfl, ?_⟩
      intro r dr nr ndr ner
      refine row_goodP (b := fv (some 1)) (e := fv (some 2)) (NV.fv _) (NV.fv _) (okf_fv (o := some 1) fok1) (okf_fv (o := some 2) fok2) nr ndr fun H18 s18 h18 => ?_
      have fq : fokP ((some 1, some 2) : Fl) := ⟨fok1, fok2⟩
      have B18 := B17.same s18
      have ebk18 := s18 _ _ ebk17
      refine ⟨⟨bk, dbk, _, rfl, ebk18⟩, bk, r, dbk, lb, Mb, _, _, rfl, ebk18, B18.2.2.2.2.2.1, hb7, h18, ?_⟩
      have B19 := B18.put (q := (some 1, some 2)) h18 fq
      have elb := B18.2.2.2.2.2.1
      have P18 := P17.same s18
      have F18 := F17.same s18
      have nlb : ∀ {z : Addr} {o : HO}, H11 z = some o → z ≠ lb := fun {z o} e => ne_of_none e N12.2.2.1
      have llp : lp ≠ lb := nlb (N7.same t9).2.2.2.2.2.1
      have F19 : FieldsAt (upd H18 lb (.lst (refs Mb ++ [.ref r]))) lf L := ⟨by rw [upd_ne (nlb F11.1)]; exact F18.1, fun x hx => ⟨by rw [upd_ne (tup_lst (F18.2 x hx).1 elb)]; exact (F18.2 x hx).1, (F18.2 x hx).2⟩⟩
      have epg18 := s18 _ _ (s17 _ _ epg16)
      have epg19 : (upd H18 lb (.lst (refs Mb ++ [.ref r]))) pg = some (.ins PC dpg [("_rows", .ref lp)]) := by rw [upd_ne (ins_lstN epg18 elb)]; exact epg18
      have elp19 : (upd H18 lb (.lst (refs Mb ++ [.ref r]))) lp = some (.lst (refs M)) := by rw [upd_ne llp]; exact P18.2.2.2.2.2.1
      have rM19 : RowsAt R (upd H18 lb (.lst (refs Mb ++ [.ref r]))) M := fun x hx => ⟨row_up elb (P18.2.2.2.2.2.2 x hx).1, (P18.2.2.2.2.2.2 x hx).2⟩
      have ebk19 : (upd H18 lb (.lst (refs Mb ++ [.ref r]))) bk = some (.ins PC dbk [("_rows", .ref lb)]) := by rw [upd_ne (ins_lstN ebk18 elb)]; exact ebk18
      generalize upd H18 lb (HO.lst (refs Mb ++ [.ref r])) = H19 at B19 F19 epg19 elp19 rM19 ebk19
      have PA19 : PageAt PC H19 pg M := ⟨dpg, lp, epg19, elp19⟩
      have hq2 : (Mb ++ [(r, ((some 1, some 2) : Fl))]).map Prod.snd = L.map Prod.snd ++ [(some 1, some 2)] := by rw [List.map_append, hMb]; rfl
      have lq2 : (Mb ++ [(r, ((some 1, some 2) : Fl))]).length ≤ 7 := by
        rw [List.length_append]
        show Mb.length + 1 ≤ 7
        omega
      refine ⟨_, rfl, _, rfl, ⟨bk, dbk, _, rfl, ebk19⟩, ⟨pg, dpg, _, rfl, epg19⟩, bk, pg, _, M, rfl, B19.at_, PA19, B19.2.2.2.2.2.2, rM19, false, congrArg V.bl (decide_eq_false fun z => ?_), iteF ?_⟩
      · have := congrArg List.length z
        rw [hq2, List.length_append, List.length_map, List.length_map] at this
        have : L.length + 1 = M.length := this
        omega
      have q2 : ∀ z ∈ nums (L.map Prod.snd ++ [(some 1, some 2)]), z < 256 := nums_lt (by rw [← hq2, List.length_map]; exact lq2) (fun y hy => by
        rcases List.mem_append.mp hy with h | h
        · exact hq y h
        · rw [List.mem_singleton.mp h]
          exact fq)
      have nsl2 : (bA (nums (L.map Prod.snd ++ [(some 1, some 2)]))).size ≤ sizeLine := by
        rw [bA_size, nums_len, List.length_append, List.length_map]
        exact Nat.le_trans (show 2 * (L.length + 1) + 2 ≤ 18 by omega) (by decide)
      refine ⟨_, rfl, bk, dbk, _, rfl, ebk19, rfl, bk, _, rfl, B19.at_, B19.2.2.2.2.2.2, lq2, fun H20 s20 => ?_⟩
      rw [hq2]
      refine ⟨_, rfl, nsl2, fun m2 nm2 => ?_⟩
      rw [bA_list q2]
      have s21 := same_upd (o := .lst ((nums (L.map Prod.snd ++ [(some 1, some 2)])).map vi)) nm2
      have e21 : (upd H20 m2 (.lst ((nums (L.map Prod.snd ++ [(some 1, some 2)])).map vi))) m2 = some (.lst ((nums (L.map Prod.snd ++ [(some 1, some 2)])).map vi)) := upd_same
      generalize upd H20 m2 (HO.lst ((nums (L.map Prod.snd ++ [(some 1, some 2)])).map vi)) = H21 at s21 e21
      have F21 := F19.same (s20.trans s21)
      refine ⟨_, rfl, by show 2 ≤ sizeLine; decide, fun tt ntt => ⟨by show 1 ≤ sizeLine; decide, fun l1 nl1 => ?_⟩⟩
      have s22 := same_upd (o := .tup [V.int 1, V.int 2]) ntt
      have e22 : (upd H21 tt (.tup [V.int 1, V.int 2])) tt = some (.tup [V.int 1, V.int 2]) := upd_same
      generalize upd H21 tt (HO.tup [V.int 1, V.int 2]) = H22 at s22 e22 nl1
      have s23 := same_upd (o := .lst [V.ref tt]) nl1
      have e23 : (upd H22 l1 (.lst [V.ref tt])) l1 = some (.lst [V.ref tt]) := upd_same
      generalize upd H22 l1 (HO.lst [V.ref tt]) = H23 at s23 e23
      have F23 := F21.same (s22.trans s23)
      refine ⟨lf, l1, _, _, rfl, rfl, F23.1, e23, ?_, fun l2 nl2 => ?_⟩
      · rw [refs_len]
        exact Nat.le_trans (show L.length + 1 ≤ 8 by omega) (by decide)
      have s24 := same_upd (o := .lst (refs L ++ [V.ref tt])) nl2
      have e24 : (upd H23 l2 (.lst (refs L ++ [V.ref tt]))) l2 = some (.lst (refs L ++ [V.ref tt])) := upd_same
      generalize upd H23 l2 (HO.lst (refs L ++ [V.ref tt])) = H24 at s24 e24
      have F24 := F23.same s24
      refine ⟨l2, L ++ [(tt, (some 1, some 2))], rfl, ⟨by rw [refs_append]; exact e24, fun x hx => ?_⟩, ?_, fun H25 n2 s25 nn2 en2 => ?_⟩
      · rcases List.mem_append.mp hx with h | h
        · exact F24.2 x h
        · rw [List.mem_singleton.mp h]
          exact ⟨s24 _ _ (s23 _ _ e22), fq⟩
      · rw [List.length_append]
        exact Nat.succ_le_succ hL7
      have t25 := s22.trans (s23.trans (s24.trans s25))
      have u25 := (s20.trans s21).trans t25
      rw [List.map_append] at en2
      refine ⟨_, _, dp_vi (t25 _ _ e21), dp_vi en2, shp_dk _, shp_dk _, false, ?_, iteF ⟨rfl, F19.same u25, PA19.same u25, rM19.same u25⟩⟩
      show V.bl (!PyData.eqv _ _) = _
      rw [show List.map Prod.snd [(tt, ((some 1, some 2) : Fl))] = [(some 1, some 2)] from rfl, SeqAt.eqv_refl _ (can_dkl _)]
      rfl
    rintro σ H30 ⟨rfl, F30, P30, rM⟩
    obtain ⟨dx, lx, ep, el⟩ := id P30
    refine ⟨_, rfl, pg, dx, _, rfl, ep, rfl, pg, M, rfl, P30, rM, by omega, fun H31 s31 => ?_⟩
    rw [hM]
    refine ⟨_, rfl, nsl, fun m3 nm3 => ?_⟩
    rw [bA_list q256]
    have s32 := same_upd (o := .lst ((nums (L.map Prod.snd)).map vi)) nm3
    have e32 : (upd H31 m3 (.lst ((nums (L.map Prod.snd)).map vi))) m3 = some (.lst ((nums (L.map Prod.snd)).map vi)) := upd_same
    generalize upd H31 m3 (HO.lst ((nums (L.map Prod.snd)).map vi)) = H32 at s32 e32
    refine ⟨_, rfl, lf, L, rfl, F30.same (s31.trans s32), by omega, fun H33 n3 s33 nn3 en3 => ?_⟩
    refine ⟨_, _, dp_vi (s33 _ _ e32), dp_vi en3, shp_dk _, shp_dk _, true, by rw [SeqAt.eqv_refl _ (can_dkl _)], iteT ?_⟩
    have t33 := s31.trans (s32.trans s33)
    refine ⟨_, rfl, pg, dx, _, rfl, t33 _ _ ep, rfl, pg, M, rfl, P30.same t33, rM.same t33, by omega, fun H34 s34 => ?_⟩
    rw [hM]
    refine ⟨_, rfl, rfl, true, congrArg V.bl (decide_eq_true rfl), iteT ?_⟩
    have t34 := t33.trans s34
    refine ⟨rfl, _, rfl, pg, dx, _, rfl, t34 _ _ ep, rfl, pg, M, rfl, P30.same t34, rM.same t34, by omega, fun H35 s35 => ?_⟩
    rw [hM]
    refine ⟨L.map Prod.snd, rfl, zq, hq, fun H36 b2 l2 M2 N36 hM2 => ?_⟩
    obtain ⟨d2, e2⟩ := N36.2.2.2.2.1
    have t36 := (t34.trans s35).trans N36.1
    refine ⟨_, rfl, ⟨b2, d2, _, rfl, e2⟩, ⟨pg, dx, _, rfl, t36 _ _ ep⟩, b2, pg, M2, M, rfl, N36.at_, P30.same t36, N36.2.2.2.2.2.2, rM.same t36, ?_⟩
    rw [decide_eq_true (hM2.trans hM.symm)]
    exact q _
end
end Toy
set_option Elab.async false
set_option linter.all false
set_option maxRecDepth 100000
set_option maxHeartbeats 4000000
namespace Toy
open PySem PySem.Spec PyProof.Rows L2
theorem all_mk {l : PySem.W.OpenLaw} {w : World} {K : PySem.W.Frag} {h : Heap} {mg : Str → Option Value} {fa f_is_whole f_is_between f_is_writer_number f_is_field f_byte f_writer f_row_bytes f_law_pot f_law_draw f_law_writer f_law_numbers f_law_page f_law R f_ri t_dri D B f_iB p_pb f_pb p_pe f_pe f_rq PC t_emp f_pi t_dpi f_pr f_pw f_pl f_pq f_pA p_read f_read : Addr}  (X : K.In h) (G : h.Ns mainGlobals mg) (hfa : mg "law" = some (.ref fa))
    {od_is_whole an_is_whole : Option Addr} {sl_is_whole : Array (Option Value)} {oc_is_whole kV_is_whole dc_is_whole pm_is_whole cd_is_whole ct_is_whole : Value} {od_is_between an_is_between : Option Addr} {sl_is_between : Array (Option Value)} {oc_is_between kV_is_between dc_is_between pm_is_between cd_is_between ct_is_between : Value} {od_is_writer_number an_is_writer_number : Option Addr} {sl_is_writer_number : Array (Option Value)} {oc_is_writer_number kV_is_writer_number dc_is_writer_number pm_is_writer_number cd_is_writer_number ct_is_writer_number : Value} {od_is_field an_is_field : Option Addr} {sl_is_field : Array (Option Value)} {oc_is_field kV_is_field dc_is_field pm_is_field cd_is_field ct_is_field : Value} {od_byte an_byte : Option Addr} {sl_byte : Array (Option Value)} {oc_byte kV_byte dc_byte pm_byte cd_byte ct_byte : Value} {od_writer an_writer : Option Addr} {sl_writer : Array (Option Value)} {oc_writer kV_writer dc_writer pm_writer cd_writer ct_writer : Value} {od_row_bytes an_row_bytes : Option Addr} {sl_row_bytes : Array (Option Value)} {oc_row_bytes kV_row_bytes dc_row_bytes pm_row_bytes cd_row_bytes ct_row_bytes : Value} {od_law_pot an_law_pot : Option Addr} {sl_law_pot : Array (Option Value)} {oc_law_pot kV_law_pot dc_law_pot pm_law_pot cd_law_pot ct_law_pot : Value} {od_law_draw an_law_draw : Option Addr} {sl_law_draw : Array (Option Value)} {oc_law_draw kV_law_draw dc_law_draw pm_law_draw cd_law_draw ct_law_draw : Value} {od_law_writer an_law_writer : Option Addr} {sl_law_writer : Array (Option Value)} {oc_law_writer kV_law_writer dc_law_writer pm_law_writer cd_law_writer ct_law_writer : Value} {od_law_numbers an_law_numbers : Option Addr} {sl_law_numbers : Array (Option Value)} {oc_law_numbers kV_law_numbers dc_law_numbers pm_law_numbers cd_law_numbers ct_law_numbers : Value} {od_law_page an_law_page : Option Addr} {sl_law_page : Array (Option Value)} {oc_law_page kV_law_page dc_law_page pm_law_page cd_law_page ct_law_page : Value} {od_law an_law : Option Addr} {sl_law : Array (Option Value)} {oc_law kV_law dc_law pm_law cd_law ct_law : Value} {od_ri an_ri : Option Addr} {sl_ri : Array (Option Value)} {oc_ri kV_ri dc_ri pm_ri cd_ri ct_ri dV_ri : Value} {tc_dri : Value} {to_dri : Option Addr} {ti_dri : Array Value} {tn_dri : Nat} {ts_dri : Array (Option Value)} {nm_B qn_B : Str} {ns_B : Addr} {bs_B bm_B : List Value} {sn_B : List Str} {sb_B : List Value} {ab_B : Bool} {co_B : Option Bool} {dd_B : Option Addr} {m0_B m1_B m2_B m3_B m5_B : Option Value} {od_iB an_iB : Option Addr} {sl_iB : Array (Option Value)} {oc_iB kV_iB dc_iB pm_iB cd_iB ct_iB : Value} {rest_pb : List Value} {od_pb an_pb : Option Addr} {sl_pb : Array (Option Value)} {oc_pb kV_pb dc_pb pm_pb cd_pb ct_pb : Value} {rest_pe : List Value} {od_pe an_pe : Option Addr} {sl_pe : Array (Option Value)} {oc_pe kV_pe dc_pe pm_pe cd_pe ct_pe : Value} {od_rq an_rq : Option Addr} {sl_rq : Array (Option Value)} {oc_rq kV_rq dc_rq pm_rq cd_rq ct_rq : Value} {od_pi an_pi : Option Addr} {sl_pi : Array (Option Value)} {oc_pi kV_pi dc_pi pm_pi cd_pi ct_pi dV_pi : Value} {tc_dpi : Value} {to_dpi : Option Addr} {ti_dpi : Array Value} {tn_dpi : Nat} {ts_dpi : Array (Option Value)} {tc_emp : Value} {to_emp : Option Addr} {ti_emp : Array Value} {tn_emp : Nat} {ts_emp : Array (Option Value)} {od_pr an_pr : Option Addr} {sl_pr : Array (Option Value)} {oc_pr kV_pr dc_pr pm_pr cd_pr ct_pr : Value} {od_pw an_pw : Option Addr} {sl_pw : Array (Option Value)} {oc_pw kV_pw dc_pw pm_pw cd_pw ct_pw : Value} {od_pl an_pl : Option Addr} {sl_pl : Array (Option Value)} {oc_pl kV_pl dc_pl pm_pl cd_pl ct_pl : Value} {od_pq an_pq : Option Addr} {sl_pq : Array (Option Value)} {oc_pq kV_pq dc_pq pm_pq cd_pq ct_pq : Value} {od_pA an_pA : Option Addr} {sl_pA : Array (Option Value)} {oc_pA kV_pA dc_pA pm_pA cd_pA ct_pA : Value} {rest_read : List Value} {od_read an_read : Option Addr} {sl_read : Array (Option Value)} {oc_read kV_read dc_read pm_read cd_read ct_read : Value} {t7 tw : Tok}
    (a_is_whole : PySem.W.nsIn K mainGlobals "is_whole" = some (some (.ref f_is_whole)))
    (l_is_whole : K.lookup f_is_whole = some ⟨oc_is_whole, od_is_whole, .func (PySem.W.fnOf "is_whole" "is_whole" (defArgs s_is_whole) (defBody s_is_whole) (defScope s_is_whole) .none kV_is_whole dc_is_whole pm_is_whole an_is_whole cd_is_whole ct_is_whole), sl_is_whole⟩)
    (c_is_whole : PySem.W.codeIn K cd_is_whole "is_whole" = true)
    (k_is_whole : PySem.W.keepIn K (.ref f_is_whole) = true)
    (a_is_between : PySem.W.nsIn K mainGlobals "is_between" = some (some (.ref f_is_between)))
    (l_is_between : K.lookup f_is_between = some ⟨oc_is_between, od_is_between, .func (PySem.W.fnOf "is_between" "is_between" (defArgs s_is_between) (defBody s_is_between) (defScope s_is_between) .none kV_is_between dc_is_between pm_is_between an_is_between cd_is_between ct_is_between), sl_is_between⟩)
    (c_is_between : PySem.W.codeIn K cd_is_between "is_between" = true)
    (k_is_between : PySem.W.keepIn K (.ref f_is_between) = true)
    (a_is_writer_number : PySem.W.nsIn K mainGlobals "is_writer_number" = some (some (.ref f_is_writer_number)))
    (l_is_writer_number : K.lookup f_is_writer_number = some ⟨oc_is_writer_number, od_is_writer_number, .func (PySem.W.fnOf "is_writer_number" "is_writer_number" (defArgs s_is_writer_number) (defBody s_is_writer_number) (defScope s_is_writer_number) .none kV_is_writer_number dc_is_writer_number pm_is_writer_number an_is_writer_number cd_is_writer_number ct_is_writer_number), sl_is_writer_number⟩)
    (c_is_writer_number : PySem.W.codeIn K cd_is_writer_number "is_writer_number" = true)
    (k_is_writer_number : PySem.W.keepIn K (.ref f_is_writer_number) = true)
    (a_is_field : PySem.W.nsIn K mainGlobals "_is_field" = some (some (.ref f_is_field)))
    (l_is_field : K.lookup f_is_field = some ⟨oc_is_field, od_is_field, .func (PySem.W.fnOf "_is_field" "_is_field" (defArgs s_is_field) (defBody s_is_field) (defScope s_is_field) .none kV_is_field dc_is_field pm_is_field an_is_field cd_is_field ct_is_field), sl_is_field⟩)
    (c_is_field : PySem.W.codeIn K cd_is_field "_is_field" = true)
    (k_is_field : PySem.W.keepIn K (.ref f_is_field) = true)
    (a_byte : PySem.W.nsIn K mainGlobals "_byte" = some (some (.ref f_byte)))
    (l_byte : K.lookup f_byte = some ⟨oc_byte, od_byte, .func (PySem.W.fnOf "_byte" "_byte" (defArgs s_byte) (defBody s_byte) (defScope s_byte) .none kV_byte dc_byte pm_byte an_byte cd_byte ct_byte), sl_byte⟩)
    (c_byte : PySem.W.codeIn K cd_byte "_byte" = true)
    (k_byte : PySem.W.keepIn K (.ref f_byte) = true)
    (a_writer : PySem.W.nsIn K mainGlobals "_writer" = some (some (.ref f_writer)))
    (l_writer : K.lookup f_writer = some ⟨oc_writer, od_writer, .func (PySem.W.fnOf "_writer" "_writer" (defArgs s_writer) (defBody s_writer) (defScope s_writer) .none kV_writer dc_writer pm_writer an_writer cd_writer ct_writer), sl_writer⟩)
    (c_writer : PySem.W.codeIn K cd_writer "_writer" = true)
    (k_writer : PySem.W.keepIn K (.ref f_writer) = true)
    (a_row_bytes : PySem.W.nsIn K mainGlobals "_row_bytes" = some (some (.ref f_row_bytes)))
    (l_row_bytes : K.lookup f_row_bytes = some ⟨oc_row_bytes, od_row_bytes, .func (PySem.W.fnOf "_row_bytes" "_row_bytes" (defArgs s_row_bytes) (defBody s_row_bytes) (defScope s_row_bytes) .none kV_row_bytes dc_row_bytes pm_row_bytes an_row_bytes cd_row_bytes ct_row_bytes), sl_row_bytes⟩)
    (c_row_bytes : PySem.W.codeIn K cd_row_bytes "_row_bytes" = true)
    (k_row_bytes : PySem.W.keepIn K (.ref f_row_bytes) = true)
    (a_law_pot : PySem.W.nsIn K mainGlobals "_law_pot" = some (some (.ref f_law_pot)))
    (l_law_pot : K.lookup f_law_pot = some ⟨oc_law_pot, od_law_pot, .func (PySem.W.fnOf "_law_pot" "_law_pot" (defArgs s_law_pot) (defBody s_law_pot) (defScope s_law_pot) .none kV_law_pot dc_law_pot pm_law_pot an_law_pot cd_law_pot ct_law_pot), sl_law_pot⟩)
    (c_law_pot : PySem.W.codeIn K cd_law_pot "_law_pot" = true)
    (k_law_pot : PySem.W.keepIn K (.ref f_law_pot) = true)
    (a_law_draw : PySem.W.nsIn K mainGlobals "_law_draw" = some (some (.ref f_law_draw)))
    (l_law_draw : K.lookup f_law_draw = some ⟨oc_law_draw, od_law_draw, .func (PySem.W.fnOf "_law_draw" "_law_draw" (defArgs s_law_draw) (defBody s_law_draw) (defScope s_law_draw) .none kV_law_draw dc_law_draw pm_law_draw an_law_draw cd_law_draw ct_law_draw), sl_law_draw⟩)
    (c_law_draw : PySem.W.codeIn K cd_law_draw "_law_draw" = true)
    (k_law_draw : PySem.W.keepIn K (.ref f_law_draw) = true)
    (a_law_writer : PySem.W.nsIn K mainGlobals "_law_writer" = some (some (.ref f_law_writer)))
    (l_law_writer : K.lookup f_law_writer = some ⟨oc_law_writer, od_law_writer, .func (PySem.W.fnOf "_law_writer" "_law_writer" (defArgs s_law_writer) (defBody s_law_writer) (defScope s_law_writer) .none kV_law_writer dc_law_writer pm_law_writer an_law_writer cd_law_writer ct_law_writer), sl_law_writer⟩)
    (c_law_writer : PySem.W.codeIn K cd_law_writer "_law_writer" = true)
    (k_law_writer : PySem.W.keepIn K (.ref f_law_writer) = true)
    (a_law_numbers : PySem.W.nsIn K mainGlobals "_law_numbers" = some (some (.ref f_law_numbers)))
    (l_law_numbers : K.lookup f_law_numbers = some ⟨oc_law_numbers, od_law_numbers, .func (PySem.W.fnOf "_law_numbers" "_law_numbers" (defArgs s_law_numbers) (defBody s_law_numbers) (defScope s_law_numbers) .none kV_law_numbers dc_law_numbers pm_law_numbers an_law_numbers cd_law_numbers ct_law_numbers), sl_law_numbers⟩)
    (c_law_numbers : PySem.W.codeIn K cd_law_numbers "_law_numbers" = true)
    (k_law_numbers : PySem.W.keepIn K (.ref f_law_numbers) = true)
    (a_law_page : PySem.W.nsIn K mainGlobals "_law_page" = some (some (.ref f_law_page)))
    (l_law_page : K.lookup f_law_page = some ⟨oc_law_page, od_law_page, .func (PySem.W.fnOf "_law_page" "_law_page" (defArgs s_law_page) (defBody s_law_page) (defScope s_law_page) .none kV_law_page dc_law_page pm_law_page an_law_page cd_law_page ct_law_page), sl_law_page⟩)
    (c_law_page : PySem.W.codeIn K cd_law_page "_law_page" = true)
    (k_law_page : PySem.W.keepIn K (.ref f_law_page) = true)
    (a_law : PySem.W.nsIn K mainGlobals "law" = some (some (.ref f_law)))
    (l_law : K.lookup f_law = some ⟨oc_law, od_law, .func (PySem.W.fnOf "law" "law" (defArgs s_law) (defBody s_law) (defScope s_law) .none kV_law dc_law pm_law an_law cd_law ct_law), sl_law⟩)
    (c_law : PySem.W.codeIn K cd_law "law" = true)
    (k_law : PySem.W.keepIn K (.ref f_law) = true)
    (cG : PySem.W.specialIn K (.builtin "object.__class__") "__get__" = some (some (.builtin "getset_descriptor.__get__")))
    (cT : PySem.W.takesIn K (.builtin "object.__class__") = some true)
    (a_R : PySem.W.nsIn K mainGlobals "Row" = some (some (.ref R)))
    (pg_R : PySem.W.plainGet K R Str.empty = true)
    (hd_R : PySem.W.hasDictIn K R = true)
    (po_R : PySem.W.plainOver K R = true)
    (sa_R : PySem.W.findIn K (.ref R) "__setattr__" = some (some (.builtin "object.__setattr__")))
    (mk_R : PySem.W.makesIn K R = true)
    (kc_R : PySem.W.keepIn K (.ref R) = true)
    (cC_R : PySem.W.findIn K (.ref R) "__class__" = some (some (.builtin "object.__class__")))
    (cM_R : PySem.W.mroIn K R (.type "object") = some true)
    (kk_R : PySem.W.kitOne K (.ref R) (.ref R) = some true)
    (n_R__beginner : PySem.W.findIn K (.ref R) "_beginner" = some none)
    (n_R__ender : PySem.W.findIn K (.ref R) "_ender" = some none)
    (rd_R : PySem.W.readsIn K R (.type "type") = true)
    (ga_R : PySem.W.specialIn K (.ref R) "__getattribute__" = some (some (.builtin "type.__getattribute__")))
    (a_ri : PySem.W.findIn K (.ref R) "__init__" = some (some (.ref f_ri)))
    (i_ri : PySem.W.isFn K (.ref f_ri) = true)
    (l_ri : K.lookup f_ri = some ⟨oc_ri, od_ri, .func (PySem.W.fnOf "__init__" "Row.__init__" (defArgs s_Row_init) (defBody s_Row_init) (defScope s_Row_init) dV_ri kV_ri dc_ri pm_ri an_ri cd_ri ct_ri), sl_ri⟩)
    (c_ri : PySem.W.codeIn K cd_ri "Row.__init__" = true)
    (k_ri : PySem.W.keepIn K (.ref f_ri) = true)
    (dv_ri : dV_ri = .ref t_dri)
    (lk_dri : K.lookup t_dri = some ⟨tc_dri, to_dri, .seq ti_dri tn_dri, ts_dri⟩)
    (cl_dri : tc_dri = .type "tuple")
    (sz_dri : ti_dri.size ≤ sizeLine)
    (vl_dri : Vals [.non, .non] ti_dri.toList)
    (a_D : PySem.W.nsIn K mainGlobals "PagesError" = some (some (.ref D)))
    (a_B : PySem.W.nsIn K mainGlobals "BadRow" = some (some (.ref B)))
    (x_B : K.lookup B = some (excClassObj nm_B qn_B B ns_B bs_B bm_B true sn_B sb_B ab_B co_B dd_B m0_B m1_B m2_B m3_B m5_B "ValueError.__new__"))
    (rv_B : PySem.HandSPX.refsVE bm_B = true)
    (sa_B : PySem.W.findIn K (.ref B) "__setattr__" = some (some (.builtin "object.__setattr__")))
    (gt_B : PySem.W.findIn K (.ref B) "__getattribute__" = some (some (.builtin "BaseException.__getattribute__")))
    (gg_B : PySem.W.findIn K (.ref B) "__getattr__" = some none)
    (cC_B : PySem.W.findIn K (.ref B) "__class__" = some (some (.builtin "object.__class__")))
    (no_B : PySem.W.findIn K (.ref B) "field" = some none)
    (ex_B : PySem.W.subIn K (.ref B) (.type "BaseException") = some true)
    (ty_B : PySem.W.typeIn K (.ref B) = some (.type "type"))
    (kc_B : PySem.W.keepIn K (.ref B) = true)
    (hd_B : PySem.W.hasDictIn K B = true)
    (ic_B : (PySem.W.clsIn K B).isSome = true)
    (cM_B : PySem.W.mroIn K B (.type "object") = some true)
    (ss_B : PySem.W.subIn K (.ref B) (.ref B) = some true)
    (in_B : PySem.W.findIn K (.ref B) "__init__" = some (some (.ref f_iB)))
    (it_B : PySem.W.typeIn K (.ref f_iB) = some (.type "function"))
    (l_iB : K.lookup f_iB = some ⟨oc_iB, od_iB, .func (PySem.W.fnOf "__init__" "BadRow.__init__" (defArgs s_BadRow_init) (defBody s_BadRow_init) (defScope s_BadRow_init) .none kV_iB dc_iB pm_iB an_iB cd_iB ct_iB), sl_iB⟩)
    (c_iB : PySem.W.codeIn K cd_iB "BadRow.__init__" = true)
    (k_iB : PySem.W.keepIn K (.ref f_iB) = true)
    (rd_D : PySem.W.readsIn K D (.type "type") = true)
    (ga_D : PySem.W.specialIn K (.ref D) "__getattribute__" = some (some (.builtin "type.__getattribute__")))
    (up_D : PySem.W.findCls K (.ref D) (.type "type") "__init__" = some (.val (.builtin "ValueError.__init__")))
    (a_pb : PySem.W.findIn K (.ref R) "beginner" = some (some (.ref p_pb)))
    (g1_pb : PySem.W.specialIn K (.ref p_pb) "__get__" = some (some (.builtin "property.__get__")))
    (g2_pb : PySem.W.takesIn K (.ref p_pb) = some true)
    (r_pb : PySem.W.recIn K p_pb "property" = some (.ref f_pb :: rest_pb))
    (l_pb : K.lookup f_pb = some ⟨oc_pb, od_pb, .func (PySem.W.fnOf "beginner" "Row.beginner" (defArgs s_Row_beginner) (defBody s_Row_beginner) (defScope s_Row_beginner) .none kV_pb dc_pb pm_pb an_pb cd_pb ct_pb), sl_pb⟩)
    (c_pb : PySem.W.codeIn K cd_pb "Row.beginner" = true)
    (k_pb : PySem.W.keepIn K (.ref f_pb) = true)
    (a_pe : PySem.W.findIn K (.ref R) "ender" = some (some (.ref p_pe)))
    (g1_pe : PySem.W.specialIn K (.ref p_pe) "__get__" = some (some (.builtin "property.__get__")))
    (g2_pe : PySem.W.takesIn K (.ref p_pe) = some true)
    (r_pe : PySem.W.recIn K p_pe "property" = some (.ref f_pe :: rest_pe))
    (l_pe : K.lookup f_pe = some ⟨oc_pe, od_pe, .func (PySem.W.fnOf "ender" "Row.ender" (defArgs s_Row_ender) (defBody s_Row_ender) (defScope s_Row_ender) .none kV_pe dc_pe pm_pe an_pe cd_pe ct_pe), sl_pe⟩)
    (c_pe : PySem.W.codeIn K cd_pe "Row.ender" = true)
    (k_pe : PySem.W.keepIn K (.ref f_pe) = true)
    (a_rq : PySem.W.findIn K (.ref R) "__eq__" = some (some (.ref f_rq)))
    (i_rq : PySem.W.isFn K (.ref f_rq) = true)
    (l_rq : K.lookup f_rq = some ⟨oc_rq, od_rq, .func (PySem.W.fnOf "__eq__" "Row.__eq__" (defArgs s_Row_eq) (defBody s_Row_eq) (defScope s_Row_eq) .none kV_rq dc_rq pm_rq an_rq cd_rq ct_rq), sl_rq⟩)
    (c_rq : PySem.W.codeIn K cd_rq "Row.__eq__" = true)
    (k_rq : PySem.W.keepIn K (.ref f_rq) = true)
    (nfR : PySem.W.notFirst K R (.ref R) = true)
    (a_PC : PySem.W.nsIn K mainGlobals "Page" = some (some (.ref PC)))
    (pg_PC : PySem.W.plainGet K PC Str.empty = true)
    (hd_PC : PySem.W.hasDictIn K PC = true)
    (po_PC : PySem.W.plainOver K PC = true)
    (sa_PC : PySem.W.findIn K (.ref PC) "__setattr__" = some (some (.builtin "object.__setattr__")))
    (mk_PC : PySem.W.makesIn K PC = true)
    (kc_PC : PySem.W.keepIn K (.ref PC) = true)
    (cC_PC : PySem.W.findIn K (.ref PC) "__class__" = some (some (.builtin "object.__class__")))
    (cM_PC : PySem.W.mroIn K PC (.type "object") = some true)
    (kk_PC : PySem.W.kitOne K (.ref PC) (.ref PC) = some true)
    (n_PC__rows : PySem.W.findIn K (.ref PC) "_rows" = some none)
    (rd_PC : PySem.W.readsIn K PC (.type "type") = true)
    (ga_PC : PySem.W.specialIn K (.ref PC) "__getattribute__" = some (some (.builtin "type.__getattribute__")))
    (a_pi : PySem.W.findIn K (.ref PC) "__init__" = some (some (.ref f_pi)))
    (i_pi : PySem.W.isFn K (.ref f_pi) = true)
    (l_pi : K.lookup f_pi = some ⟨oc_pi, od_pi, .func (PySem.W.fnOf "__init__" "Page.__init__" (defArgs s_Page_init) (defBody s_Page_init) (defScope s_Page_init) dV_pi kV_pi dc_pi pm_pi an_pi cd_pi ct_pi), sl_pi⟩)
    (c_pi : PySem.W.codeIn K cd_pi "Page.__init__" = true)
    (k_pi : PySem.W.keepIn K (.ref f_pi) = true)
    (dv_pi : dV_pi = .ref t_dpi)
    (lk_dpi : K.lookup t_dpi = some ⟨tc_dpi, to_dpi, .seq ti_dpi tn_dpi, ts_dpi⟩)
    (cl_dpi : tc_dpi = .type "tuple")
    (sz_dpi : ti_dpi.size ≤ sizeLine)
    (vl_dpi : Vals [.ref t_emp] ti_dpi.toList)
    (lk_emp : K.lookup t_emp = some ⟨tc_emp, to_emp, .seq ti_emp tn_emp, ts_emp⟩)
    (cl_emp : tc_emp = .type "tuple")
    (sz_emp : ti_emp.size ≤ sizeLine)
    (vl_emp : Vals [] ti_emp.toList)
    (a_pr : PySem.W.findIn K (.ref PC) "raw" = some (some (.ref f_pr)))
    (i_pr : PySem.W.isFn K (.ref f_pr) = true)
    (l_pr : K.lookup f_pr = some ⟨oc_pr, od_pr, .func (PySem.W.fnOf "raw" "Page.raw" (defArgs s_Page_raw) (defBody s_Page_raw) (defScope s_Page_raw) .none kV_pr dc_pr pm_pr an_pr cd_pr ct_pr), sl_pr⟩)
    (c_pr : PySem.W.codeIn K cd_pr "Page.raw" = true)
    (k_pr : PySem.W.keepIn K (.ref f_pr) = true)
    (a_pw : PySem.W.findIn K (.ref PC) "rows" = some (some (.ref f_pw)))
    (i_pw : PySem.W.isFn K (.ref f_pw) = true)
    (l_pw : K.lookup f_pw = some ⟨oc_pw, od_pw, .func (PySem.W.fnOf "rows" "Page.rows" (defArgs s_Page_rows) (defBody s_Page_rows) (defScope s_Page_rows) .none kV_pw dc_pw pm_pw an_pw cd_pw ct_pw), sl_pw⟩)
    (c_pw : PySem.W.codeIn K cd_pw "Page.rows" = true)
    (k_pw : PySem.W.keepIn K (.ref f_pw) = true)
    (a_pl : PySem.W.findIn K (.ref PC) "__len__" = some (some (.ref f_pl)))
    (i_pl : PySem.W.isFn K (.ref f_pl) = true)
    (l_pl : K.lookup f_pl = some ⟨oc_pl, od_pl, .func (PySem.W.fnOf "__len__" "Page.__len__" (defArgs s_Page_len) (defBody s_Page_len) (defScope s_Page_len) .none kV_pl dc_pl pm_pl an_pl cd_pl ct_pl), sl_pl⟩)
    (c_pl : PySem.W.codeIn K cd_pl "Page.__len__" = true)
    (k_pl : PySem.W.keepIn K (.ref f_pl) = true)
    (a_pq : PySem.W.findIn K (.ref PC) "__eq__" = some (some (.ref f_pq)))
    (i_pq : PySem.W.isFn K (.ref f_pq) = true)
    (l_pq : K.lookup f_pq = some ⟨oc_pq, od_pq, .func (PySem.W.fnOf "__eq__" "Page.__eq__" (defArgs s_Page_eq) (defBody s_Page_eq) (defScope s_Page_eq) .none kV_pq dc_pq pm_pq an_pq cd_pq ct_pq), sl_pq⟩)
    (c_pq : PySem.W.codeIn K cd_pq "Page.__eq__" = true)
    (k_pq : PySem.W.keepIn K (.ref f_pq) = true)
    (a_pA : PySem.W.findIn K (.ref PC) "__iadd__" = some (some (.ref f_pA)))
    (i_pA : PySem.W.isFn K (.ref f_pA) = true)
    (l_pA : K.lookup f_pA = some ⟨oc_pA, od_pA, .func (PySem.W.fnOf "__iadd__" "Page.__iadd__" (defArgs s_Page_iadd) (defBody s_Page_iadd) (defScope s_Page_iadd) .none kV_pA dc_pA pm_pA an_pA cd_pA ct_pA), sl_pA⟩)
    (c_pA : PySem.W.codeIn K cd_pA "Page.__iadd__" = true)
    (k_pA : PySem.W.keepIn K (.ref f_pA) = true)
    (a_read : PySem.W.findCls K (.ref PC) (.type "type") "read" = some (.get (.builtin "staticmethod.__get__") (.ref p_read) .none (.ref PC)))
    (r_read : PySem.W.recIn K p_read "staticmethod" = some (.ref f_read :: rest_read))
    (l_read : K.lookup f_read = some ⟨oc_read, od_read, .func (PySem.W.fnOf "read" "Page.read" (defArgs s_Page_read) (defBody s_Page_read) (defScope s_Page_read) .none kV_read dc_read pm_read an_read cd_read ct_read), sl_read⟩)
    (c_read : PySem.W.codeIn K cd_read "Page.read" = true)
    (k_read : PySem.W.keepIn K (.ref f_read) = true)
    (nfP : PySem.W.notFirst K PC (.ref PC) = true)
    (sfP : PySem.W.selfFirst K PC = true)
    (m7 : PySem.W.nsIn K mainGlobals "MOST_ROWS" = some (some (.int 7 t7)))
    (lw : PySem.W.nsIn K mainGlobals "LAST_WRITER" = some (some (.int 30 tw)))
    (z_len : PySem.W.nsIn K mainGlobals "len" = some none)
    (z_int : PySem.W.nsIn K mainGlobals "int" = some none)
    (z_bool : PySem.W.nsIn K mainGlobals "bool" = some none)
    (z_isinstance : PySem.W.nsIn K mainGlobals "isinstance" = some none)
    (z_range : PySem.W.nsIn K mainGlobals "range" = some none)
    (z_sum : PySem.W.nsIn K mainGlobals "sum" = some none)
    (z_list : PySem.W.nsIn K mainGlobals "list" = some none)
    (z_enumerate : PySem.W.nsIn K mainGlobals "enumerate" = some none)
    (z_all : PySem.W.nsIn K mainGlobals "all" = some none)
    (z_bytes : PySem.W.nsIn K mainGlobals "bytes" = some none) :
    ∃ fd : FuncData, (∀ (s : Shared) (v : Value), BindsTo s fd ⟨[v], []⟩ [("script", v)]) ∧ ∀ base : Heap, K.In base → base.Ns mainGlobals mg → FnOk l.prog w K mg base CX0 9 fa fd ["script"] (spLaw K) := by
  have e := hfa.symm.trans (PySem.W.mg_of X G a_law)
  cases e
  have F_is_whole := fun_mk (st := s_is_whole) l_is_whole c_is_whole k_is_whole
  have b_is_whole := F_is_whole.binds (ps := ["value"]) fun _ _ _ _ _ _ us hl => match us, hl with | [_], _ => rfl
  have F_is_between := fun_mk (st := s_is_between) l_is_between c_is_between k_is_between
  have b_is_between := F_is_between.binds (ps := ["value", "low", "high"]) fun _ _ _ _ _ _ us hl => match us, hl with | [_, _, _], _ => rfl
  have F_is_writer_number := fun_mk (st := s_is_writer_number) l_is_writer_number c_is_writer_number k_is_writer_number
  have b_is_writer_number := F_is_writer_number.binds (ps := ["value"]) fun _ _ _ _ _ _ us hl => match us, hl with | [_], _ => rfl
  have F_is_field := fun_mk (st := s_is_field) l_is_field c_is_field k_is_field
  have b_is_field := F_is_field.binds (ps := ["value"]) fun _ _ _ _ _ _ us hl => match us, hl with | [_], _ => rfl
  have F_byte := fun_mk (st := s_byte) l_byte c_byte k_byte
  have b_byte := F_byte.binds (ps := ["writer"]) fun _ _ _ _ _ _ us hl => match us, hl with | [_], _ => rfl
  have F_writer := fun_mk (st := s_writer) l_writer c_writer k_writer
  have b_writer := F_writer.binds (ps := ["byte"]) fun _ _ _ _ _ _ us hl => match us, hl with | [_], _ => rfl
  have F_row_bytes := fun_mk (st := s_row_bytes) l_row_bytes c_row_bytes k_row_bytes
  have b_row_bytes := F_row_bytes.binds (ps := ["rows"]) fun _ _ _ _ _ _ us hl => match us, hl with | [_], _ => rfl
  have F_law_pot := fun_mk (st := s_law_pot) l_law_pot c_law_pot k_law_pot
  have b_law_pot := F_law_pot.binds (ps := ["script"]) fun _ _ _ _ _ _ us hl => match us, hl with | [_], _ => rfl
  have F_law_draw := fun_mk (st := s_law_draw) l_law_draw c_law_draw k_law_draw
  have b_law_draw := F_law_draw.binds (ps := ["pot", "many"]) fun _ _ _ _ _ _ us hl => match us, hl with | [_, _], _ => rfl
  have F_law_writer := fun_mk (st := s_law_writer) l_law_writer c_law_writer k_law_writer
  have b_law_writer := F_law_writer.binds (ps := ["pot"]) fun _ _ _ _ _ _ us hl => match us, hl with | [_], _ => rfl
  have F_law_numbers := fun_mk (st := s_law_numbers) l_law_numbers c_law_numbers k_law_numbers
  have b_law_numbers := F_law_numbers.binds (ps := ["fields"]) fun _ _ _ _ _ _ us hl => match us, hl with | [_], _ => rfl
  have F_law_page := fun_mk (st := s_law_page) l_law_page c_law_page k_law_page
  have b_law_page := F_law_page.binds (ps := ["fields"]) fun _ _ _ _ _ _ us hl => match us, hl with | [_], _ => rfl
  have F_law := fun_mk (st := s_law) l_law c_law k_law
  have F_iB := fun_mk (st := s_BadRow_init) l_iB c_iB k_iB
  have b_iB := F_iB.binds (ps := ["self", "field"]) fun _ _ _ _ _ _ us hl => match us, hl with | [_, _], _ => rfl
  have ox_B : OexC K B := ⟨⟨_, _, _, _, _, _, _, _, _, _, _, _, _, _, _, x_B, rv_B⟩, sa_B, ex_B, ty_B, kc_B⟩
  have F_pb := fun_mk (st := s_Row_beginner) l_pb c_pb k_pb
  have b_pb := F_pb.binds (ps := ["self"]) fun _ _ _ _ _ _ us hl => match us, hl with | [_], _ => rfl
  have F_pe := fun_mk (st := s_Row_ender) l_pe c_pe k_pe
  have b_pe := F_pe.binds (ps := ["self"]) fun _ _ _ _ _ _ us hl => match us, hl with | [_], _ => rfl
  have F_rq := fun_mk (st := s_Row_eq) l_rq c_rq k_rq
  have b_rq := F_rq.binds (ps := ["self", "other"]) fun _ _ _ _ _ _ us hl => match us, hl with | [_, _], _ => rfl
  have F_pr := fun_mk (st := s_Page_raw) l_pr c_pr k_pr
  have b_pr := F_pr.binds (ps := ["self"]) fun _ _ _ _ _ _ us hl => match us, hl with | [_], _ => rfl
  have F_pw := fun_mk (st := s_Page_rows) l_pw c_pw k_pw
  have b_pw := F_pw.binds (ps := ["self"]) fun _ _ _ _ _ _ us hl => match us, hl with | [_], _ => rfl
  have F_pl := fun_mk (st := s_Page_len) l_pl c_pl k_pl
  have b_pl := F_pl.binds (ps := ["self"]) fun _ _ _ _ _ _ us hl => match us, hl with | [_], _ => rfl
  have F_pq := fun_mk (st := s_Page_eq) l_pq c_pq k_pq
  have b_pq := F_pq.binds (ps := ["self", "other"]) fun _ _ _ _ _ _ us hl => match us, hl with | [_, _], _ => rfl
  have F_pA := fun_mk (st := s_Page_iadd) l_pA c_pA k_pA
  have b_pA := F_pA.binds (ps := ["self", "row"]) fun _ _ _ _ _ _ us hl => match us, hl with | [_, _], _ => rfl
  have F_read := fun_mk (st := s_Page_read) l_read c_read k_read
  have b_read := F_read.binds (ps := ["data"]) fun _ _ _ _ _ _ us hl => match us, hl with | [_], _ => rfl
  refine ⟨PySem.W.fnOf "law" "law" (defArgs s_law) (defBody s_law) (defScope s_law) .none kV_law dc_law pm_law an_law cd_law ct_law, fun s v => .of_eq rfl, fun base _ _ => ?_⟩
  have mz : ∀ {n : Str}, PySem.W.nsIn K mainGlobals n = some none → mg n = none := fun z => PySem.W.mg_none_of X G z
  have TI : NmI mg := ⟨mz z_isinstance, mz z_int, mz z_bool⟩
  have GW := ok_wholeG (P := l.prog) (w := w) (base := base) F_is_whole TI
  have GB := ok_betwG F_is_between GW k_is_whole b_is_whole (PySem.W.mg_of X G a_is_whole)
  have GI := ok_isWG F_is_writer_number GB k_is_between b_is_between (PySem.W.mg_of X G a_is_between) ⟨tw, PySem.W.mg_of X G lw⟩
  have gI := PySem.W.mg_of X G a_is_writer_number
  have GF := ok_field F_is_field GI k_is_writer_number b_is_writer_number gI
  have er : Err l.prog w K mg base "BadRow" "field" B f_iB _ (spErr K "field") := ⟨ox_B, no_B, PySem.W.mg_of X G a_B, in_B, it_B, ok_BadRow_init F_iB (PySem.W.mg_of X G a_D) ⟨⟨rd_D, ga_D⟩, up_D⟩, b_iB⟩
  have clR : Cls K R := ⟨pg_R, hd_R, po_R, sa_R⟩
  have RT : RowT l.prog w K mg base R B f_is_field f_iB _ _ := ⟨clR, n_R__beginner, n_R__ender, GF, k_is_field, b_is_field, PySem.W.mg_of X G a_is_field, er⟩
  have DR : RowD K f_ri _ := ⟨⟨oc_ri, od_ri, dV_ri, kV_ri, dc_ri, pm_ri, an_ri, cd_ri, ct_ri, sl_ri, rfl, l_ri, c_ri, .inr ⟨by simp, t_dri, _, ti_dri.toList, tn_dri, dv_ri, lk_dri, rfl, vl_dri⟩, .inl rfl⟩, k_ri⟩
  have GR := ok_Row_init (P := l.prog) (w := w) (base := base) DR RT
  have RM : RowM l.prog w K mg base R B f_ri _ := ⟨⟨mk_R, a_ri, i_ri, kc_R⟩, PySem.W.mg_of X G a_R, GR, row_b2 DR, row_b1 DR, row_b0 DR⟩
  have RC : RowC K mg R := ⟨clR, cC_R, cG, cT, cM_R, kk_R⟩
  have GD : FnOk l.prog w K mg base CX0 1 f_law_draw _ ["pot", "many"] spDraw := ok_draw F_law_draw (mz z_int) (mz z_len)
  have DW : Drw l.prog w K mg base f_law_draw _ := ⟨GD, k_law_draw, b_law_draw, PySem.W.mg_of X G a_law_draw⟩
  have PT : PgT K mg PC := ⟨⟨pg_PC, hd_PC, po_PC, sa_PC⟩, n_PC__rows, mz z_isinstance, mz z_list, mz z_len, mz z_all, mz z_enumerate, ⟨t7, PySem.W.mg_of X G m7⟩⟩
  have DP : PageD K f_pi _ [.ref t_emp] := ⟨⟨oc_pi, od_pi, dV_pi, kV_pi, dc_pi, pm_pi, an_pi, cd_pi, ct_pi, sl_pi, rfl, l_pi, c_pi, .inr ⟨by simp, t_dpi, _, ti_dpi.toList, tn_dpi, dv_pi, lk_dpi, rfl, vl_dpi⟩, .inl rfl⟩, k_pi⟩
  have RP : RowP l.prog w K mg base R p_pb p_pe f_pb f_pe _ _ := ⟨clR, ⟨a_pb, g1_pb, g2_pb, ⟨_, r_pb⟩⟩, fn_getter l_pb c_pb sc_Row_beginner rfl rfl clR n_R__beginner, b_pb, ⟨a_pe, g1_pe, g2_pe, ⟨_, r_pe⟩⟩, fn_getter l_pe c_pe sc_Row_ender rfl rfl clR n_R__ender, b_pe⟩
  have CB : Cal l.prog w K mg base CX0 1 f_byte _ "_byte" ["writer"] spByte := ⟨ok_byte F_byte, k_byte, b_byte, PySem.W.mg_of X G a_byte⟩
  have CR : Cal l.prog w K mg base CX0 3 f_row_bytes _ "_row_bytes" ["rows"] (spRB K R) := ⟨ok_rb F_row_bytes CB RP, k_row_bytes, b_row_bytes, PySem.W.mg_of X G a_row_bytes⟩
  have CW : Cal l.prog w K mg base CX0 1 f_writer _ "_writer" ["byte"] spWr := ⟨ok_wr F_writer, k_writer, b_writer, PySem.W.mg_of X G a_writer⟩
  have gR := PySem.W.mg_of X G a_R
  have gP := PySem.W.mg_of X G a_PC
  have PCt : RowC K mg PC := ⟨PT.cl, cC_PC, cG, cT, cM_PC, kk_PC⟩
  have GRE := Vx.fnR (ok_row_eq (P := l.prog) (w := w) (base := base) F_rq RC gR TI.isi n_R__beginner n_R__ender) b_rq
  have GPE := Vx.fnR (ok_pg_eq F_pq PCt gP TI.isi n_PC__rows nfR a_rq i_rq GRE) b_pq
  have NM : PgM l.prog w K mg base R PC t_emp f_pi f_pA _ _ := { mkP := ⟨mk_PC, a_pi, i_pi, kc_PC⟩, g := gP, F := ok_page_init DP PT RC gR, b1 := page_b1 DP, F0 := ok_page_init0 DP PT RC gR, b0 := page_b0 DP, t0 := fun H => .inr ⟨_, _, _, lk_emp, cl_emp, rfl, sz_emp, vl_emp⟩, cl := PT.cl, sf := sfP, ia := a_pA, fnA := i_pA, FA := ok_iadd F_pA PT RC gR, bA := b_pA }
  have RD : RdT mg := ⟨mz z_bytes, mz z_range, mz z_sum, ⟨tw, PySem.W.mg_of X G lw⟩⟩
  exact ok_law F_law { pot := ⟨ok_pot F_law_pot (mz z_int), k_law_pot, b_law_pot, PySem.W.mg_of X G a_law_pot⟩, draw := ⟨GD, k_law_draw, b_law_draw, PySem.W.mg_of X G a_law_draw⟩, wtr := ⟨ok_wtr F_law_writer DW, k_law_writer, b_law_writer, PySem.W.mg_of X G a_law_writer⟩, nums := ⟨ok_nums F_law_numbers (mz z_len) (mz z_int) (mz z_sum), k_law_numbers, b_law_numbers, PySem.W.mg_of X G a_law_numbers⟩, lp := ⟨ok_law_page F_law_page RM NM, k_law_page, b_law_page, PySem.W.mg_of X G a_law_page⟩, len := mz z_len, range := mz z_range, list := mz z_list, Z := RM, N := NM, mR := ⟨a_pr, i_pr, k_pr⟩, FR := ok_raw F_pr PT CR (mz z_sum) (mz z_bytes), bR := b_pr, mW := ⟨a_pw, i_pw, k_pw⟩, FW := ok_pg_rows F_pw PT, bW := b_pw, lnA := a_pl, lnF := i_pl, FL := Vx.fnR (ok_pg_len F_pl PT) b_pl, rd := ⟨rd_PC, ga_PC⟩, sm := ⟨a_read, ⟨_, r_read⟩, k_read⟩, FRd := Vx.fnR (ok_read F_read PT RD RM NM CW) b_read, nf := nfP, eqA := a_pq, eqF := i_pq, FE := GPE, RP := RP }
theorem walk {l : PySem.W.OpenLaw} {q : Program} {loose : List Str} {XP : (Str → Option Value) → Heap → Prop} {YP : World → Heap → Prop} {d : DefRec} {K : Params → PySem.W.Frag} (hn : l.most = some 63) (hdf : d.params.defaults = [])
    (hY : ∀ (w : World) (h : Heap), YP w h → (K w.params).In h)
    (F : ∀ (w : World) (mg : Str → Option Value) (fa : Addr) (h : Heap), (K w.params).In h → h.Ns mainGlobals mg → mg d.name = some (.ref fa) →
      ∃ fd : FuncData, (∀ (s : Shared) (u : Value), BindsTo s fd ⟨[u], []⟩ [("script", u)]) ∧ ∀ base : Heap, (K w.params).In base → base.Ns mainGlobals mg → FnOk l.prog w (K w.params) mg base CX0 9 fa fd ["script"] (spLaw (K w.params))) :
    PySem.W.WalkO q loose XP YP l.row.toRowW d [] (fun f vs => PySem.call f vs) :=
  L2.walk_of (n := 63) (k := 9) (x := "script") (CX := fun _ => CX0) (sp := fun w => spLaw (K w.params)) hn (by decide) hdf ⟨rfl, by decide, by decide⟩ hY F (fun _ _ a ns hl _ hS => ⟨a, ns, rfl, hS, hl, fun _ => rfl⟩) fun _ _ _ _ _ z => z
end Toy
open PySem PySem.W PyProof.Rows in
set_option maxRecDepth 100000 in
set_option maxHeartbeats 0 in
theorem PySem.Challenge.cw_trustedpages_k08_bytes_of_a_page_holds : PySem.Challenge.rw_trustedpages_k08_bytes_of_a_page.Holds := by
  w_on; o_law; k_head; (case hw => w_witness2)
  k_fill
  refine Toy.walk (l := PySem.Challenge.rw_trustedpages_k08_bytes_of_a_page) rfl rfl (fun w h Y => PySem.W.kIn_of Y) ?F
  case F =>
    intro w mg fa h KX G hmg
    refine' Toy.all_mk KX G hmg ?a_is_whole ?l_is_whole ?c_is_whole ?k_is_whole ?a_is_between ?l_is_between ?c_is_between ?k_is_between ?a_is_writer_number ?l_is_writer_number ?c_is_writer_number ?k_is_writer_number ?a_is_field ?l_is_field ?c_is_field ?k_is_field ?a_byte ?l_byte ?c_byte ?k_byte ?a_writer ?l_writer ?c_writer ?k_writer ?a_row_bytes ?l_row_bytes ?c_row_bytes ?k_row_bytes ?a_law_pot ?l_law_pot ?c_law_pot ?k_law_pot ?a_law_draw ?l_law_draw ?c_law_draw ?k_law_draw ?a_law_writer ?l_law_writer ?c_law_writer ?k_law_writer ?a_law_numbers ?l_law_numbers ?c_law_numbers ?k_law_numbers ?a_law_page ?l_law_page ?c_law_page ?k_law_page ?a_law ?l_law ?c_law ?k_law ?cG ?cT ?a_R ?pg_R ?hd_R ?po_R ?sa_R ?mk_R ?kc_R ?cC_R ?cM_R ?kk_R ?n_R__beginner ?n_R__ender ?rd_R ?ga_R ?a_ri ?i_ri ?l_ri ?c_ri ?k_ri ?dv_ri ?lk_dri ?cl_dri ?sz_dri ?vl_dri ?a_D ?a_B ?x_B ?rv_B ?sa_B ?gt_B ?gg_B ?cC_B ?no_B ?ex_B ?ty_B ?kc_B ?hd_B ?ic_B ?cM_B ?ss_B ?in_B ?it_B ?l_iB ?c_iB ?k_iB ?rd_D ?ga_D ?up_D ?a_pb ?g1_pb ?g2_pb ?r_pb ?l_pb ?c_pb ?k_pb ?a_pe ?g1_pe ?g2_pe ?r_pe ?l_pe ?c_pe ?k_pe ?a_rq ?i_rq ?l_rq ?c_rq ?k_rq ?nfR ?a_PC ?pg_PC ?hd_PC ?po_PC ?sa_PC ?mk_PC ?kc_PC ?cC_PC ?cM_PC ?kk_PC ?n_PC__rows ?rd_PC ?ga_PC ?a_pi ?i_pi ?l_pi ?c_pi ?k_pi ?dv_pi ?lk_dpi ?cl_dpi ?sz_dpi ?vl_dpi ?lk_emp ?cl_emp ?sz_emp ?vl_emp ?a_pr ?i_pr ?l_pr ?c_pr ?k_pr ?a_pw ?i_pw ?l_pw ?c_pw ?k_pw ?a_pl ?i_pl ?l_pl ?c_pl ?k_pl ?a_pq ?i_pq ?l_pq ?c_pq ?k_pq ?a_pA ?i_pA ?l_pA ?c_pA ?k_pA ?a_read ?r_read ?l_read ?c_read ?k_read ?nfP ?sfP ?m7 ?lw ?z_len ?z_int ?z_bool ?z_isinstance ?z_range ?z_sum ?z_list ?z_enumerate ?z_all ?z_bytes
    (case a_is_whole => k_is)
    (case l_is_whole => k_is)
    (case c_is_whole => k_is)
    (case k_is_whole => k_is)
    (case a_is_between => k_is)
    (case l_is_between => k_is)
    (case c_is_between => k_is)
    (case k_is_between => k_is)
    (case a_is_writer_number => k_is)
    (case l_is_writer_number => k_is)
    (case c_is_writer_number => k_is)
    (case k_is_writer_number => k_is)
    (case a_is_field => k_is)
    (case l_is_field => k_is)
    (case c_is_field => k_is)
    (case k_is_field => k_is)
    (case a_byte => k_is)
    (case l_byte => k_is)
    (case c_byte => k_is)
    (case k_byte => k_is)
    (case a_writer => k_is)
    (case l_writer => k_is)
    (case c_writer => k_is)
    (case k_writer => k_is)
    (case a_row_bytes => k_is)
    (case l_row_bytes => k_is)
    (case c_row_bytes => k_is)
    (case k_row_bytes => k_is)
    (case a_law_pot => k_is)
    (case l_law_pot => k_is)
    (case c_law_pot => k_is)
    (case k_law_pot => k_is)
    (case a_law_draw => k_is)
    (case l_law_draw => k_is)
    (case c_law_draw => k_is)
    (case k_law_draw => k_is)
    (case a_law_writer => k_is)
    (case l_law_writer => k_is)
    (case c_law_writer => k_is)
    (case k_law_writer => k_is)
    (case a_law_numbers => k_is)
    (case l_law_numbers => k_is)
    (case c_law_numbers => k_is)
    (case k_law_numbers => k_is)
    (case a_law_page => k_is)
    (case l_law_page => k_is)
    (case c_law_page => k_is)
    (case k_law_page => k_is)
    (case a_law => k_is)
    (case l_law => k_is)
    (case c_law => k_is)
    (case k_law => k_is)
    (case cG => k_is)
    (case cT => k_is)
    (case a_R => k_is)
    (case pg_R => k_is)
    (case hd_R => k_is)
    (case po_R => k_is)
    (case sa_R => k_is)
    (case mk_R => k_is)
    (case kc_R => k_is)
    (case cC_R => k_is)
    (case cM_R => k_is)
    (case kk_R => exact if_pos (beq_self_eq_true _))
    (case n_R__beginner => k_is)
    (case n_R__ender => k_is)
    (case rd_R => k_is)
    (case ga_R => k_is)
    (case a_ri => k_is)
    (case i_ri => k_is)
    (case l_ri => k_is)
    (case c_ri => k_is)
    (case k_ri => k_is)
    (case dv_ri => rfl)
    (case lk_dri => k_is)
    (case cl_dri => rfl)
    (case sz_dri => decide)
    (case vl_dri => exact .cons rfl (.cons rfl .nil))
    (case a_D => k_is)
    (case a_B => k_is)
    (case x_B => k_is)
    (case rv_B => decide +kernel)
    (case sa_B => k_is)
    (case gt_B => k_is)
    (case gg_B => k_is)
    (case cC_B => k_is)
    (case no_B => k_is)
    (case ex_B => k_is)
    (case ty_B => k_is)
    (case kc_B => k_is)
    (case hd_B => k_is)
    (case ic_B => first | rfl | k_is)
    (case cM_B => k_is)
    (case ss_B => first | rfl | k_is)
    (case in_B => k_is)
    (case it_B => k_is)
    (case l_iB => k_is)
    (case c_iB => k_is)
    (case k_iB => k_is)
    (case rd_D => k_is)
    (case ga_D => k_is)
    (case up_D => k_is)
    (case a_pb => k_is)
    (case g1_pb => k_is)
    (case g2_pb => k_is)
    (case r_pb => k_is)
    (case l_pb => k_is)
    (case c_pb => k_is)
    (case k_pb => k_is)
    (case a_pe => k_is)
    (case g1_pe => k_is)
    (case g2_pe => k_is)
    (case r_pe => k_is)
    (case l_pe => k_is)
    (case c_pe => k_is)
    (case k_pe => k_is)
    (case a_rq => k_is)
    (case i_rq => k_is)
    (case l_rq => k_is)
    (case c_rq => k_is)
    (case k_rq => k_is)
    (case nfR => k_is)
    (case a_PC => k_is)
    (case pg_PC => k_is)
    (case hd_PC => k_is)
    (case po_PC => k_is)
    (case sa_PC => k_is)
    (case mk_PC => k_is)
    (case kc_PC => k_is)
    (case cC_PC => k_is)
    (case cM_PC => k_is)
    (case kk_PC => exact if_pos (beq_self_eq_true _))
    (case n_PC__rows => k_is)
    (case rd_PC => k_is)
    (case ga_PC => k_is)
    (case a_pi => k_is)
    (case i_pi => k_is)
    (case l_pi => k_is)
    (case c_pi => k_is)
    (case k_pi => k_is)
    (case dv_pi => rfl)
    (case lk_dpi => k_is)
    (case cl_dpi => rfl)
    (case sz_dpi => decide)
    (case vl_dpi => exact .cons rfl .nil)
    (case lk_emp => k_is)
    (case cl_emp => rfl)
    (case sz_emp => decide)
    (case vl_emp => exact .nil)
    (case a_pr => k_is)
    (case i_pr => k_is)
    (case l_pr => k_is)
    (case c_pr => k_is)
    (case k_pr => k_is)
    (case a_pw => k_is)
    (case i_pw => k_is)
    (case l_pw => k_is)
    (case c_pw => k_is)
    (case k_pw => k_is)
    (case a_pl => k_is)
    (case i_pl => k_is)
    (case l_pl => k_is)
    (case c_pl => k_is)
    (case k_pl => k_is)
    (case a_pq => k_is)
    (case i_pq => k_is)
    (case l_pq => k_is)
    (case c_pq => k_is)
    (case k_pq => k_is)
    (case a_pA => k_is)
    (case i_pA => k_is)
    (case l_pA => k_is)
    (case c_pA => k_is)
    (case k_pA => k_is)
    (case a_read => k_is)
    (case r_read => k_is)
    (case l_read => k_is)
    (case c_read => k_is)
    (case k_read => k_is)
    (case nfP => k_is)
    (case sfP => k_is)
    (case m7 => k_is)
    (case lw => k_is)
    (case z_len => k_is)
    (case z_int => k_is)
    (case z_bool => k_is)
    (case z_isinstance => k_is)
    (case z_range => k_is)
    (case z_sum => k_is)
    (case z_list => k_is)
    (case z_enumerate => k_is)
    (case z_all => k_is)
    (case z_bytes => k_is)
